import PyProof.Rows.All
import Wide.All
import OpenK.AllK
import Wide.FinOn
import Lean
import PyProof.EqAt
import PyProof.EqKinds
import PyProof.TupleCall
import PyProof.Rows.SortRunsK
import KE.KSortTup
import KE.KDictList
import KE.KDictOf
import PyProof.AttrMissHeap
import KE.KRevIter
import PyProof.Rows.SumAny
import PyProof.EnumMake
import PyProof.EnumFor
import PyProof.EnumStmt
import PySem.Challenge.RW_laidmarks_k35_whole_ways_and_bars
set_option linter.all false
set_option Elab.async false
set_option maxRecDepth 100000
set_option maxHeartbeats 4000000
namespace PySem.W.Fast
def tw14142677589778168241:=0
def tw4606933179619988704:=0
def tw10107338714807691724:=0
def tw2188335680425093626:=0
def tw4795498007016675573:=0
def tw6739798561289567288:=0
def tw1245601974520479923:=0
def tw6219119153982811117:=0
def tw5580758497044049521:=0
def tw5110419387230521366:=0
def tw16516237990084943287:=0
def tw17675475868401107322:=0
def tw1363226574836771004:=0
def tw6983447584275933969:=0
def tw1070292242718055178:=0
def tw2513441547734482630:=0
def tw7188889999013129681:=0
def tw11300787395158930120:=0
def tw10936433813907648264:=0
def tw10375457162029588025:=0
def tw12137115401727855414:=0
def tw14696208094876169646:=0
def tw2955371964870827803:=0
def tw6738343248884678121:=0
def tw9828385652803342868:=0
def tw394658064254301271:=0
def tw4713697005676418922:=0
def tw8929884416585779463:=0
def tw8387706784060222181:=0
def tw15012526076591647028:=0
def tw13838129667008908319:=0
def tw2567856259956135618:=0
def tw12876261237468289724:=0
def tw17586625889797446695:=0
def tw9631407540385956762:=0
def tw14483499716118034472:=0
def tw3539824680480525698:=0
def tw5827975689028482790:=0
def tw3689510847567425743:=0
def tw16873221156309253697:=0
def tw13969018592212873802:=0
def tw10846974530169204310:=0
def tw9854628760671675847:=0
def tw2083747614204323780:=0
def tw7258064938489771523:=0
def tw5061410287537722908:=0
def tw508710630123159272:=0
def tw16503448013677626852:=0
def tw18239116317545182618:=0
def tw17305954500302438324:=0
def tw911950893261219708:=0
def tw5246278703914648840:=0
def tw13546575509317425685:=0
def tw3880799816437560045:=0
def tw12158396519896630242:=0
def tw15373756241936149686:=0
def tw7058656209203505238:=0
def tw11984811416015428763:=0
def tw3493011573322904808:=0
def tw11332269473409347399:=0
def tw7884162653128506882:=0
def tw6948668348459282620:=0
def tw1179066192756323171:=0
def tw12523948261250876540:=0
def tw2654254566256770952:=0
def tw16153244834614497221:=0
def tw17067836548626227094:=0
def tw11810504555422313108:=0
def tw15903142564705016621:=0
def tw10683107763520965343:=0
def tw15629517585559890173:=0
def tw12873927373833246855:=0
def tw9110055924161444284:=0
def tw14699121708848966149:=0
def tw17520417706583839882:=0
def tw6758168908508692014:=0
def tw5627987227161526926:=0
def tw714528388493967231:=0
def tw17674484121889952028:=0
def tw17682054295110674827:=0
def tw15681547151951078623:=0
def tw7681874983101166710:=0
def tw16881794838100279764:=0
def tw14845717975641013766:=0
def tw8815519116622746122:=0
def tw1172075118190911550:=0
def tw15642640502835630037:=0
def tw9676086197254599562:=0
def tw934028225608382772:=0
def tw5496301455873647817:=0
def tw13689660547941646079:=0
def tw13564811374181266397:=0
def tw6244652090028255201:=0
def tw15481820235757089135:=0
def tw7156008298666920005:=0
def tw2334217846080346677:=0
def tw7765116232639673474:=0
def tw6045427205529838108:=0
def tw3853869241406190453:=0
def tw12030630798990285488:=0
def tw1147622099835831832:=0
def tw15042767910841710956:=0
def tw12120963068063855922:=0
def tw13080620342238394765:=0
def tw16370224570835520443:=0
def tw2842254962602883784:=0
def tw15786172571998088419:=0
def tw4506324075559640476:=0
def tw15308520857446215397:=0
def tw4621889338516145689:=0
def tw11297076046551655073:=0
def tw4056289214685523614:=0
def tw9919725735626160611:=0
def tw4282811154964171265:=0
def tw7546065466506726811:=0
def tw12340146548123842397:=0
def tw17854654265077296137:=0
def tw10589158113139782689:=0
def tw17904900222885396809:=0
def tw16381778119263152243:=0
def tw1926071356941863654:=0
def tw14621955362925495750:=0
def tw9037314096209839531:=0
def tw16042264512481130439:=0
def tw11817852973625509186:=0
def tw748238896333696529:=0
def tw7776440685275123413:=0
def tw11244605054388356022:=0
def tw12404776466862025575:=0
def tw851002436147177868:=0
def tw15379837728255417389:=0
def tw12553983362845079971:=0
def tw3677890720551918332:=0
def tw9563574024648358546:=0
def tw5429272610479510633:=0
def tw16185854256501897123:=0
def tw11643847167075823150:=0
def tw12079649084161440425:=0
def tw2321407281366467994:=0
def tw17426486267844163080:=0
def tw2178870749520624651:=0
def tw13876445231338808996:=0
def tw7370207318862099427:=0
def tw4724946240374367004:=0
def tw10156578183021774308:=0
def tw1204839697174131406:=0
def tw9921126057504730830:=0
def tw11832211774813875390:=0
def tw8684105460876372953:=0
def tw18328132783364298345:=0
def tw10025093910871600800:=0
def tw7276465768920846745:=0
def tw186805202205600801:=0
def tw14807964615415389757:=0
def tw12182347067728554285:=0
def tw1578887010892104307:=0
def tw5363685352838705028:=0
def tw8070834479914796124:=0
def tw15248591866755973448:=0
def tw5632759857538436465:=0
def tw17659663529776709553:=0
def tw5486362499738990843:=0
def tw11891316059658161351:=0
def tw9960494323096699287:=0
def tw8916933046272068065:=0
def tw3535157681916632316:=0
def tw5224396300110002503:=0
def tw18211968028251872095:=0
def tw90081764648351479:=0
def tw17894079235486778943:=0
def tw8018005869510688492:=0
def tw8489255034970672875:=0
def tw7432799388271028529:=0
def tw11166869679858259965:=0
def tw14532339520505181289:=0
def tw16549072039410090109:=0
def tw10165394889689784658:=0
def tw2830481267605433767:=0
def tw14343620200300650999:=0
def tw13738946918661452499:=0
def tw7147296432258170336:=0
def tw13583339230044378155:=0
def tw5747436351345402480:=0
def tw15502398159792897093:=0
def tw3468179263711785683:=0
def tw17949853954022003317:=0
def tw6516077686626518018:=0
def tw17235067567211319681:=0
def tw1597239036912234238:=0
def tw8848609961303469742:=0
def tw9170747915989092997:=0
def tw4203081641382929506:=0
def tw6159705793456676340:=0
def tw2865691762966509654:=0
def tw15906973973301488634:=0
def tw14191659002059412853:=0
def tw18027700937261679758:=0
def tw17046415692357626292:=0
def tw16348313294932238181:=0
def tw17395350680445588117:=0
def tw749068802308895651:=0
def tw6913037110523968707:=0
def tw9330162551423185678:=0
def tw4559118473918176843:=0
def tw10354969770810210119:=0
def tw9239169629599727955:=0
def tw2599959000148626223:=0
def tw12912630518449747787:=0
def tw14053907614540278884:=0
def tw1154585464424653625:=0
def tw2120837882219719176:=0
def tw6635885857431989202:=0
def tw14618156268159928369:=0
def tw2653293713677046412:=0
def tw10618895709082968814:=0
def tw945066146034483938:=0
def tw9947463803887916092:=0
def tw14889804491005028255:=0
def tw8281365056591243460:=0
def tw10917244625083533812:=0
def tw9212728780769289676:=0
def tw9020787736986188831:=0
def tw5189656252620198522:=0
def tw7512632387674403364:=0
def tw4807152047962356061:=0
def tw12077118013717884385:=0
def tw5258233879813058330:=0
def tw17512125547336900690:=0
def tw15784125241292413956:=0
def tw10565106595049915746:=0
def tw18139996823126331189:=0
def tw14613684354537206040:=0
def tw13947775750226257125:=0
def tw12465326038350245826:=0
def tw8481987361298151711:=0
def tw3824992107427211544:=0
def tw11012863885828520127:=0
def tw925987981127888498:=0
def tw6297141035735846075:=0
def tw5566130731930257469:=0
end PySem.W.Fast
namespace L2
open PySem PySem.Spec PyProof.Rows
abbrev Key:=Sum Int Str
def K1:Key→Value→Bool
 |.inl k,v=>Value.isInt k v
 |.inr x,v=>Value.isStrOf x v
def keyH(w:World):Key→Int
 |.inl k=>hashInt k
 |.inr x=>hashStr w x
theorem A7:∀{k:Key} {v:Value},K1 k v=true→(∃i t,k=Sum.inl i∧v=Value.int i t)∨(∃x t,k=Sum.inr x∧v=Value.str x t)
 |.inl i,v,h=>by
  obtain⟨t,e⟩:=Value.isInt_shape (k:=i) (v:=v) h
  exact .inl ⟨i,t,rfl,e⟩
 |.inr x,v,h=>by
  obtain⟨t,e⟩:=Value.isStrOf_shape (x:=x) (v:=v) h
  exact .inr ⟨x,t,rfl,e⟩
theorem Tp(i:Int)(t:Tok):K1 (.inl i) (.int i t)=true:=by simp[K1,Value.isInt]
theorem To(x:Str)(t:Tok):K1 (.inr x) (.str x t)=true:=by simp[K1,Value.isStrOf]
theorem Adn(a b:Int):decide ((Sum.inl a:Key)=Sum.inl b)=(a == b):=by
 by_cases e:a=b
 ·subst e;simp
 ·have h:¬(Sum.inl a:Key)=Sum.inl b:=fun q=>e (Sum.inl.inj q)
  rw[decide_eq_false h]
  exact(beq_eq_false_iff_ne.mpr e).symm
theorem Adk(a b:Str):decide ((Sum.inr a:Key)=Sum.inr b)=decide (a=b):=by
 by_cases e:a=b
 ·subst e;simp
 ·have h:¬(Sum.inr a:Key)=Sum.inr b:=fun q=>e (Sum.inr.inj q)
  rw[decide_eq_false h,decide_eq_false e]
theorem Adm(a:Int)(b:Str):decide ((Sum.inl a:Key)=Sum.inr b)=false:=decide_eq_false (fun q=>nomatch q)
theorem Adl(a:Str)(b:Int):decide ((Sum.inr a:Key)=Sum.inl b)=false:=decide_eq_false (fun q=>nomatch q)

def A4(prog:Program)(w:World):PySem.KeyKind prog w Key where
 is:=K1
 hash:=keyH w
 inj:=fun v a b ha hb=>by
  rcases A7 ha with ⟨i,t,rfl,rfl⟩|⟨x,t,rfl,rfl⟩
  ·rcases A7 hb with ⟨j,u,rfl,e⟩|⟨y,u,rfl,e⟩
   ·injection e with e1 _;rw[e1]
   ·exact nomatch e
  ·rcases A7 hb with ⟨j,u,rfl,e⟩|⟨y,u,rfl,e⟩
   ·exact nomatch e
   ·injection e with e1 _;rw[e1]
 byValue:=fun k v h=>by
  rcases A7 h with ⟨i,t,rfl,rfl⟩|⟨x,t,rfl,rfl⟩<;>rfl
 pyHash:=fun hv h=>by
  rcases A7 hv with ⟨i,t,rfl,rfl⟩|⟨x,t,rfl,rfl⟩
  ·exact wpAny_pyHash_int h
  ·exact wpAny_pyHash_str h
 eqBool:=fun hu hv h=>by
  rcases A7 hu with ⟨i,t,rfl,rfl⟩|⟨x,t,rfl,rfl⟩
  ·rcases A7 hv with ⟨j,u,rfl,rfl⟩|⟨y,u,rfl,rfl⟩
   ·rw[Adn] at h;exact wpAny_eqBool_int h
   ·rw[Adm] at h;exact SeqAt.EqAt.int_str i t y u _ _ _ _ h
  ·rcases A7 hv with ⟨j,u,rfl,rfl⟩|⟨y,u,rfl,rfl⟩
   ·rw[Adl] at h;exact SeqAt.EqAt.str_int x t j u _ _ _ _ h
   ·rw[Adk] at h;exact wpAny_eqBool_str h
 «strs»:=fun k x t v h=>by
  rcases A7 h with ⟨i,u,rfl,e⟩|⟨y,u,rfl,e⟩
  ·exact nomatch e
  ·injection e with e1 _
   subst e1
   cases v<;>rfl

theorem Pf(prog:Program)(w:World)(i:Int)(t:Tok):(A4 prog w).is (.inl i) (.int i t)=true:=Tp i t
theorem Pe(prog:Program)(w:World)(x:Str)(t:Tok):(A4 prog w).is (.inr x) (.str x t)=true:=To x t
end L2
namespace L2
open PySem PySem.Spec PyProof.Rows
inductive V where
 |non|bl (b:Bool)|int (i:Int)|str (x:Str)|byt (b:Array UInt8)|flt (b:UInt64)|ref (a:Addr)|ty (n:String)
 deriving DecidableEq

def RelV:V→Value→Prop
 |.non,u=>u=Value.none
 |.bl b,u=>u=Value.bool b
 |.int i,u=>∃t,u=Value.int i t
 |.str x,u=>∃t,u=Value.str x t
 |.byt b,u=>∃t,u=Value.bytes b t
 |.flt b,u=>∃t,u=Value.float b t
 |.ref a,u=>u=Value.ref a
 |.ty n,u=>u=Value.type n

abbrev Vals:List V→List Value→Prop:=Paired RelV
theorem Vals.length{xs:List V}{us:List Value}(r:Vals xs us):xs.length=us.length:=Paired.length r
theorem Vals.get:∀{xs:List V} {us:List Value} {i:Nat} {x:V},Vals xs us→xs[i]? = some x→∃u,us[i]? = some u∧RelV x u
 |_,_,_,_,.nil,e=>by simp at e
 |_,_,0,_,.cons r _,e=>by simp at e;subst e;exact⟨_,rfl,r⟩
 |_,_,i+1,x,.cons _ t,e=>by
  obtain⟨u,h1,h2⟩:=Vals.get (i:=i) (x:=x) t (by simpa using e)
  exact⟨u,by simpa using h1,h2⟩
theorem Vals.set{x:V}{u:Value}(r:RelV x u):∀{xs:List V} {us:List Value} (i:Nat),Vals xs us→Vals (xs.set i x) (us.set i u)
 |_,_,_,.nil=>.nil
 |_,_,0,.cons _ t=>.cons r t
 |_,_,i+1,.cons q t=>.cons q (Vals.set r i t)
theorem Vals.append:∀{xs ys:List V} {us ws:List Value},Vals xs us→Vals ys ws→Vals (xs++ys) (us++ws)
 |_,_,_,_,.nil,s=>s
 |_,_,_,_,.cons r t,s=>.cons r (Vals.append t s)
theorem Vals.take:∀{xs:List V} {us:List Value} (n:Nat),Vals xs us→Vals (xs.take n) (us.take n)
 |_,_,0,_=>.nil
 |_,_,_+1,.nil=>.nil
 |_,_,n+1,.cons r t=>.cons r (Vals.take n t)
theorem Vals.drop:∀{xs:List V} {us:List Value} (n:Nat),Vals xs us→Vals (xs.drop n) (us.drop n)
 |_,_,0,r=>r
 |_,_,_+1,.nil=>.nil
 |_,_,n+1,.cons _ t=>Vals.drop n t
def RelO:Option V→Option Value→Prop
 |some v,some u=>RelV v u
 |none,none=>True
 |_,_=>False
def KV{κ:Type}:List (κ×V)→List (κ×Value)→Prop:=Paired fun(p:κ×V) (q:κ×Value)=>p.1=q.1∧RelV p.2 q.2

def kV:Key→V
 |.inl i=>.int i
 |.inr x=>.str x

inductive HO where
 /-- a list -/
 |lst (xs:List V)
 /-- a tuple (never changes) -/
 |tup (xs:List V)
 /-- a dict whose keys are ints and texts;one whose keys are tuples of ints and texts (the empty one is both) -/
 |dK (kvs:List (Key×V))|dT (kvs:List (List Key×V))
 /-- a set of ints: its members,its size -/
 |set (S:Int→Bool) (n:Nat)
 /-- an instance of the class at C,its dict at dx,its attributes -/
 |ins (C dx:Addr) (fs:List (Str×V))
 /-- the dict of the instance at x -/
 |own (x:Addr)
 /-- the dict of an exception -/
 |xd (fs:List (Str×V))
 /-- a bound method,f of x -/
 |met (f x:Addr)
 /-- a range object lo,lo+1,.. below hi -/
 |rng (lo hi:Int)
 /-- a thing that is known to the object (the script;a dict while a loop walks it): read,never written while it is so -/
 |frz (o:Obj) (u:HO)
 /-- a code object's table -/
 |tbl (ps:Array Value)
 /-- any other thing,by what is true of its one object (a def of one's own: SetO a S n:=HO.ext fun h=>..) -/
 |ext (φ:Heap→Prop)

abbrev Hp:=Addr→Option HO
def upd(H:Hp)(a:Addr)(o:HO):Hp:=fun b=>if b=a then some o else H b
theorem Ar{H:Hp}{a:Addr}{o:HO}:upd H a o a=some o:=by unfold upd;rw[if_pos rfl]
theorem Am{H:Hp}{a b:Addr}{o:HO}(h:b≠a):upd H a o b=H b:=by unfold upd;rw[if_neg h]
theorem Ha{H:Hp}{a b:Addr}{o u:HO}(h:H a=some o)(h':H b=some u)(d:o≠u):a≠b:=by
 intro e;subst e;rw[h] at h';exact d (Option.some.inj h')
theorem Bf{H:Hp}{a b:Addr}{o:HO}(h:H a=some o)(h':H b=none):a≠b:=by
 intro e;subst e;rw[h] at h';cases h'

section
variable(P:Program)(w:World)
def ObjOk(H:Hp)(h:Heap)(a:Addr):HO→Prop
 |.lst xs=>xs.length≤sizeLine∧∃(its:List Value) (n:Nat),Vals xs its∧h.get? a=some { cls:=.type "list",data:=.seq its.toArray n }
 |.tup xs=>xs.length≤sizeLine∧∃its:List Value,Vals xs its∧IsTup h a its.toArray
 |.dK kvs=>kvs.length≤sizeLine∧(a == sysModules)=false∧∃vs,KV kvs vs∧h.DictOf (A4 P w) a vs
 |.dT kvs=>kvs.length≤sizeLine∧(a == sysModules)=false∧∃xs:List (List Key×Addr×Value),
   Paired (fun(p:List Key×V) (q:List Key×Addr×Value)=>p.1=q.1∧H q.2.1=some (.tup (p.1.map kV))∧RelV p.2 q.2.2) kvs xs∧
   ∃o es ep,h.get? a=some o∧o.ExactDict∧o.data=.dict es ep∧es.toList=xs.map (entryOfKey (tupleKind (A4 P w)))∧(xs.map (·.1)).Nodup
 |.set S n=>h.SetOf (intKind P w) a S n
 |.ins C dx fs=>H dx=some (.own a)∧fs.length≤1000∧dx≠a∧h.get? a=some (PySem.W.instObj C dx)∧
   ∃mA,h.Ns1 dx mA∧(∀f,RelO (fs.lookup f) (mA f))∧PySem.Within mA (fs.map (·.1))
 |.own _=>∃o,h.get? a=some o
 |.xd fs=>∃mA,h.Ns1 a mA∧∀f,RelO (fs.lookup f) (mA f)
 |.rng lo hi=>∃t u v,h.get? a=some { cls:=.type "range",data:=.fields #[.int lo t,.int hi u,.int 1 v] }
 |.frz o u=>h.get? a=some o∧ObjOk H h a u
 |.tbl ps=>h.get? a=some { cls:=.none,data:=.fields ps }
 |.met f x=>h.get? a=some (PySem.W.methodObj (.ref f) (.ref x))
 |.ext φ=>φ h∧(∃o,h.get? a=some o)∧∀h1 h2:Heap,φ h1→(∀o,h1.get? a=some o→h2.get? a=some o)→φ h2
def HOk(H:Hp)(h:Heap):Prop:=∀a o,H a=some o→ObjOk P w H h a o
end
section
variable{P:Program}{w:World}{H H':Hp}{h h':Heap}{a:Addr}{o:HO}
theorem ObjOk.lt(x:ObjOk P w H h a o):a<h.objs.size:=by
 cases o with
 |lst xs=>obtain⟨_,_,_,_,e⟩:=x;exact Heap.lt_size e
 |tup xs=>obtain⟨_,_,_,p⟩:=x;exact p.lt
 |dK kvs=>obtain⟨_,_,_,_,o,_,_,e,_⟩:=x;exact Heap.lt_size e
 |dT kvs=>obtain⟨_,_,_,_,o,_,_,e,_⟩:=x;exact Heap.lt_size e
 |set S n=>obtain⟨o,_,_,_,e,_⟩:=x;exact Heap.lt_size e
 |ins C dx fs=>obtain⟨_,_,_,e,_⟩:=x;exact Heap.lt_size e
 |own y=>obtain⟨_,e⟩:=x;exact Heap.lt_size e
 |xd fs=>obtain⟨_,⟨_,_,_,e,_⟩,_⟩:=x;exact Heap.lt_size e
 |rng lo hi=>obtain⟨_,_,_,e⟩:=x;exact Heap.lt_size e
 |frz ob u=>obtain⟨e,_⟩:=x;exact Heap.lt_size e
 |tbl ps=>exact Heap.lt_size (show h.get? a=some _ from x)
 |met f y=>exact Heap.lt_size (show h.get? a=some _ from x)
 |ext φ=>obtain⟨_,⟨_,e⟩,_⟩:=x;exact Heap.lt_size e
theorem Paired.mapP{α β:Type}{F G:α→β→Prop}:∀{l₁:List α} {l₂:List β},Paired F l₁ l₂→(∀a b,F a b→G a b)→Paired G l₁ l₂
 |_,_,.nil,_=>.nil
 |_,_,.cons r t,f=>.cons (f _ _ r) (Paired.mapP t f)
theorem ObjOk.stay(x:ObjOk P w H h a o)(k:∀b u,(b=a∨H b=some (.own a))→h.get? b=some u→h'.get? b=some u)(ho:∀b,H b=some (.own a)→H' b=some (.own a))(ht:∀b xs,H b=some (.tup xs)→H' b=some (.tup xs)):ObjOk P w H' h' a o:=by
 induction o with
 |lst xs=>obtain⟨z,its,n,r,e⟩:=x;exact⟨z,its,n,r,k _ _ (.inl rfl) e⟩
 |tup xs=>obtain⟨z,its,r,ob,e,c⟩:=x;exact⟨z,its,r,ob,k _ _ (.inl rfl) e,c⟩
 |dK kvs=>obtain⟨z,y,vs,r,ob,es,ep,e,c⟩:=x;exact⟨z,y,vs,r,ob,es,ep,k _ _ (.inl rfl) e,c⟩
 |dT kvs=>
  obtain⟨z,y,xs,r,ob,es,ep,e,c⟩:=x
  exact⟨z,y,xs,Paired.mapP r fun p q z=>⟨z.1,ht _ _ z.2.1,z.2.2⟩,ob,es,ep,k _ _ (.inl rfl) e,c⟩
 |set S n=>obtain⟨ob,es,ep,t,e,c⟩:=x;exact⟨ob,es,ep,t,k _ _ (.inl rfl) e,c⟩
 |ins C dx fs=>
  obtain⟨d,z,ne,e,mA,⟨od,es,ep,e2,c⟩,r⟩:=x
  exact⟨ho _ d,z,ne,k _ _ (.inl rfl) e,mA,⟨od,es,ep,k _ _ (.inr d) e2,c⟩,r⟩
 |own y=>obtain⟨ob,e⟩:=x;exact⟨ob,k _ _ (.inl rfl) e⟩
 |xd fs=>obtain⟨mA,⟨od,es,ep,e,c⟩,r⟩:=x;exact⟨mA,⟨od,es,ep,k _ _ (.inl rfl) e,c⟩,r⟩
 |rng lo hi=>obtain⟨t,u,v,e⟩:=x;exact⟨t,u,v,k _ _ (.inl rfl) e⟩
 |frz ob u ih=>obtain⟨e,q⟩:=x;exact⟨k _ _ (.inl rfl) e,ih q⟩
 |tbl ps=>
  have e:h.get? a=some { cls:=.none,data:=.fields ps }:=x
  show h'.get? a=some { cls:=.none,data:=.fields ps }
  exact k a _ (.inl rfl) e
 |met f y=>
  have e:h.get? a=some (PySem.W.methodObj (.ref f) (.ref y)):=x
  show h'.get? a=some (PySem.W.methodObj (.ref f) (.ref y))
  exact k a _ (.inl rfl) e
 |ext φ=>obtain⟨p,⟨o,e⟩,st⟩:=x;exact⟨st _ _ p fun o q=>k _ _ (.inl rfl) q,⟨o,k _ _ (.inl rfl) e⟩,st⟩
theorem HOk.lt(x:HOk P w H h)(e:H a=some o):a<h.objs.size:=(x a o e).lt
theorem HOk.fresh(x:HOk P w H h)(e:h.objs.size≤a):H a=none:=by
 cases q:H a with
 |none=>rfl
 |some u=>exact absurd (Nat.lt_of_lt_of_le (x.lt q) e) (Nat.lt_irrefl _)
theorem HOk.kept(x:HOk P w H h)(k:∀b u,h.get? b=some u→h'.get? b=some u):HOk P w H h':=fun a o e=>
 (x a o e).stay (fun b u _ q=>k b u q) (fun _ q=>q) fun _ _ q=>q
theorem HOk.laid(x:HOk P w H h)(k:∀b u,h.get? b=some u→h'.get? b=some u)(hp:h.objs.size≤a)(new:ObjOk P w (upd H a o) h' a o):HOk P w (upd H a o) h':=fun b u e=>by
 have hn:=x.fresh hp
 by_cases hb:b=a
 ·subst hb;rw[Ar] at e;cases e;exact new
 ·rw[Am hb] at e
  exact(x b u e).stay (fun c v _ q=>k c v q) (fun c q=>by rw[Am (Bf q hn)];exact q) fun c xs q=>by rw[Am (Bf q hn)];exact q
end
def Rd(H:Hp)(a:Addr)(u:HO):Prop:=H a=some u∨∃o,H a=some (.frz o u)
theorem Rd.ok{P:Program}{w:World}{H:Hp}{h:Heap}{a:Addr}{u:HO}(r:Rd H a u)(x:HOk P w H h):ObjOk P w H h a u:=by
 rcases r with r|⟨o,r⟩
 ·exact x a u r
 ·obtain⟨_,q⟩:=x a _ r
  exact q
def Mut:Option HO→Prop
 |some (.lst _)=>True
 |some (.dK _)=>True
 |some (.dT _)=>True
 |some (.set _ _)=>True
 |some (.ins _ _ _)=>True
 |some (.ext _)=>True
 |_=>False
section
variable{P:Program}{w:World}{H:Hp}{h h':Heap}{x e:Addr}{o':HO}
theorem HOk.write(ok:HOk P w H h)(mu:Mut (H x))(he:e=x∨H e=some (.own x))(k:∀b u,b≠e→h.get? b=some u→h'.get? b=some u)(heo:∃u,h'.get? e=some u)(new:ObjOk P w (upd H x o') h' x o'):HOk P w (upd H x o') h':=fun b u q=>by
 have nown:∀c y,H c=some (.own y)→c≠x:=fun c y r z=>by subst z;rw[r] at mu;exact mu
 have ntup:∀c xs,H c=some (.tup xs)→c≠x:=fun c xs r z=>by subst z;rw[r] at mu;exact mu
 by_cases hb:b=x
 ·subst hb;rw[Ar] at q;cases q;exact new
 ·rw[Am hb] at q
  by_cases hbe:b=e
  ·have q':H b=some (.own x):=by
    rcases he with z|z
    ·exact absurd (hbe.trans z) hb
    ·rw[hbe];exact z
   rw[q] at q';cases q'
   obtain⟨v,hv⟩:=heo
   exact⟨v,by rw[hbe];exact hv⟩
  ·refine(ok b u q).stay (fun c v hc r=>k c v ?_ r) (fun c r=>by rw[Am (nown c b r)];exact r) fun c xs r=>by rw[Am (ntup c xs r)];exact r
   rcases hc with rfl|hc
   ·exact hbe
   ·rintro rfl
    rcases he with z|z
    ·exact nown c b hc z
    ·rw[hc] at z;cases z;exact hb rfl
end
structure Un(fs ex:List Addr)(H H':Hp)(h h':Heap):Prop where
 keep:∀b o,h.get? b=some o→H b=none→b ∉ fs→b ∉ ex→h'.get? b=some o
 slot:∀b o,h.get? b=some o→H b=none→b∈fs→b ∉ ex→∃sl,h'.get? b=some { o with slots:=sl }
 free:∀b o,h.get? b=some o→H b=none→b ∉ ex→H' b=none
 there:∀b o,h.get? b=some o→b ∉ ex→∃o',h'.get? b=some o'
 tups:∀b xs,H b=some (.tup xs)→H' b=some (.tup xs)
 frzs:∀b o u,H b=some (.frz o u)→H' b=some (.frz o u)
 tbls:∀b ps,H b=some (.tbl ps)→∃more,H' b=some (.tbl (ps++more))
section
variable{fs fs' ex ex':List Addr}{H H1 H2:Hp}{h h1 h2 h':Heap}{a x e:Addr}{o:HO}
theorem Un.any(u:Un fs ex H H1 h h1){b:Addr}{ob:Obj}(q:h.get? b=some ob)(n:H b=none)(hx:b ∉ ex):∃sl,h1.get? b=some { ob with slots:=sl }:=by
 by_cases hb:b∈fs
 ·exact u.slot b ob q n hb hx
 ·exact⟨ob.slots,u.keep b ob q n hb hx⟩
theorem Un.trans(a:Un fs ex H H1 h h1)(b:Un fs ex H1 H2 h1 h2):Un fs ex H H2 h h2 where
 keep:=fun c ob q n hc hx=>b.keep c ob (a.keep c ob q n hc hx) (a.free c ob q n hx) hc hx
 slot:=fun c ob q n hc hx=>by
  obtain⟨sl,e1⟩:=a.slot c ob q n hc hx
  obtain⟨sl',e2⟩:=b.slot c _ e1 (a.free c ob q n hx) hc hx
  exact⟨sl',e2⟩
 free:=fun c ob q n hx=>by
  obtain⟨o',e1⟩:=a.there c ob q hx
  exact b.free c o' e1 (a.free c ob q n hx) hx
 there:=fun c ob q hx=>by
  obtain⟨o',e1⟩:=a.there c ob q hx
  exact b.there c o' e1 hx
 tups:=fun c xs q=>b.tups c xs (a.tups c xs q)
 frzs:=fun c ob xs q=>b.frzs c ob xs (a.frzs c ob xs q)
 tbls:=fun c ps q=>by
  obtain⟨m1,e1⟩:=a.tbls c ps q
  obtain⟨m2,e2⟩:=b.tbls c _ e1
  exact⟨m1++m2,by rw[e2,Array.append_assoc]⟩
theorem Un.kept(k:∀b u,h.get? b=some u→h'.get? b=some u):Un fs ex H H h h':=
 ⟨fun b ob q _ _ _=>k b ob q,fun b ob q _ _ _=>⟨ob.slots,k b ob q⟩,fun _ _ _ n _=>n,fun b ob q _=>⟨ob,k b ob q⟩,fun _ _ q=>q,fun _ _ _ q=>q,fun _ ps q=>⟨#[],by rw[q];simp⟩⟩
theorem Un.refl:Un fs ex H H h h:=Un.kept fun _ _ q=>q
theorem Un.laid(k:∀b u,h.get? b=some u→h'.get? b=some u)(hp:h.objs.size≤a)(hn:H a=none):Un fs ex H (upd H a o) h h' where
 keep:=fun b u q _ _ _=>k b u q
 slot:=fun b u q _ _ _=>⟨u.slots,k b u q⟩
 free:=fun b u q n _=>by rw[Am (Nat.ne_of_lt (Nat.lt_of_lt_of_le (Heap.lt_size q) hp))];exact n
 there:=fun b u q _=>⟨u,k b u q⟩
 tups:=fun b xs q=>by rw[Am (Bf q hn)];exact q
 frzs:=fun b u xs q=>by rw[Am (Bf q hn)];exact q
 tbls:=fun b ps q=>⟨#[],by rw[Am (Bf q hn),q];simp⟩
theorem Un.write(mu:Mut (H x))(he:e=x∨H e=some (.own x))(k:∀b u,b≠e→h.get? b=some u→h'.get? b=some u)(heo:∃u,h'.get? e=some u):Un fs ex H (upd H x o) h h':=by
 have hx:∀b,H b=none→b≠x:=fun b n z=>by subst z;rw[n] at mu;exact mu
 have hb:∀b,H b=none→b≠e:=fun b n z=>by
  subst z
  rcases he with r|r
  ·exact hx b n r
  ·rw[n] at r;cases r
 have hm:∀b u,H b=some u→¬Mut (some u)→b≠x:=fun b u q nm z=>by subst z;rw[q] at mu;exact nm mu
 refine⟨fun b u q n _ _=>k b u (hb b n) q,fun b u q n _ _=>⟨u.slots,k b u (hb b n) q⟩,fun b u q n _=>by rw[Am (hx b n)];exact n,fun b u q _=>?_,
  fun b xs q=>by rw[Am (hm b _ q fun z=>z)];exact q,fun b u xs q=>by rw[Am (hm b _ q fun z=>z)];exact q,fun b ps q=>⟨#[],by rw[Am (hm b _ q fun z=>z),q];simp⟩⟩
 by_cases hbe:b=e
 ·subst hbe;exact heo
 ·exact⟨u,k b u hbe q⟩
end
def trk(h:Heap)(H:Hp):List Addr:=(List.range h.objs.size).filter fun a=>(H a).isSome
def L1(h:Heap)(H:Hp):Heap:=PySem.W.hideAll h (trk h H)
theorem Tu(h:Heap)(H:Hp):(L1 h H).objs.size=h.objs.size:=PySem.W.hideAll_size _ _
theorem Xx{h:Heap}{H:Hp}{b:Addr}{o:Obj}(e:h.get? b=some o)(n:H b=none):(L1 h H).get? b=some o:=
 PySem.W.hideAll_get _ e fun hm=>by
  have q:(H b).isSome=true:=(List.mem_filter.mp hm).2
  rw[n] at q;simp at q
theorem Aaf{h:Heap}{H:Hp}{b:Addr}{o:Obj}(e:(L1 h H).get? b=some o):h.get? b=some o∧H b=none:=by
 have e':h.get? b=some o:=PySem.W.of_hideAll (trk h H) e
 refine⟨e',?_⟩
 cases q:H b with
 |none=>rfl
 |some x=>
  have hm:b∈trk h H:=List.mem_filter.mpr ⟨List.mem_range.mpr (Heap.lt_size e'),by simp[q]⟩
  have z:(L1 h H).get? b=none:=PySem.W.hideAll_none (trk h H) hm
  rw[z] at e;cases e

def Aa0(g h:Heap)(L:Addr):List (Addr×Obj):=(List.range h.objs.size).filterMap fun a=>if a=L∨(g.get? a).isSome=true then none else (h.get? a).map fun o=>(a,o)
def rest(g h:Heap)(L d:Addr):List (Addr×Obj):=(Aa0 g h L).filter fun p=>decide (p.1≠d)
end L2
namespace L2
open PySem PySem.Spec PyProof.Rows
structure Mod(K:PySem.W.Frag)(mg:Str→Option Value)(base:Heap):Prop where
 kin:K.In base
 glob:base.Ns mainGlobals mg
 sm:∃mm,base.Ns sysModules mm
 bm:∃bm ob,mg "__builtins__" = some (.ref bm)∧bm≠builtinsNs∧base.get? bm=some ob∧ob.cls=.type "module"∧ob.dict=some builtinsNs∧ob.data=.plain
 blt:∃mb,base.Ns builtinsNs mb∧∀x:Str,x≠"__name__"→mb x=bootBuiltins x
 nolimit:base.NoLimit

structure Cx where
 prog:Program
 w:World
 K:PySem.W.Frag
 mg:Str→Option Value
 base:Heap
 A:Around
 N:List Str
 s₀:Shared
 H₀:Hp
 env:Env
 outer:List Env
 stack:List Env
 ex:List Addr
 fn:Str→Bool
 calm:Bool
 pn:List (Addr×Obj)
 xe:Value→Shared→Prop
def frs(l:List Env):List Addr:=l.filterMap (·.frame)
abbrev Cx.fs(X:Cx):List Addr:=frs X.outer

def Vis(sc:Scope)(x:Str):Prop:=sc.names.lookup x=some .local∨sc.names.lookup x=some .cell∨sc.names.lookup x=some .free
def Loc(sc:Scope)(x:Str):Prop:=sc.names.lookup x=some .local∨sc.names.lookup x=some .cell
def Look(env:Env)(h:Heap)(m:Str→Option Value)(x:Str)(u:Value):Prop:=
 (env.kindOf x=some .local∧m x=some u)∨((env.kindOf x=some .cell∨env.kindOf x=some .free)∧∃c,env.cells.lookup x=some c∧h.IsCell c (some u))

structure Cx.Ok(X:Cx):Prop where
 mod:Mod X.K X.mg X.base
 kind:X.env.scope.kind=.function
 glob:X.env.globals=mainGlobals
 blt:X.env.builtins=builtinsNs
 above:X.s₀.heap.objs.size≤X.env.locals
 inj:∀x y c,X.env.cells.lookup x=some c→X.env.cells.lookup y=some c→x=y
 has:∀x,(X.env.kindOf x=some .cell∨X.env.kindOf x=some .free)→∃c,X.env.cells.lookup x=some c
 cab:∀x c,X.fn x=true→X.env.cells.lookup x=some c→X.s₀.heap.objs.size≤c
 hd:X.calm=true→X.A.handled=none
 frames:X.A.frames=some X.stack
 stk:X.stack=X.outer∨(X.stack=X.env::X.outer∧X.env.frame=some X.env.locals)
 exf:∀b∈X.ex,b≠X.env.locals∧∀x c,X.env.cells.lookup x=some c→c≠b
 bs:∀b o,X.base.get? b=some o→X.s₀.heap.get? b=some o∧X.H₀ b=none
 bsz:X.base.objs.size≤X.s₀.heap.objs.size
 noex:∀b o,X.base.get? b=some o→b ∉ X.ex
 exfs:∀b∈X.ex,b ∉ X.fs
 funs:X.s₀.heap.FunFrames X.base X.outer
 frf:∀b∈X.fs,X.H₀ b=none

structure Inv(X:Cx)(pins:List (Addr×Obj))(σ:List (Option V))(H:Hp)(s:Shared):Prop where
 ok:X.Ok
 os:s.os=X.s₀.os
 bare:AllBare s.gens
 base:Un X.fs X.ex X.H₀ H X.s₀.heap s.heap
 loc:∃m,s.heap.Ns X.env.locals m∧∀(i:Nat) (x:Str) (v:V),X.N[i]? = some x→σ[i]? = some (some v)→Vis X.env.scope x→∃u,RelV v u∧Look X.env s.heap m x u
 cell:∀x c,X.env.cells.lookup x=some c→∃v,s.heap.IsCell c v
 free:H X.env.locals=none
 freeC:∀x c,X.env.cells.lookup x=some c→H c=none
 pin:∀p∈X.pn++pins,s.heap.get? p.1=some p.2∧H p.1=none∧p.1≠X.env.locals∧p.1 ∉ X.fs∧∀v,p.2.data≠.cell v
 hok:HOk X.prog X.w H s.heap
 len:σ.length=X.N.length

section
variable{X:Cx}{pins:List (Addr×Obj)}{σ:List (Option V)}{H H':Hp}{s:Shared}{h':Heap}
theorem Cx.Ok.nofr(ok:X.Ok){b:Addr}{o:Obj}(e:X.base.get? b=some o):b ∉ X.fs:=fun hb=>by
 have:=(ok.funs.mem hb).1
 rw[e] at this;cases this
theorem Inv.bs(I:Inv X pins σ H s):∀b o,X.base.get? b=some o→s.heap.get? b=some o∧H b=none:=fun b o e=>
 ⟨I.base.keep b o (I.ok.bs b o e).1 (I.ok.bs b o e).2 (I.ok.nofr e) (I.ok.noex b o e),I.base.free b o (I.ok.bs b o e).1 (I.ok.bs b o e).2 (I.ok.noex b o e)⟩
theorem Inv.bk(I:Inv X pins σ H s):∀b o,X.base.get? b=some o→s.heap.get? b=some o:=fun b o e=>(I.bs b o e).1
theorem Inv.mod(I:Inv X pins σ H s):Mod X.K X.mg X.base:=I.ok.mod
theorem Inv.kIn(I:Inv X pins σ H s):X.K.In s.heap:=I.ok.mod.kin.keeps I.bk
theorem Inv.lt(I:Inv X pins σ H s):X.env.locals<s.heap.objs.size:=let ⟨_,hn,_⟩:=I.loc;hn.lt
theorem Inv.sz(I:Inv X pins σ H s):X.s₀.heap.objs.size≤s.heap.objs.size:=Nat.le_trans I.ok.above (Nat.le_of_lt I.lt)
theorem Inv.nofs(I:Inv X pins σ H s){a:Addr}(h:s.heap.objs.size≤a):a ∉ X.fs:=fun hb=>by
 obtain⟨_,o,ho,_⟩:=I.ok.funs.mem hb
 exact absurd (Nat.lt_of_lt_of_le (Heap.lt_size ho) (Nat.le_trans I.sz h)) (Nat.lt_irrefl _)
theorem Inv.cne(I:Inv X pins σ H s):∀x c,X.env.cells.lookup x=some c→c≠X.env.locals:=fun x c e z=>by
 obtain⟨v,o,ho,hd⟩:=I.cell x c e
 obtain⟨m,⟨o',es,ep,ho',hd',_⟩,_⟩:=I.loc
 rw[z,ho'] at ho;cases ho;rw[hd'] at hd;cases hd
theorem Inv.funs(I:Inv X pins σ H s):s.heap.FunFrames X.base X.outer:=by
 have all:∀(l:List Env),(∀b∈frs l,b∈X.fs)→X.s₀.heap.FunFrames X.base l→s.heap.FunFrames X.base l:=by
  intro l
  induction l with
  |nil=>intro _ _;trivial
  |cons env r ih=>
   intro hs hl
   obtain⟨hk,⟨L,o,hf,hn,ho,hd⟩,hr⟩:=hl
   have hL:L∈X.fs:=hs L (by unfold frs;rw[List.filterMap_cons,hf];exact List.mem_cons_self)
   obtain⟨sl,e⟩:=I.base.slot L o ho (I.ok.frf L hL) hL fun z=>I.ok.exfs L z hL
   exact⟨hk,⟨L,_,hf,hn,e,hd⟩,ih (fun b hb=>hs b (by unfold frs;rw[List.filterMap_cons,hf];exact List.mem_cons_of_mem _ hb)) hr⟩
 exact all X.outer (fun _ hb=>hb) I.ok.funs

theorem Inv.stack(I:Inv X pins σ H s):s.heap.FunFrames X.base X.stack:=by
 rcases I.ok.stk with e|⟨e,hf⟩
 ·rw[e];exact I.funs
 ·rw[e]
  obtain⟨m,hn,_⟩:=I.loc
  refine .cons (by rw[I.ok.kind];decide) hf hn ?_ I.funs
  exact Heap.get?_none_of_le (Nat.le_trans I.ok.bsz I.ok.above)
theorem Inv.stkSub(I:Inv X pins σ H s):∀b∈frs X.stack,b∈X.env.locals::X.fs:=fun b hb=>by
 rcases I.ok.stk with e|⟨e,hf⟩
 ·rw[e] at hb;exact List.mem_cons_of_mem _ hb
 ·rw[e] at hb
  unfold frs at hb
  rw[List.filterMap_cons,hf] at hb
  exact hb
theorem Inv.stkFree(I:Inv X pins σ H s):∀b∈frs X.stack,H b=none:=fun b hb=>by
 rcases List.mem_cons.mp (I.stkSub b hb) with e|hb
 ·rw[e];exact I.free
 ·obtain⟨_,o,ho,_⟩:=I.ok.funs.mem hb
  exact I.base.free b o ho (I.ok.frf b hb) fun z=>I.ok.exfs b z hb

theorem Inv.step{g':Array GenState}{t':Nat}{d':Drawn}{ch:List Addr}(I:Inv X pins σ H s)(hch:∀b∈ch,(b∈X.ex∨X.s₀.heap.objs.size≤b)∧b≠X.env.locals∧(∀x c,X.env.cells.lookup x=some c→c≠b)∧∀p∈X.pn++pins,p.1≠b)(keep:∀b o,b≠X.env.locals→b ∉ X.fs→b ∉ ch→s.heap.get? b=some o→H b=none→h'.get? b=some o)(slot:∀b o,b≠X.env.locals→b∈X.fs→b ∉ ch→s.heap.get? b=some o→H b=none→∃sl,h'.get? b=some { o with slots:=sl })(free:∀b o,b ∉ ch→s.heap.get? b=some o→H b=none→H' b=none)(there:∀b o,b ∉ ch→s.heap.get? b=some o→∃o',h'.get? b=some o')(tups:∀b xs,H b=some (.tup xs)→H' b=some (.tup xs))(frzs:∀b o u,H b=some (.frz o u)→H' b=some (.frz o u))(tbls:∀b ps,H b=some (.tbl ps)→∃more,H' b=some (.tbl (ps++more)))(ns:∀m,s.heap.Ns X.env.locals m→h'.Ns X.env.locals m)(hok:HOk X.prog X.w H' h')(hg:AllBare g') :
  Inv X pins σ H' { s with heap:=h',gens:=g',drawn:=d',toks:=t' }:=by
 have neL:∀b o,X.s₀.heap.get? b=some o→b≠X.env.locals:=fun b o e=>Nat.ne_of_lt (Nat.lt_of_lt_of_le (Heap.lt_size e) I.ok.above)
 have neC:∀b o,X.s₀.heap.get? b=some o→b ∉ X.ex→b ∉ ch:=fun b o e hx hb=>by
  rcases(hch b hb).1 with z|z
  ·exact hx z
  ·exact absurd (Nat.lt_of_lt_of_le (Heap.lt_size e) z) (Nat.lt_irrefl _)
 have U6:∀x c,X.env.cells.lookup x=some c→∀v,s.heap.IsCell c v→h'.IsCell c v:=fun x c e v ⟨o,ho,hd⟩=>by
  have nch:c ∉ ch:=fun z=>(hch c z).2.2.1 x c e rfl
  by_cases hc:c∈X.fs
  ·obtain⟨sl,q⟩:=slot c o (I.cne x c e) hc nch ho (I.freeC x c e)
   exact⟨_,q,hd⟩
  ·exact⟨o,keep c o (I.cne x c e) hc nch ho (I.freeC x c e),hd⟩
 refine⟨I.ok,I.os,hg,⟨fun b o e n hb hx=>?_,fun b o e n hb hx=>?_,fun b o e n hx=>?_,fun b o e hx=>?_,fun b xs e=>tups b xs (I.base.tups b xs e),fun b o xs e=>frzs b o xs (I.base.frzs b o xs e),fun b ps e=>?_⟩,?_,fun x c e=>?_,?_,fun x c e=>?_,fun p hp=>?_,hok,I.len⟩
 ·exact keep b o (neL b o e) hb (neC b o e hx) (I.base.keep b o e n hb hx) (I.base.free b o e n hx)
 ·obtain⟨sl,e1⟩:=I.base.slot b o e n hb hx
  obtain⟨sl',e2⟩:=slot b _ (neL b o e) hb (neC b o e hx) e1 (I.base.free b o e n hx)
  exact⟨sl',e2⟩
 ·obtain⟨o',e1⟩:=I.base.there b o e hx
  exact free b o' (neC b o e hx) e1 (I.base.free b o e n hx)
 ·obtain⟨o',e1⟩:=I.base.there b o e hx
  exact there b o' (neC b o e hx) e1
 ·obtain⟨m1,e1⟩:=I.base.tbls b ps e
  obtain⟨m2,e2⟩:=tbls b _ e1
  exact⟨m1++m2,by rw[e2,Array.append_assoc]⟩
 ·obtain⟨m,hn,hl⟩:=I.loc
  refine⟨m,ns m hn,fun i x v e1 e2 e3=>?_⟩
  obtain⟨u,r,l⟩:=hl i x v e1 e2 e3
  refine⟨u,r,?_⟩
  rcases l with l|⟨k,c,e,z⟩
  ·exact .inl l
  ·exact .inr ⟨k,c,e,U6 x c e _ z⟩
 ·obtain⟨v,z⟩:=I.cell x c e
  exact⟨v,U6 x c e v z⟩
 ·obtain⟨m,⟨o,_,_,ho,_⟩,_⟩:=I.loc
  exact free _ o (fun z=>(hch _ z).2.1 rfl) ho I.free
 ·obtain⟨v,o,ho,hd⟩:=I.cell x c e
  exact free c o (fun z=>(hch c z).2.2.1 x c e rfl) ho (I.freeC x c e)
 ·obtain⟨e,n,ne,nf,d⟩:=I.pin p hp
  have nch:p.1 ∉ ch:=fun z=>(hch p.1 z).2.2.2 p hp rfl
  exact⟨keep p.1 p.2 ne nf nch e n,free p.1 p.2 nch e n,ne,nf,d⟩
theorem Inv.un{t':Nat}(I:Inv X pins σ H s)(u:Un X.fs [] H H' s.heap h')(hok:HOk X.prog X.w H' h'):Inv X pins σ H' { s with heap:=h',toks:=t' }:=by
 obtain⟨m,⟨o,es,ep,ho,r⟩,_⟩:=id I.loc
 obtain⟨sl,hL⟩:=u.any ho I.free (by simp)
 exact I.step (g':=s.gens) (d':=s.drawn) (ch:=[]) (fun _ z=>nomatch z) (fun b o _ hb _ e n=>u.keep b o e n hb (by simp)) (fun b o _ hb _ e n=>u.slot b o e n hb (by simp)) (fun b o _ e n=>u.free b o e n (by simp)) (fun b o _ e=>u.there b o e (by simp)) u.tups u.frzs u.tbls (fun m' hm=>by
  obtain⟨o',es',ep',ho',r'⟩:=hm
  rw[ho] at ho';cases ho'
  exact⟨_,es',ep',hL,r'⟩) hok I.bare
theorem Inv.call{g':Array GenState}{t':Nat}{d':Drawn}{ch:List Addr}(I:Inv X pins σ H s)(u:Un (frs X.stack) ch H H' s.heap h')(hok:HOk X.prog X.w H' h')(hg:AllBare g')(hch:∀b∈ch,(b∈X.ex∨X.s₀.heap.objs.size≤b)∧b≠X.env.locals∧(∀x c,X.env.cells.lookup x=some c→c≠b)∧∀p∈X.pn++pins,p.1≠b) :
  Inv X pins σ H' { s with heap:=h',gens:=g',drawn:=d',toks:=t' }:=by
 obtain⟨m,⟨o,es,ep,ho,r⟩,_⟩:=id I.loc
 obtain⟨sl,hL⟩:=u.any ho I.free fun z=>(hch _ z).2.1 rfl
 exact I.step (ch:=ch) hch (fun b o hL hb hc e n=>u.keep b o e n (fun z=>(List.mem_cons.mp (I.stkSub b z)).elim hL hb) hc) (fun b o _ _ hc e n=>u.any e n hc) (fun b o hc e n=>u.free b o e n hc) (fun b o hc e=>u.there b o e hc) u.tups u.frzs u.tbls (fun m' hm=>by
  obtain⟨o',es',ep',ho',r'⟩:=hm
  rw[ho] at ho';cases ho'
  exact⟨_,es',ep',hL,r'⟩) hok hg
theorem Inv.turned{t':Nat}{it:Addr}(I:Inv X pins σ H s)(k:∀b o,b≠it→s.heap.get? b=some o→h'.get? b=some o)(hn:H it=none)(hL:it≠X.env.locals)(h1:it∈X.ex∨X.s₀.heap.objs.size≤it)(h2:∀x c,X.env.cells.lookup x=some c→c≠it)(h3:∀p∈X.pn++pins,p.1≠it):Inv X pins σ H { s with heap:=h',toks:=t' }:=by
 have nit:∀b u,H b=some u→b≠it:=fun b u e z=>by rw[z,hn] at e;cases e
 refine I.step (g':=s.gens) (d':=s.drawn) (ch:=[it]) (fun b hb=>?_) (fun b o _ _ hc e _=>k b o (fun z=>hc (by simp[z])) e) (fun b o _ _ hc e _=>⟨o.slots,k b o (fun z=>hc (by simp[z])) e⟩) (fun _ _ _ _ n=>n)
  (fun b o hc e=>⟨o,k b o (fun z=>hc (by simp[z])) e⟩) (fun _ _ e=>e) (fun _ _ _ e=>e) (fun b ps e=>⟨#[],by rw[e];simp⟩) (fun m hm=>?_) (fun b u e=>?_) I.bare
 ·have e:b=it:=by simpa using hb
  subst e
  exact⟨h1,hL,h2,h3⟩
 ·obtain⟨o,es,ep,ho,r⟩:=hm
  exact⟨o,es,ep,k _ o (Ne.symm hL) ho,r⟩
 ·refine(I.hok b u e).stay (fun c v hc q=>k c v ?_ q) (fun _ q=>q) fun _ _ q=>q
  rcases hc with z|z
  ·rw[z];exact nit b u e
  ·exact nit c _ z
theorem Inv.tok(I:Inv X pins σ H s)(t:Nat):Inv X pins σ H { s with toks:=t }:=I.un (h':=s.heap) (t':=t) Un.refl I.hok
theorem Inv.kept{t':Nat}(I:Inv X pins σ H s)(k:∀b u,s.heap.get? b=some u→h'.get? b=some u):Inv X pins σ H { s with heap:=h',toks:=t' }:=I.un (Un.kept k) (I.hok.kept k)
theorem Inv.laid{a:Addr}{o:HO}{t':Nat}(I:Inv X pins σ H s)(k:∀b u,s.heap.get? b=some u→h'.get? b=some u)(hp:s.heap.objs.size≤a)(new:ObjOk X.prog X.w (upd H a o) h' a o) :
  Inv X pins σ (upd H a o) { s with heap:=h',toks:=t' }:=I.un (Un.laid k hp (I.hok.fresh hp)) (I.hok.laid k hp new)
theorem Inv.write{x e:Addr}{o:HO}{t':Nat}(I:Inv X pins σ H s)(mu:Mut (H x))(he:e=x∨H e=some (.own x))(k:∀b u,b≠e→s.heap.get? b=some u→h'.get? b=some u)(heo:∃u,h'.get? e=some u)(new:ObjOk X.prog X.w (upd H x o) h' x o):Inv X pins σ (upd H x o) { s with heap:=h',toks:=t' }:=I.un (Un.write mu he k heo) (I.hok.write mu he k heo new)
theorem Inv.pins_of{pins':List (Addr×Obj)}(I:Inv X pins σ H s)(h:∀p∈pins',s.heap.get? p.1=some p.2∧H p.1=none∧p.1≠X.env.locals∧p.1 ∉ X.fs∧∀v,p.2.data≠.cell v):Inv X pins' σ H s:=
 ⟨I.ok,I.os,I.bare,I.base,I.loc,I.cell,I.free,I.freeC,fun p hp=>(List.mem_append.mp hp).elim (fun z=>I.pin p (List.mem_append_left _ z)) (h p),I.hok,I.len⟩

theorem Om{N:List Str}(hN:N.Nodup){i j:Nat}{x:Str}(a:N[i]? = some x)(b:N[j]? = some x):i=j:=by
 obtain⟨h1,e1⟩:=List.getElem?_eq_some_iff.mp a
 obtain⟨h2,e2⟩:=List.getElem?_eq_some_iff.mp b
 exact(List.getElem_inj hN).mp (e1.trans e2.symm)

theorem K9{M:Model}{A:Around}{E:Value→Shared→Prop}{i:Nat}{x:Str}{v:V}{u:Value}{Q:Unit→Shared→Prop}(I:Inv X pins σ H s)(hN:X.N.Nodup)(hi:X.N[i]? = some x)(hx:Loc X.env.scope x)(r:RelV v u)(h:∀s',Inv X pins (σ.set i (some v)) H s'→(∃a,Heap.SameBut a s.heap s'.heap∧(a=X.env.locals∨X.env.cells.lookup x=some a))→Q () s')(hf:X.fn x=true∨X.env.scope.names.lookup x=some .local:=by first|exact .inl rfl|exact .inr rfl|assumption):wpAny M A (storeName X.env x u) Q E s:=by
 obtain⟨m,hn,hl⟩:=id I.loc
 have hcls:(X.env.scope.kind == .class||(X.env.scope.kind == .module&&X.env.locals != X.env.globals))=false:=by rw[I.ok.kind];rfl
 have hiσ:i<σ.length:=by rw[I.len];exact(List.getElem?_eq_some_iff.mp hi).1
 have cne:=I.cne
 have tracked:∀{a:Addr} {h':Heap},(∃o,s.heap.get? a=some o∧H a=none)→Heap.SameBut a s.heap h'→HOk X.prog X.w H h':=fun {a h'} ha hs b ob e=>by
  obtain⟨_,_,hfree⟩:=ha
  refine(I.hok b ob e).stay (fun c w' hc q=>(hs.2 c ?_).trans q) (fun _ q=>q) fun _ _ q=>q
  rintro rfl
  rcases hc with rfl|hc
  ·rw[hfree] at e;cases e
  ·rw[hfree] at hc;cases hc
 rcases hx with hk|hk
 ·refine wpAny_storeName_local hk hn (fun h' hn' hs=>?_) hcls
  obtain⟨oL,_,_,hoL,_⟩:=id hn
  refine h _ ⟨I.ok,I.os,I.bare,⟨fun b o e n hb hx=>?_,fun b o e n hb hx=>?_,I.base.free,fun b o e hx=>?_,I.base.tups,I.base.frzs,I.base.tbls⟩,⟨_,hn',fun j y v' e1 e2 e3=>?_⟩,fun y c e=>?_,I.free,I.freeC,fun p hp=>?_,tracked ⟨oL,hoL,I.free⟩ hs,by simpa using I.len⟩ ⟨_,hs,.inl rfl⟩
  ·exact(hs.2 b (Nat.ne_of_lt (Nat.lt_of_lt_of_le (Heap.lt_size e) I.ok.above))).trans (I.base.keep b o e n hb hx)
  ·obtain⟨sl,e1⟩:=I.base.slot b o e n hb hx
   exact⟨sl,(hs.2 b (Nat.ne_of_lt (Nat.lt_of_lt_of_le (Heap.lt_size e) I.ok.above))).trans e1⟩
  ·obtain⟨o',e1⟩:=I.base.there b o e hx
   exact⟨o',(hs.2 b (Nat.ne_of_lt (Nat.lt_of_lt_of_le (Heap.lt_size e) I.ok.above))).trans e1⟩
  ·by_cases hj:j=i
   ·subst hj
    rw[hi] at e1;cases e1
    rw[List.getElem?_set_self hiσ] at e2
    cases e2
    exact⟨u,r,.inl ⟨hk,by simp⟩⟩
   ·rw[List.getElem?_set_ne (Ne.symm hj)] at e2
    obtain⟨u',r',q⟩:=hl j y v' e1 e2 e3
    refine⟨u',r',?_⟩
    rcases q with ⟨k,e⟩|⟨k,c,e,z⟩
    ·refine .inl ⟨k,?_⟩
     have:y≠x:=fun e=>hj (Om hN e1 (e ▸ hi))
     simp[this,e]
    ·exact .inr ⟨k,c,e,z.sameBut hs (cne y c e)⟩
  ·obtain⟨w',z⟩:=I.cell y c e
   exact⟨w',z.sameBut hs (cne y c e)⟩
  ·obtain⟨e,n,ne,nf,d⟩:=I.pin p hp
   exact⟨(hs.2 p.1 ne).trans e,n,ne,nf,d⟩
 ·have hfn:X.fn x=true:=by
   rcases hf with z|z
   ·exact z
   ·rw[z] at hk;cases hk
  obtain⟨c,hc⟩:=I.ok.has x (.inl hk)
  obtain⟨w',z⟩:=I.cell x c hc
  refine wpAny_storeName_cell I.ok.kind hk hc z (fun h' hc' hs=>?_)
  obtain⟨oc,hoc,hocd⟩:=id z
  refine h { s with heap:=h' } ⟨I.ok,I.os,I.bare,⟨fun b o e n hb hx=>?_,fun b o e n hb hx=>?_,I.base.free,fun b o e hx=>?_,I.base.tups,I.base.frzs,I.base.tbls⟩,⟨m,hn.sameBut hs (Ne.symm (cne x c hc)),fun j y v' e1 e2 e3=>?_⟩,fun y c' e=>?_,I.free,I.freeC,fun p hp=>?_,tracked ⟨oc,hoc,I.freeC x c hc⟩ hs,by simpa using I.len⟩ ⟨c,hs,.inr hc⟩
  ·exact(hs.2 b (Nat.ne_of_lt (Nat.lt_of_lt_of_le (Heap.lt_size e) (I.ok.cab x c hfn hc)))).trans (I.base.keep b o e n hb hx)
  ·obtain⟨sl,e1⟩:=I.base.slot b o e n hb hx
   exact⟨sl,(hs.2 b (Nat.ne_of_lt (Nat.lt_of_lt_of_le (Heap.lt_size e) (I.ok.cab x c hfn hc)))).trans e1⟩
  ·obtain⟨o',e1⟩:=I.base.there b o e hx
   exact⟨o',(hs.2 b (Nat.ne_of_lt (Nat.lt_of_lt_of_le (Heap.lt_size e) (I.ok.cab x c hfn hc)))).trans e1⟩
  ·by_cases hj:j=i
   ·subst hj
    rw[hi] at e1;cases e1
    rw[List.getElem?_set_self hiσ] at e2
    cases e2
    exact⟨u,r,.inr ⟨.inl hk,c,hc,hc'⟩⟩
   ·rw[List.getElem?_set_ne (Ne.symm hj)] at e2
    obtain⟨u',r',q⟩:=hl j y v' e1 e2 e3
    refine⟨u',r',?_⟩
    rcases q with q|⟨k,c',e,z'⟩
    ·exact .inl q
    ·refine .inr ⟨k,c',e,z'.sameBut hs ?_⟩
     rintro rfl
     exact hj (Om hN e1 (I.ok.inj _ _ _ e hc ▸ hi))
  ·by_cases hcc:c'=c
   ·subst hcc;exact⟨_,hc'⟩
   ·obtain⟨w2,z2⟩:=I.cell y c' e
    exact⟨w2,z2.sameBut hs hcc⟩
  ·obtain⟨e,n,ne,nf,d⟩:=I.pin p hp
   refine⟨(hs.2 p.1 ?_).trans e,n,ne,nf,d⟩
   intro q
   rw[q,hoc] at e
   have q':oc=p.2:=Option.some.inj e
   exact d w' (by rw[←q'];exact hocd)
theorem Cz{M:Model}{A:Around}{E:Value→Shared→Prop}{i:Nat}{x:Str}{v:V}{u:Value}{Q:Unit→Shared→Prop}(I:Inv X pins σ H s)(hN:X.N.Nodup)(hi:X.N[i]? = some x)(hx:Loc X.env.scope x)(r:RelV v u)(h:∀s',Inv X pins (σ.set i (some v)) H s'→Q () s')(hf:X.fn x=true∨X.env.scope.names.lookup x=some .local:=by first|exact .inl rfl|exact .inr rfl|assumption):wpAny M A (storeName X.env x u) Q E s:=
 K9 I hN hi hx r (fun s' I' _=>h s' I') hf
theorem Inv.call'{s':Shared}{ch:List Addr}(I:Inv X pins σ H s)(ho:s'.os=s.os)(u:Un (frs X.stack) ch H H' s.heap s'.heap)(hok:HOk X.prog X.w H' s'.heap)(hg:AllBare s'.gens)(hch:∀b∈ch,(b∈X.ex∨X.s₀.heap.objs.size≤b)∧b≠X.env.locals∧(∀x c,X.env.cells.lookup x=some c→c≠b)∧∀p∈X.pn++pins,p.1≠b):Inv X pins σ H' s':=by
 obtain⟨h',g',d',t',o'⟩:=s'
 have e:o'=s.os:=ho
 subst e
 exact I.call (g':=g') (t':=t') (d':=d') u hok hg hch
end
abbrev XK:=Value→Option Addr→Hp→Prop
abbrev St:=List (Option V)
abbrev VK:=V→Hp→Prop
abbrev TE:=St→Hp→VK→Prop
abbrev TT:=St→Hp→(Bool→Hp→Prop)→Prop
abbrev TA:=St→Hp→(List V→Hp→Prop)→Prop
structure Ends where
 nx:St→Hp→Prop
 rt:VK
 bk:St→Hp→Prop:=fun _ _=>False
 ct:St→Hp→Prop:=fun _ _=>False
abbrev TS:=Ends→St→Hp→Prop

def EP(X:Cx)(pins:List (Addr×Obj))(σ:St)(Q:VK)(u:Value)(s':Shared):Prop:=∃v H',Inv X pins σ H' s'∧RelV v u∧Q v H'
def TP(X:Cx)(pins:List (Addr×Obj))(σ:St)(Q:Bool→Hp→Prop)(b:Bool)(s':Shared):Prop:=∃H',Inv X pins σ H' s'∧Q b H'
def AP(X:Cx)(pins:List (Addr×Obj))(σ:St)(Q:List V→Hp→Prop)(us:List Value)(s':Shared):Prop:=∃vs H',Inv X pins σ H' s'∧Vals vs us∧Q vs H'
def SP(X:Cx)(pins:List (Addr×Obj))(D:Ends)(f:Flow)(s':Shared):Prop:=
 match f with
 |.next=>∃σ' H',Inv X pins σ' H' s'∧D.nx σ' H'
 |.brk=>∃σ' H',Inv X pins σ' H' s'∧D.bk σ' H'
 |.cont=>∃σ' H',Inv X pins σ' H' s'∧D.ct σ' H'
 |.ret u=>∃v σ' H',Inv X pins σ' H' s'∧RelV v u∧D.rt v H'

def PE(X:Cx)(e:Expr)(t:TE):Prop:=
 ∀(pins:List (Addr×Obj)) (s:Shared) (σ:St) (H:Hp) (Q:VK),Inv X pins σ H s→t σ H Q→wpAny (model X.prog X.w) X.A (eval e X.env) (EP X pins σ Q) X.xe s
def PT(X:Cx)(e:Expr)(t:TT):Prop:=
 ∀(pins:List (Addr×Obj)) (s:Shared) (σ:St) (H:Hp) (Q:Bool→Hp→Prop),Inv X pins σ H s→t σ H Q→wpAny (model X.prog X.w) X.A (isTrue e X.env (eval e X.env)) (TP X pins σ Q) X.xe s
def PW(X:Cx)(e:Expr)(t:TT):Prop:=
 ∀(whole:Sem Value) (pins:List (Addr×Obj)) (s:Shared) (σ:St) (H:Hp) (Q:Bool→Hp→Prop),Inv X pins σ H s→t σ H Q→wpAny (model X.prog X.w) X.A (isTrue e X.env whole) (TP X pins σ Q) X.xe s
theorem PW.pt{X:Cx}{e:Expr}{t:TT}(h:PW X e t):PT X e t:=h _
def PA(X:Cx)(es:List Expr)(t:TA):Prop:=
 ∀(pos:Pos) (pins:List (Addr×Obj)) (s:Shared) (σ:St) (H:Hp) (Q:List V→Hp→Prop),Inv X pins σ H s→t σ H Q→wpAny (model X.prog X.w) X.A (spliced (backTo pos (starEach es X.env))) (AP X pins σ Q) X.xe s
def PS(X:Cx)(st:Stmt)(t:TS):Prop:=
 ∀(pins:List (Addr×Obj)) (s:Shared) (σ:St) (H:Hp) (D:Ends),Inv X pins σ H s→t D σ H→wpAny (model X.prog X.w) X.A (exec st X.env) (SP X pins D) X.xe s
def PSs(X:Cx)(st:List Stmt)(t:TS):Prop:=
 ∀(pins:List (Addr×Obj)) (s:Shared) (σ:St) (H:Hp) (D:Ends),Inv X pins σ H s→t D σ H→wpAny (model X.prog X.w) X.A (execs st X.env) (SP X pins D) X.xe s
theorem thn{α:Type}{t:Sem α}{Q Q':α→Shared→Prop}{M:Model}{A:Around}{E:Value→Shared→Prop}{s:Shared}(h:wpAny M A t Q E s)(hQ:∀a s,Q a s→Q' a s):wpAny M A t Q' E s:=wpAny_mono h hQ fun _ _ x=>x
end L2
namespace L2
open PySem PySem.Spec PyProof.Rows
section
variable{X:Cx}
theorem bin{a b:Expr}{ta tb:TE}(ha:PE X a ta)(hb:PE X b tb){pins:List (Addr×Obj)}{s:Shared}{σ:St}{H:Hp}{R:V→V→Hp→Prop}(I:Inv X pins σ H s)(h:ta σ H fun x H1=>tb σ H1 fun y H2=>R x y H2){α:Type}{Q:α→Shared→Prop}{f:Value→Value→Sem α}(hf:∀v u s2 x y H2,Inv X pins σ H2 s2→RelV x v→RelV y u→R x y H2→wpAny (model X.prog X.w) X.A (f v u) Q X.xe s2) :
  wpAny (model X.prog X.w) X.A (eval a X.env) (fun v s₁=>wpAny (model X.prog X.w) X.A (eval b X.env) (fun u s₂=>wpAny (model X.prog X.w) X.A (f v u) Q X.xe s₂) X.xe s₁) X.xe s:=by
 refine thn (ha pins s σ H _ I h) fun v s1 ⟨x,H1,I1,r1,q1⟩=>?_
 refine thn (hb pins s1 σ H1 _ I1 q1) fun u s2 ⟨y,H2,I2,r2,q2⟩=>?_
 exact hf v u s2 x y H2 I2 r1 r2 q2

def tVar(i:Nat):TE:=fun σ H Q=>∃v,σ[i]? = some (some v)∧Q v H
def tC(v:V):TE:=fun _ H Q=>Q v H
theorem Vn{i:Nat}{x:Str}{pos:Pos}(hN:X.N[i]? = some x)(hv:Vis X.env.scope x)(hd:(x == ("__debug__" : Str))=false:=by decide)(hcd:(x == ("__classdict__" : Str))=false:=by decide):PE X (.Name x pos) (tVar i):=by
 intro pins s σ H Q I h
 obtain⟨v,e,h⟩:=h
 obtain⟨m,hn,hl⟩:=I.loc
 obtain⟨u,r,l⟩:=hl i x v hN e hv
 have fin:EP X pins σ Q u s:=⟨v,H,I,r,h⟩
 rcases l with ⟨hk,hm⟩|⟨hk,c,hc,hcell⟩
 ·exact wpAny_Name (wpAny_loadName_local I.ok.kind hk hn hm fin) hd
 ·rcases hk with hk|hk
  ·exact wpAny_Name (wpAny_loadName_cell I.ok.kind hk hc hcell fin) hd
  ·exact wpAny_Name (wpAny_loadName_free I.ok.kind hk hc hcell fin hcd) hd
theorem Acx{i j pos}:PE X (.Constant (.int i) j pos) (tC (.int i)):=fun _ _ _ H _ I h=>wpAny_Constant_int ⟨.int i,H,I.tok _,⟨_,rfl⟩,h⟩
theorem pe_bl{b j pos}:PE X (.Constant (.bool b) j pos) (tC (.bl b)):=fun _ _ _ H _ I h=>Constant_bool ⟨.bl b,H,I,rfl,h⟩
theorem Vo{j pos}:PE X (.Constant .none j pos) (tC .non):=fun _ _ _ H _ I h=>Constant_none ⟨.non,H,I,rfl,h⟩
def Gl(X:Cx)(x:Str):Prop:=X.env.kindOf x=some .globalImplicit
theorem Ru{E:Value→Shared→Prop}{pins:List (Addr×Obj)}{s:Shared}{σ:St}{H:Hp}{x:Str}{u:Value}{pos:Pos}{Q:Value→Shared→Prop}(I:Inv X pins σ H s)(hg:Gl X x)(hm:X.mg x=some u)(h:Q u s)(hd:(x == ("__debug__" : Str))=false:=by decide):wpAny (model X.prog X.w) X.A (eval (.Name x pos) X.env) Q E s:=
 Calls.Name_function_global I.ok.kind hg (Calls.loadGlobal_global (by rw[I.ok.glob];exact I.mod.glob.keeps I.bk) hm h) hd
theorem Do{E:Value→Shared→Prop}{pins:List (Addr×Obj)}{s:Shared}{σ:St}{H:Hp}{x:Str}{u:Value}{pos:Pos}{Q:Value→Shared→Prop}(I:Inv X pins σ H s)(hg:Gl X x)(hm:X.mg x=none)(hv:bootBuiltins x=some u)(h:Q u s)(hn:x≠"__name__":=by decide)(hd:(x == ("__debug__" : Str))=false:=by decide):wpAny (model X.prog X.w) X.A (eval (.Name x pos) X.env) Q E s:=by
 obtain⟨mb,h1,h2⟩:=I.mod.blt
 exact Calls.Name_function_global I.ok.kind hg (Calls.loadGlobal_builtin (by rw[I.ok.glob];exact I.mod.glob.keeps I.bk) hm (by rw[I.ok.blt];exact h1.keeps I.bk) ((h2 x hn).trans hv) h) hd
theorem Zz{x:Str}{v:V}{u:Value}{pos:Pos}(hg:Gl X x)(hm:X.mg x=some u)(r:RelV v u)(hd:(x == ("__debug__" : Str))=false:=by decide):PE X (.Name x pos) (tC v):=
 fun _ _ _ H _ I h=>Ru I hg hm ⟨v,H,I,r,h⟩ hd
theorem Z2{x:Str}{v:V}{u:Value}{pos:Pos}(hg:Gl X x)(hm:X.mg x=none)(hv:bootBuiltins x=some u)(r:RelV v u)(hn:x≠"__name__":=by decide)(hd:(x == ("__debug__" : Str))=false:=by decide):PE X (.Name x pos) (tC v):=
 fun _ _ _ H _ I h=>Do I hg hm hv ⟨v,H,I,r,h⟩ hn hd

variable{a b:Expr}{ta tb:TE}{pos:Pos}
variable{tA tB':TT}{rest:List Expr}
def tAnd(t u:TT):TT:=fun σ H Q=>t σ H fun c H1=>if c=true then u σ H1 Q else Q false H1
def tOr(t u:TT):TT:=fun σ H Q=>t σ H fun c H1=>if c=true then Q true H1 else u σ H1 Q
def tNot(t:TT):TT:=fun σ H Q=>t σ H fun c H1=>Q (!c) H1
theorem Zn(ha:PT X a tA):PW X (.BoolOp .And [a] pos) tA:=by
 intro wh pins s σ H Q I h
 refine isTrue_and (thn (ha pins s σ H Q I h) fun c s1 e=>?_)
 cases c with
 |true=>exact isTrue_and_nil e
 |false=>exact e
theorem Acf(ha:PT X a tA):PW X (.BoolOp .Or [a] pos) tA:=by
 intro wh pins s σ H Q I h
 refine isTrue_or (thn (ha pins s σ H Q I h) fun c s1 e=>?_)
 cases c with
 |false=>exact isTrue_or_nil e
 |true=>exact e
theorem Acg(ha:PT X a tA)(hb:PW X (.BoolOp .And (b::rest) pos) tB'):PW X (.BoolOp .And (a::b::rest) pos) (tAnd tA tB'):=by
 intro wh pins s σ H Q I h
 refine isTrue_and (thn (ha pins s σ H _ I h) fun c s1 ⟨H1,I1,q1⟩=>?_)
 cases c with
 |true=>exact hb wh pins s1 σ H1 Q I1 q1
 |false=>exact⟨H1,I1,q1⟩
theorem pw_or(ha:PT X a tA)(hb:PW X (.BoolOp .Or (b::rest) pos) tB'):PW X (.BoolOp .Or (a::b::rest) pos) (tOr tA tB'):=by
 intro wh pins s σ H Q I h
 refine isTrue_or (thn (ha pins s σ H _ I h) fun c s1 ⟨H1,I1,q1⟩=>?_)
 cases c with
 |true=>exact⟨H1,I1,q1⟩
 |false=>exact hb wh pins s1 σ H1 Q I1 q1
theorem Ach(ha:PT X a tA):PT X (.UnaryOp .Not a pos) (tNot tA):=by
 intro pins s σ H Q I h
 exact isTrue_not (ha pins s σ H (fun c H1=>Q (!c) H1) I h)
def tAndV(ta tb:TE):TE:=fun σ H Q=>ta σ H fun x H1=>∃c,x=.bl c∧if c=true then tb σ H1 Q else Q (.bl false) H1
def tNotV(ta:TE):TE:=fun σ H Q=>ta σ H fun x H1=>∃c,x=.bl c∧Q (.bl (!c)) H1
theorem Acu{op}{t:TE}(h:PE X a t):PE X (.BoolOp op [a] pos) t:=fun pins s σ H Q I hw=>BoolOp_one (h pins s σ H Q I hw)
theorem Acz(ha:PE X a ta)(hb:PE X (.BoolOp .And (b::rest) pos) tb):PE X (.BoolOp .And (a::b::rest) pos) (tAndV ta tb):=by
 intro pins s σ H Q I h
 refine BoolOp_and (thn (ha pins s σ H _ I h) fun v s1 ⟨x,H1,I1,r1,q1⟩=>?_)
 obtain⟨c,rfl,q1⟩:=q1
 cases r1
 refine wpAny_truthy_bool ?_
 cases c with
 |true=>exact hb pins s1 σ H1 Q I1 q1
 |false=>exact⟨.bl false,H1,I1,rfl,q1⟩
theorem Acv(ha:PE X a ta):PE X (.UnaryOp .Not a pos) (tNotV ta):=by
 intro pins s σ H Q I h
 refine UnaryOp_ (thn (ha pins s σ H _ I h) fun v s1 ⟨x,H1,I1,r1,q1⟩=>?_)
 obtain⟨c,rfl,q1⟩:=q1
 cases r1
 exact not_of (wpAny_truthy_bool ⟨.bl (!c),H1,I1,rfl,q1⟩)
def tIf(t:TT)(ta tb:TE):TE:=fun σ H Q=>t σ H fun c H1=>if c=true then ta σ H1 Q else tb σ H1 Q
theorem W4{c:Expr}(hc:PT X c tA)(ha:PE X a ta)(hb:PE X b tb):PE X (.IfExp c a b pos) (tIf tA ta tb):=by
 intro pins s σ H Q I h
 refine wpAny_IfExp (thn (hc pins s σ H _ I h) fun d s1 ⟨H1,I1,q1⟩=>?_)
 cases d with
 |true=>exact ha pins s1 σ H1 Q I1 q1
 |false=>exact hb pins s1 σ H1 Q I1 q1
end
end L2
namespace L2
open PySem PySem.Spec PyProof.Rows
def SqL(K:PySem.W.Frag)(H:Hp)(a:Addr)(xs:List V):Prop:=
 Rd H a (.lst xs)∨
  ∃(o:Obj) (its:Array Value) (n:Nat),K.lookup a=some o∧o.cls=.type "list"∧o.dict=none∧o.data=.seq its n∧its.size≤sizeLine∧Vals xs its.toList
def SqT(K:PySem.W.Frag)(H:Hp)(a:Addr)(xs:List V):Prop:=
 Rd H a (.tup xs)∨
  ∃(o:Obj) (its:Array Value) (n:Nat),K.lookup a=some o∧o.cls=.type "tuple"∧o.data=.seq its n∧its.size≤sizeLine∧Vals xs its.toList
def absV:Value→Option V
 |.none=>some .non
 |.bool b=>some (.bl b)
 |.int i _=>some (.int i)
 |.str x _=>some (.str x)
 |.bytes b _=>some (.byt b)
 |.float b _=>some (.flt b)
 |.ref a=>some (.ref a)
 |.type n=>some (.ty n)
 |_=>none
theorem RelV.abs{x:V}{u:Value}(r:RelV x u):absV u=some x:=by
 cases x with
 |non=>cases r;rfl
 |bl _=>cases r;rfl
 |int _=>obtain⟨t,rfl⟩:=r;rfl
 |str _=>obtain⟨t,rfl⟩:=r;rfl
 |byt _=>obtain⟨t,rfl⟩:=r;rfl
 |flt _=>obtain⟨t,rfl⟩:=r;rfl
 |ref _=>cases r;rfl
 |ty _=>cases r;rfl
theorem RelV.inj{x y:V}{u:Value}(r:RelV x u)(q:RelV y u):x=y:=Option.some.inj (r.abs.symm.trans q.abs)
theorem Vals.inj:∀{xs ys:List V} {us:List Value},Vals xs us→Vals ys us→xs=ys
 |_,_,_,.nil,.nil=>rfl
 |_,_,_,.cons r t,.cons r' t'=>by rw[r.inj r',Vals.inj t t']
section
variable{X:Cx}{pins:List (Addr×Obj)}{σ:St}{H:Hp}{s:Shared}{a:Addr}{xs ys:List V}
theorem Inv.list(I:Inv X pins σ H s)(h:SqL X.K H a xs):∃its:List Value,Vals xs its∧PlainL s.heap a its.toArray∧xs.length≤sizeLine:=by
 rcases h with h|⟨o,its,n,hk,hc,hd,hs,hz,r⟩
 ·obtain⟨z,its,n,r,e⟩:=h.ok I.hok
  exact⟨its,r,⟨_,n,e,rfl,rfl,rfl⟩,z⟩
 ·refine⟨its.toList,r,⟨o,n,I.kIn a o hk,hc,hd,by simpa using hs⟩,?_⟩
  have e:=r.length
  simp only[Array.length_toList] at e
  omega
theorem Inv.tuple(I:Inv X pins σ H s)(h:SqT X.K H a xs):∃its:List Value,Vals xs its∧IsTup s.heap a its.toArray∧xs.length≤sizeLine:=by
 rcases h with h|⟨o,its,n,hk,hc,hs,hz,r⟩
 ·obtain⟨z,its,r,p⟩:=h.ok I.hok
  exact⟨its,r,p,z⟩
 ·refine⟨its.toList,r,⟨o,I.kIn a o hk,hc,n,by simpa using hs⟩,?_⟩
  have e:=r.length
  simp only[Array.length_toList] at e
  omega
theorem Inv.list_inj(I:Inv X pins σ H s)(h:SqL X.K H a xs)(h':SqL X.K H a ys):xs=ys:=by
 obtain⟨its,r,⟨o,n,e,_,_,d⟩,_⟩:=I.list h
 obtain⟨its',r',⟨o',n',e',_,_,d'⟩,_⟩:=I.list h'
 rw[e] at e';cases e'
 rw[d] at d'
 injection d' with d1 _
 have:its=its':=by simpa using congrArg Array.toList d1
 subst this
 exact r.inj r'
theorem Inv.tuple_inj(I:Inv X pins σ H s)(h:SqT X.K H a xs)(h':SqT X.K H a ys):xs=ys:=by
 obtain⟨its,r,⟨o,e,_,n,d⟩,_⟩:=I.tuple h
 obtain⟨its',r',⟨o',e',_,n',d'⟩,_⟩:=I.tuple h'
 rw[e] at e';cases e'
 rw[d] at d'
 injection d' with d1 _
 have:its=its':=by simpa using congrArg Array.toList d1
 subst this
 exact r.inj r'
end
abbrev Cx.wish(X:Cx)(E:Value→Shared→Prop):Cx:={ X with xe:=E }
abbrev Cx.nox(X:Cx):Cx:=X.wish fun _ _=>False
theorem Cx.Ok.wish{X:Cx}(ok:X.Ok)(E:Value→Shared→Prop):(X.wish E).Ok:=
 ⟨ok.mod,ok.kind,ok.glob,ok.blt,ok.above,ok.inj,ok.has,ok.cab,ok.hd,ok.frames,ok.stk,ok.exf,ok.bs,ok.bsz,ok.noex,ok.exfs,ok.funs,ok.frf⟩
theorem Cx.Ok.unwish{X:Cx}{E:Value→Shared→Prop}(ok:(X.wish E).Ok):X.Ok:=
 ⟨ok.mod,ok.kind,ok.glob,ok.blt,ok.above,ok.inj,ok.has,ok.cab,ok.hd,ok.frames,ok.stk,ok.exf,ok.bs,ok.bsz,ok.noex,ok.exfs,ok.funs,ok.frf⟩
section
variable{X:Cx}{pins:List (Addr×Obj)}{σ:St}{H:Hp}{s:Shared}{E:Value→Shared→Prop}
theorem Inv.wish(I:Inv X pins σ H s)(E:Value→Shared→Prop):Inv (X.wish E) pins σ H s:=⟨I.ok.wish E,I.os,I.bare,I.base,I.loc,I.cell,I.free,I.freeC,I.pin,I.hok,I.len⟩
theorem Inv.unwish(I:Inv (X.wish E) pins σ H s):Inv X pins σ H s:=⟨I.ok.unwish,I.os,I.bare,I.base,I.loc,I.cell,I.free,I.freeC,I.pin,I.hok,I.len⟩
theorem SP.unwish{D:Ends}{f:Flow}{s':Shared}(h:SP (X.wish E) pins D f s'):SP X pins D f s':=by
 cases f with
 |next=>obtain⟨σ',H',I,q⟩:=h;exact⟨σ',H',I.unwish,q⟩
 |brk=>obtain⟨σ',H',I,q⟩:=h;exact⟨σ',H',I.unwish,q⟩
 |cont=>obtain⟨σ',H',I,q⟩:=h;exact⟨σ',H',I.unwish,q⟩
 |ret u=>obtain⟨v,σ',H',I,r,q⟩:=h;exact⟨v,σ',H',I.unwish,r,q⟩
theorem PSs.nox{st:List Stmt}{t:TS}(h:PSs X.nox st t):PSs X st t:=fun pins s σ H D I hw=>
 wpAny_mono (h pins s σ H D (I.wish _) hw) (fun _ _ q=>q.unwish) fun _ _ z=>False.elim z
end
section
variable{X:Cx}{st:Stmt}{rest:List Stmt}{t u:TS}{e:Expr}{te:TE}{pos:Pos}
def tNext:TS:=fun D σ H=>D.nx σ H
def tSeq(t u:TS):TS:=fun D σ H=>t { D with nx:=u D } σ H
theorem pss_nil:PSs X [] tNext:=fun _ _ σ H _ I h=>wpAny_execs_nil ⟨σ,H,I,h⟩
theorem Wu(h1:PS X st t)(h2:PSs X rest u):PSs X (st::rest) (tSeq t u):=by
 intro pins s σ H D I h
 refine wpAny_execs_cons (thn (h1 pins s σ H { D with nx:=u D } I h) fun f s1 q=>?_)
 cases f with
 |next=>
  obtain⟨σ',H',I',q⟩:=q
  exact h2 pins s1 σ' H' D I' q
 |ret v=>exact q
 |brk=>exact q
 |cont=>exact q
theorem Zp(h1:PS X st t):PSs X [st] t:=by
 intro pins s σ H D I h
 refine wpAny_execs_cons (thn (h1 pins s σ H D I h) fun f s1 q=>?_)
 cases f with
 |next=>exact wpAny_execs_nil q
 |ret v=>exact q
 |brk=>exact q
 |cont=>exact q
theorem Inv.quiet{pins:List (Addr×Obj)}{σ:St}{H:Hp}{s:Shared}(I:Inv X pins σ H s):interactive X.env=false:=by simp[interactive,I.ok.kind]
def tDrop(te:TE):TS:=fun D σ H=>te σ H fun _ H1=>D.nx σ H1
theorem Zs(he:PE X e te)(hs:swapsWith e none pos.line X.env=pure false:=by rfl):PS X (.Expr e pos) (tDrop te):=by
 intro pins s σ H D I h
 exact wpAny_Expr_any (thn (he pins s σ H _ I h) fun v s1 ⟨x,H1,I1,r1,q1⟩=>⟨σ,H1,I1,q1⟩) I.quiet hs
def tRet(te:TE):TS:=fun D σ H=>te σ H D.rt
theorem Acj(he:PE X e te):PS X (.Return (some e) pos) (tRet te):=by
 intro pins s σ H D I h
 exact wpAny_Return_some (thn (he pins s σ H _ I h) fun v s1 ⟨x,H1,I1,r1,q1⟩=>⟨x,σ,H1,I1,r1,q1⟩)
def tIfS(c:TT)(t u:TS):TS:=fun D σ H=>c σ H fun b H1=>if b=true then t D σ H1 else u D σ H1
theorem Abb{c:Expr}{a b:List Stmt}{tc:TT}(hc:PT X c tc)(ha:PSs X a t)(hb:PSs X b u):PS X (.If c a b pos) (tIfS tc t u):=by
 intro pins s σ H D I h
 refine wpAny_If (thn (hc pins s σ H _ I h) fun d s1 ⟨H1,I1,q1⟩=>?_)
 cases d with
 |true=>exact ha pins s1 σ H1 D I1 q1
 |false=>exact hb pins s1 σ H1 D I1 q1
def Abx:TS:=fun _ _ _=>False
theorem ps_never:PS X st Abx:=fun _ _ _ _ _ _ h=>h.elim
end
abbrev TG:=V→St→Hp→(St→Hp→Prop)→Prop
abbrev TGs:=List V→St→Hp→(St→Hp→Prop)→Prop
def PG(X:Cx)(target:Expr)(t:TG):Prop:=
 ∀(pins:List (Addr×Obj)) (s:Shared) (σ:St) (H:Hp) (v:V) (u:Value) (Q:St→Hp→Prop),Inv X pins σ H s→RelV v u→t v σ H Q→
  wpAny (model X.prog X.w) X.A (assign target X.env u) (fun _ s'=>∃σ' H',Inv X pins σ' H' s'∧Q σ' H') X.xe s
def PGs(X:Cx)(ts:List Expr)(t:TGs):Prop:=
 ∀(pins:List (Addr×Obj)) (s:Shared) (σ:St) (H:Hp) (vs:List V) (us:List Value) (Q:St→Hp→Prop),Inv X pins σ H s→Vals vs us→t vs σ H Q→
  wpAny (model X.prog X.w) X.A (assignInOrder ((assignEach ts X.env).map (·.2)) us) (fun _ s'=>∃σ' H',Inv X pins σ' H' s'∧Q σ' H') X.xe s
abbrev Uq:=V→V→V→Hp→(Hp→Prop)→Prop
def PSet(X:Cx)(t:Uq):Prop:=
 ∀(pins:List (Addr×Obj)) (s:Shared) (σ:St) (H:Hp) (o i v:V) (ov iv u:Value) (Q:Hp→Prop),Inv X pins σ H s→RelV o ov→RelV i iv→RelV v u→t o i v H Q→
  wpAny (model X.prog X.w) X.A (setItem ov iv u) (fun _ s'=>∃H',Inv X pins σ H' s'∧Q H') X.xe s
abbrev TIp:=V→V→Hp→VK→Prop
def PIp(X:Cx)(op:Operator)(t:TIp):Prop:=
 ∀(pins:List (Addr×Obj)) (s:Shared) (σ:St) (H:Hp) (x y:V) (v u:Value) (Q:VK),Inv X pins σ H s→RelV x v→RelV y u→t x y H Q→
  wpAny (model X.prog X.w) X.A (inplaceOp op v u) (EP X pins σ Q) X.xe s
section
variable{X:Cx}{pos:Pos}
def U4(i:Nat):TG:=fun v σ H Q=>Q (σ.set i (some v)) H
theorem Zx{i:Nat}{x:Str}(hN:X.N.Nodup)(hi:X.N[i]? = some x)(hx:Loc X.env.scope x)(hf:X.fn x=true∨X.env.scope.names.lookup x=some .local:=by first|exact .inl rfl|exact .inr rfl|assumption):PG X (.Name x pos) (U4 i):=by
 intro pins s σ H v u Q I r h
 exact wpAny_assign_Name (Cz I hN hi hx r (fun s' I'=>⟨_,H,I',h⟩) hf)
def gNil:TGs:=fun vs σ H Q=>vs=[]∧Q σ H
def gCons(t:TG)(u:TGs):TGs:=fun vs σ H Q=>∃v r,vs=v::r∧t v σ H fun σ' H'=>u r σ' H' Q
theorem pgs_nil:PGs X [] gNil:=by
 intro pins s σ H vs us Q I r h
 obtain⟨e,h⟩:=h
 subst e
 cases r
 exact assignInOrder_nil ⟨σ,H,I,h⟩
theorem W0{e:Expr}{es:List Expr}{t:TG}{u:TGs}(h1:PG X e t)(h2:PGs X es u)(hs:(assignEach (e::es) X.env).map (·.2)=assign e X.env::(assignEach es X.env).map (·.2):=by rfl):PGs X (e::es) (gCons t u):=by
 intro pins s σ H vs us Q I r h
 obtain⟨v,vr,e1,h⟩:=h
 subst e1
 cases r with
 |cons r rr=>
  rw[hs]
  refine assignInOrder_cons (thn (h1 pins s σ H _ _ _ I r h) fun _ s1 ⟨σ1,H1,I1,q1⟩=>?_)
  exact h2 pins s1 σ1 H1 _ _ Q I1 rr q1
def gTup(K:PySem.W.Frag)(n:Nat)(t:TGs):TG:=fun v σ H Q=>∃a xs,v=.ref a∧SqT K H a xs∧xs.length=n∧t xs σ H Q
theorem Acp{es:List Expr}{k:Nat}{t:TGs}{n:Nat}(hc:X.calm=true)(h:PGs X es t)(hn:(assignEach es X.env).length=n:=by rfl)(hst:(assignEach es X.env).findIdx? (·.1)=none:=by rfl):PG X (.Tuple es k pos) (gTup X.K n t):=by
 intro pins s σ H v u Q I r hw
 obtain⟨a,xs,e1,hq,hl,hw⟩:=hw
 subst e1
 cases r
 obtain⟨its,rv,ht,hz⟩:=I.tuple hq
 refine assign_Tuple_tuple (I.ok.hd hc) ht (by simp[hn,←hl,rv.length]) hst fun h' hx=>?_
 have I1:Inv X pins σ H { s with heap:=h' }:=I.kept (t':=s.toks) fun b o e=>hx b o (Nat.ne_of_lt (Heap.lt_size e)) e
 exact h pins _ σ H xs _ Q I1 (by simpa using rv) hw
def gSub(to ti:TE)(t:Uq):TG:=fun v σ H Q=>to σ H fun o H1=>ti σ H1 fun i H2=>t o i v H2 fun H3=>Q σ H3
theorem Acq{o i:Expr}{to ti:TE}{t:Uq}(ho:PE X o to)(hi:PE X i ti)(hs:PSet X t)(ha:∀v,assign (.Subscript o i pos) X.env v=(do
   let ov ←holding [v] (eval o X.env)
   let iv ←holding [v,ov] (eval i X.env)
   standAt pos
   holding [v,ov,iv] (setItem ov iv v)
   release [v,ov,iv] []):=by intro _;rfl):PG X (.Subscript o i pos) (gSub to ti t):=by
 intro pins s σ H v u Q I r h
 rw[ha]
 refine wpAny_bind (wpAny_holding (thn (ho pins s σ H _ I h) fun ov s1 ⟨x,H1,I1,r1,q1⟩=>?_))
 refine wpAny_bind (wpAny_holding (thn (hi pins s1 σ H1 _ I1 q1) fun iv s2 ⟨y,H2,I2,r2,q2⟩=>?_))
 refine wpAny_bind (wpAny_standAt (wpAny_bind (wpAny_holding (thn (hs pins s2 σ H2 x y v ov iv u _ I2 r1 r2 r q2) fun _ s3 ⟨H3,I3,q3⟩=>?_))))
 exact wpAny_release ⟨σ,H3,I3,q3⟩
def Yk(te:TE)(g:TG):TS:=fun D σ H=>te σ H fun x H1=>g x σ H1 D.nx
theorem Acm{tg e:Expr}{te:TE}{g:TG}(he:PE X e te)(hg:PG X tg g)(hs:swapsWithSole [tg] e pos.line X.env=pure false:=by rfl)(hw:swappedStores [tg] e X.env=pure none:=by rfl)(h1:(assignEach [tg] X.env).map (·.2)=[assign tg X.env]:=by rfl):PS X (.Assign [tg] e pos) (Yk te g):=by
 intro pins s σ H D I h
 refine wpAny_Assign_stores (thn (he pins s σ H _ I h) fun v s1 ⟨x,H1,I1,r1,q1⟩=>?_) hs hw
 rw[h1]
 exact thn (hg pins s1 σ H1 x v _ I1 r1 q1) fun _ s2 q=>q
theorem Aci{i:Nat}{x:Str}{e:Expr}{te:TE}{pos':Pos}(hN:X.N.Nodup)(hi:X.N[i]? = some x)(hx:Loc X.env.scope x)(he:PE X e te)(hs:swapsWith e (some (.Name x pos')) pos.line X.env=pure false:=by rfl)(hf:X.fn x=true∨X.env.scope.names.lookup x=some .local:=by first|exact .inl rfl|exact .inr rfl|assumption) :
  PS X (.Assign [.Name x pos'] e pos) (Yk te (U4 i)):=by
 intro pins s σ H D I h
 refine wpAny_Assign_Name (thn (he pins s σ H _ I h) fun v s1 ⟨y,H1,I1,r1,q1⟩=>?_) hs
 exact Cz I1 hN hi hx r1 (fun s2 I2=>⟨_,H1,I2,q1⟩) hf
def tPar(i j:Nat)(ta:TA):TS:=fun D σ H=>ta σ H fun vs H1=>∃v w,vs=[v,w]∧D.nx ((σ.set i (some v)).set j (some w)) H1
theorem Ack{i j:Nat}{x y:Str}{a b:Expr}{ta:TA}{px py pt:Pos}{kt k2 pt2}(hc:X.calm=true)(hN:X.N.Nodup)(hi:X.N[i]? = some x)(hj:X.N[j]? = some y)(hij:i≠j)(hx:X.env.scope.names.lookup x=some .local)(hy:X.env.scope.names.lookup y=some .local)(ha:PA X [a,b] ta)(hw:swappedStores [.Tuple [.Name x px,.Name y py] kt pt] (.Tuple [a,b] k2 pt2) X.env=pure (some [x,y]))(hs:swapsWithSole [.Tuple [.Name x px,.Name y py] kt pt] (.Tuple [a,b] k2 pt2) pos.line X.env=pure false:=by rfl) :
  PS X (.Assign [.Tuple [.Name x px,.Name y py] kt pt] (.Tuple [a,b] k2 pt2) pos) (tPar i j ta):=by
 intro pins s σ H D I h
 rw[exec_Assign_arm]
 refine wpAny_bind (wpAny_standAt ?_)
 rw[hs]
 refine wpAny_bind (wpAny_pure ?_)
 rw[if_neg (by decide)]
 refine wpAny_bind (Tuple_ (thn (ha _ pins s σ H _ I h) fun us s1 ⟨vs,H1,I1,r1,q1⟩=>?_))
 obtain⟨v,w,e1,q1⟩:=q1
 subst e1
 obtain⟨u1,u2,rfl,rv,rw'⟩:∃u1 u2,us=[u1,u2]∧RelV v u1∧RelV w u2:=by
  cases r1 with
  |cons p q=>
   cases q with
   |cons p' q'=>
    cases q'
    exact⟨_,_,rfl,p,p'⟩
 refine wpAny_newObj_type ?_ (by show 2≤sizeLine;decide)
 have I2:Inv X pins σ H1 { s1 with heap:=s1.heap.push { cls:=.type "tuple",data:=.seq [u1,u2].toArray } }:=I1.kept (t':=s1.toks) fun b o e=>Heap.get?_push_of_some _ e
 rw[hw]
 refine wpAny_bind (wpAny_pure ?_)
 show wpAny (model X.prog X.w) X.A (do rule "assign.swapped-stores";let items ←unpackItems (.ref s1.heap.objs.size) 2 none;assignInOrder [fun v=>bindName X.env y v,fun v=>bindName X.env x v] items.reverse;pure Flow.next) _ _ _
 refine wpAny_bind (wpAny_rule (wpAny_bind (unpackItems_tuple (items:=#[u1,u2]) (I.ok.hd hc) (IsTup.new s1.heap _) fun h' hx'=>?_)))
 have I3:=I2.kept (h':=h') (t':=s1.toks) fun b o e=>hx' b o (Nat.ne_of_lt (Heap.lt_size e)) e
 show wpAny _ _ (assignInOrder [fun v=>bindName X.env y v,fun v=>bindName X.env x v] [u2,u1] >>= fun _=>pure Flow.next) _ _ _
 refine wpAny_bind (assignInOrder_cons (wpAny_bindName (Cz I3 hN hj (.inl hy) rw' (fun s2 I4=>?_) (.inr hy))))
 refine assignInOrder_cons (wpAny_bindName (Cz I4 hN hi (.inl hx) rv (fun s3 I5=>assignInOrder_nil (wpAny_pure ?_)) (.inr hx)))
 rw[List.set_comm _ _ (Ne.symm hij)] at I5
 exact⟨_,H1,I5,q1⟩
def tAug(i:Nat)(te:TE)(ti:TIp):TS:=fun D σ H=>∃x,σ[i]? = some (some x)∧te σ H fun y H1=>ti x y H1 fun z H2=>D.nx (σ.set i (some z)) H2
theorem Acl{i:Nat}{x:Str}{e:Expr}{te:TE}{op:Operator}{ti:TIp}{pos':Pos}(hN:X.N.Nodup)(hi:X.N[i]? = some x)(hx:Loc X.env.scope x)(he:PE X e te)(ho:PIp X op ti)(hf:X.fn x=true∨X.env.scope.names.lookup x=some .local:=by first|exact .inl rfl|exact .inr rfl|assumption) :
  PS X (.AugAssign (.Name x pos') op e pos) (tAug i te ti):=by
 intro pins s σ H D I h
 obtain⟨v,e1,h⟩:=h
 obtain⟨m,hn,hl⟩:=I.loc
 have vis:Vis X.env.scope x:=by rcases hx with k|k;exact .inl k;exact .inr (.inl k)
 obtain⟨u,r,l⟩:=hl i x v hi e1 vis
 refine wpAny_AugAssign_Name ?_
 have go:wpAny (model X.prog X.w) X.A (eval e X.env) (fun w s₂=>wpAny (model X.prog X.w) X.A (inplaceOp op u w) (fun r s₃=>wpAny (model X.prog X.w) X.A (storeName X.env x r) (fun _=>SP X pins D .next) X.xe s₃) X.xe s₂) X.xe s:=by
  refine thn (he pins s σ H _ I h) fun w s1 ⟨y,H1,I1,r1,q1⟩=>?_
  refine thn (ho pins s1 σ H1 v y u w _ I1 r r1 q1) fun z s2 ⟨zv,H2,I2,r2,q2⟩=>?_
  exact Cz I2 hN hi hx r2 (fun s3 I3=>⟨_,H2,I3,q2⟩) hf
 rcases l with ⟨hk,hm⟩|⟨hk,c,hc,hcell⟩
 ·exact wpAny_loadName_local I.ok.kind hk hn hm go
 ·rcases hk with hk|hk
  ·exact wpAny_loadName_cell I.ok.kind hk hc hcell go
  ·rcases hx with k|k
   ·have:X.env.scope.names.lookup x=some .free:=hk
    rw[k] at this;cases this
   ·have:X.env.scope.names.lookup x=some .free:=hk
    rw[k] at this;cases this
def ipI(f:Int→Int→Int):TIp:=fun x y H Q=>∃i j,x=.int i∧y=.int j∧Q (.int (f i j)) H
theorem Adr:PIp X .Add (ipI fun i j=>i+j):=by
 intro pins s σ H x y v u Q I r1 r2 h
 obtain⟨i,j,e1,e2,q⟩:=h
 subst e1;subst e2
 obtain⟨t,rfl⟩:=r1
 obtain⟨t',rfl⟩:=r2
 exact iadd_int ⟨.int _,H,I.tok _,⟨_,rfl⟩,q⟩
theorem Adq:PIp X .Sub (ipI fun i j=>i-j):=by
 intro pins s σ H x y v u Q I r1 r2 h
 obtain⟨i,j,e1,e2,q⟩:=h
 subst e1;subst e2
 obtain⟨t,rfl⟩:=r1
 obtain⟨t',rfl⟩:=r2
 exact isub_int ⟨.int _,H,I.tok _,⟨_,rfl⟩,q⟩
end
section
variable{X:Cx}{pos:Pos}
def Abw(c:TT)(tb:TS):TS:=fun D σ H=>∃W:Nat→St→Hp→Prop,(∃m,W m σ H)∧∀m σ H,W m σ H→
 c σ H fun b H1=>if b=true then ∃N:St→Hp→Prop,(∀σ' H',N σ' H'→∃m',m'<m∧W m' σ' H')∧tb { D with nx:=N,ct:=N,bk:=D.nx } σ H1 else D.nx σ H1
theorem Wv{c:Expr}{body:List Stmt}{tc:TT}{tb:TS}(hp:PassesOwn (model X.prog X.w) X.A X.env X.xe)(hc:PT X c tc)(hb:PSs X body tb):PS X (.While c body [] pos) (Abw tc tb):=by
 intro pins s σ H D I h
 obtain⟨W,⟨m0,w0⟩,turn⟩:=h
 refine wpAny_While (codeAny_whileLoop (fun n s'=>∃σ' H',Inv X pins σ' H' s'∧W n σ' H') ?_ m0 ⟨σ,H,I,w0⟩)
 rintro n s1 ⟨σ1,H1,I1,w1⟩
 refine wpAny_passesOwn hp (thn (hc pins s1 σ1 H1 _ I1 (turn n σ1 H1 w1)) fun b s2 ⟨H2,I2,q2⟩=>?_)
 cases b with
 |true=>
  obtain⟨N,hN,q2⟩:=q2
  rw[if_pos rfl]
  refine wpAny_passesOwn hp (thn (hb pins s2 σ1 H2 _ I2 q2) fun f s3 q3=>?_)
  cases f with
  |next=>
   obtain⟨σ3,H3,I3,n3⟩:=q3
   obtain⟨m',hm,w3⟩:=hN σ3 H3 n3
   exact⟨m',hm,σ3,H3,I3,w3⟩
  |cont=>
   obtain⟨σ3,H3,I3,n3⟩:=q3
   obtain⟨m',hm,w3⟩:=hN σ3 H3 n3
   exact⟨m',hm,σ3,H3,I3,w3⟩
  |brk=>exact q3
  |ret v=>exact q3
 |false=>
  rw[if_neg Bool.false_ne_true]
  exact wpAny_execs_nil ⟨σ1,H2,I2,q2⟩
end
structure It where
 go:Nat→Hp→Prop
 yld:Nat→Hp→V→Hp→Prop
 stop:Nat→Hp→Prop
def Eb(X:Cx)(pins:List (Addr×Obj))(H:Hp)(b:Addr):Prop:=
 H b=none∧b≠X.env.locals∧b ∉ X.fs∧(b∈X.ex∨X.s₀.heap.objs.size≤b)∧(∀x c,X.env.cells.lookup x=some c→c≠b)∧∀p∈X.pn++pins,p.1≠b
theorem Inv.fpOk{X:Cx}{pins:List (Addr×Obj)}{σ:St}{H H':Hp}{s:Shared}{b:Addr}(I:Inv X pins σ H s)(hb:s.heap.objs.size≤b)(hn:H' b=none):Eb X pins H' b:=by
 refine⟨hn,Nat.ne_of_gt (Nat.lt_of_lt_of_le I.lt hb),I.nofs hb,.inr (Nat.le_trans I.sz hb),fun x c e z=>?_,fun p hp z=>?_⟩
 ·obtain⟨v,q⟩:=I.cell x c e
  exact absurd (Nat.lt_of_lt_of_le q.lt (by rw[z];exact hb)) (Nat.lt_irrefl _)
 ·exact absurd (Nat.lt_of_lt_of_le (Heap.lt_size (I.pin p hp).1) (by rw[z];exact hb)) (Nat.lt_irrefl _)
structure Turn(P:Program)(w:World)(K:PySem.W.Frag)(tg:Expr)(J:It)(fp:List Addr)(it:Addr)(tn:Nat→Heap→Prop):Prop where
 mem:it∈fp
 obj:∀i h,tn i h→∀b∈fp,∃o,h.get? b=some o∧∀v,o.data≠.cell v
 keep:∀i h h',tn i h→(∀b∈fp,∀o,h.get? b=some o→h'.get? b=some o)→tn i h'
 item:∀(X:Cx),X.prog=P→X.w=w→X.K=K→X.calm=true→∀(i:Nat) (pins:List (Addr×Obj)) (s:Shared) (σ:St) (H:Hp) (E:Value→Shared→Prop),Inv X pins σ H s→(∀b∈fp,Eb X pins H b)→tn i s.heap→J.go i H→
  wpAny (model P w) X.A (pyNext (.ref it)) (fun r s1=>∃u,r=some u∧
   wpAny (model P w) X.A (letOwnedTupleGo tg (.ref it) u) (fun _ s2=>∃x H',Inv X pins σ H' s2∧RelV x u∧J.yld i H x H'∧tn (i+1) s2.heap∧∀b∈fp,H' b=none) E s1) E s
 done:∀(X:Cx),X.prog=P→X.w=w→X.K=K→X.calm=true→∀(i:Nat) (pins:List (Addr×Obj)) (s:Shared) (σ:St) (H:Hp) (E:Value→Shared→Prop),Inv X pins σ H s→(∀b∈fp,Eb X pins H b)→tn i s.heap→J.stop i H→
  wpAny (model P w) X.A (pyNext (.ref it)) (fun r s1=>r=none∧Inv X pins σ H s1) E s
 self:∀(A:Around) (i:Nat) (s:Shared) (Q:Value→Shared→Prop) (E:Value→Shared→Prop),tn i s.heap→Q (.ref it) s→wpAny (model P w) A (pyIter (.ref it)) Q E s
abbrev TI:=St→Hp→(It→Hp→Prop)→Prop
def PIE(X:Cx)(pins:List (Addr×Obj))(σ:St)(tg:Expr)(R:It→Hp→Prop)(itv:Value)(s2:Shared):Prop:=
 ∃(it:Addr) (fp:List Addr) (tn:Nat→Heap→Prop) (J:It) (H':Hp),itv=.ref it∧Inv X pins σ H' s2∧Turn X.prog X.w X.K tg J fp it tn∧tn 0 s2.heap∧(∀b∈fp,Eb X pins H' b)∧R J H'
def PI(X:Cx)(tg iter:Expr)(wi:TI):Prop:=
 ∀(pins:List (Addr×Obj)) (s:Shared) (σ:St) (H:Hp) (R:It→Hp→Prop),Inv X pins σ H s→wi σ H R→
  wpAny (model X.prog X.w) X.A (eval iter X.env) (fun v s1=>wpAny (model X.prog X.w) X.A (pyIter v) (PIE X pins σ tg R) X.xe s1) X.xe s

theorem Q8 {M:Model} {A:Around} {E:Value→Shared→Prop} {s:Shared} {tg:Expr} {it:Addr} {u:Value} {o:Obj} {n:String} {vs:Array Value} {Q:Unit→Shared→Prop} (ho:s.heap.get? it=some o) (hc:o.cls=.type n) (hd:o.data=.fields vs)
    (hn:["enumerate", "zip", "dict_itemiterator", "dict_reverseitemiterator", "odict_iterator", "itertools.zip_longest", "itertools.pairwise"].contains n=false) (hQ:Q () s):wpAny M A (letOwnedTupleGo tg (.ref it) u) Q E s:=by
  unfold letOwnedTupleGo
  cases tg<;>first
    | exact wpAny_pure hQ
    | (cases u<;>first
        | exact wpAny_pure hQ
        | (refine wpAny_bind (wpAny_load ho ?_)
           rw [hc,hd]
           show wpAny M A (if (["enumerate", "zip", "dict_itemiterator", "dict_reverseitemiterator", "odict_iterator", "itertools.zip_longest", "itertools.pairwise"].contains n&&vs[0]? == some (rawInt _))=true then _ else _) Q E s
           rw [if_neg (by intro h;rw [hn,Bool.false_and] at h;cases h)]
           exact wpAny_pure hQ))

def Itl(K:PySem.W.Frag)(a:Addr):It:=
 ⟨fun i H=>∃xs x,SqL K H a xs∧xs[i]? = some x,fun i H x H'=>H'=H∧∀xs,SqL K H a xs→xs[i]? = some x,fun i H=>∃xs,SqL K H a xs∧xs.length≤i⟩
def Itt(K:PySem.W.Frag)(a:Addr):It:=
 ⟨fun i H=>∃xs x,SqT K H a xs∧xs[i]? = some x,fun i H x H'=>H'=H∧∀xs,SqT K H a xs→xs[i]? = some x,fun i H=>∃xs,SqT K H a xs∧xs.length≤i⟩
def Itr(lo:Int)(n:Nat):It:=⟨fun i _=>i<n,fun i H x H'=>H'=H∧x=.int (lo+i),fun i _=>n≤i⟩
theorem So{P:Program}{w:World}{K:W.Frag}{tg:Expr}(a it:Addr):Turn P w K tg (Itl K a) [it] it (fun i h=>h.IsListIter it a i) where
 mem:=by simp
 obj:=fun i h st b hb=>by
  have e:b=it:=by simpa using hb
  subst e
  obtain⟨o,e,c,d⟩:=st
  exact⟨o,e,fun v z=>by rw[d] at z;cases z⟩
 keep:=fun i h h' st k=>st.at fun o e=>k it (by simp) o e
 item:=by
  intro X hP hw hK hc i pins s σ H E I hf st hg
  subst hP hw hK
  obtain⟨xs,x,hq,hx⟩:=hg
  obtain⟨its,rv,p,hz⟩:=I.list hq
  obtain⟨u,hu,ru⟩:=rv.get hx
  obtain⟨f0,f1,f2,f3,f4,f5⟩:=hf it (by simp)
  refine wpAny_pyNext_list_item st p.isList (x:=u) (by simpa using hu) fun h' st' sb=>?_
  have I1:Inv X pins σ H { s with heap:=h' }:=I.turned (t':=s.toks) (fun b o hb e=>(sb.2 b hb).trans e) f0 f1 f3 f4 f5
  obtain⟨o,e,c,d⟩:=id st'
  exact⟨u,rfl,Q8 (s:={ s with heap:=h' }) e c d (by decide) ⟨x,H,I1,ru,⟨rfl,fun ys hy=>by rw[I.list_inj hy hq];exact hx⟩,st',fun b hb=>(hf b hb).1⟩⟩
 done:=by
  intro X hP hw hK hc i pins s σ H E I hf st hg
  subst hP hw hK
  obtain⟨xs,hq,hx⟩:=hg
  obtain⟨its,rv,p,hz⟩:=I.list hq
  obtain⟨f0,f1,f2,f3,f4,f5⟩:=hf it (by simp)
  have hl:=rv.length
  exact wpAny_pyNext_list_end (I.ok.hd hc) st p.isList (by simp;omega) fun h' eb=>⟨rfl,I.turned (t':=s.toks) (fun b o hb e=>eb b o hb e) f0 f1 f3 f4 f5⟩
 self:=fun _ _ _ _ _ st h=>wpAny_pyIter_listiter st h
theorem Qa{P:Program}{w:World}{K:W.Frag}{tg:Expr}(a it:Addr):Turn P w K tg (Itt K a) [it] it (fun i h=>h.IsTupleIter it a i) where
 mem:=by simp
 obj:=fun i h st b hb=>by
  have e:b=it:=by simpa using hb
  subst e
  obtain⟨o,e,c,d⟩:=st
  exact⟨o,e,fun v z=>by rw[d] at z;cases z⟩
 keep:=fun i h h' st k=>st.at fun o e=>k it (by simp) o e
 item:=by
  intro X hP hw hK hc i pins s σ H E I hf st hg
  subst hP hw hK
  obtain⟨xs,x,hq,hx⟩:=hg
  obtain⟨its,rv,p,hz⟩:=I.tuple hq
  obtain⟨u,hu,ru⟩:=rv.get hx
  obtain⟨f0,f1,f2,f3,f4,f5⟩:=hf it (by simp)
  refine wpAny_pyNext_tuple_item st (show s.heap.IsTuple a its.toArray from p) (x:=u) (by simpa using hu) fun h' st' sb=>?_
  have I1:Inv X pins σ H { s with heap:=h' }:=I.turned (t':=s.toks) (fun b o hb e=>(sb.2 b hb).trans e) f0 f1 f3 f4 f5
  obtain⟨o,e,c,d⟩:=id st'
  exact⟨u,rfl,Q8 (s:={ s with heap:=h' }) e c d (by decide) ⟨x,H,I1,ru,⟨rfl,fun ys hy=>by rw[I.tuple_inj hy hq];exact hx⟩,st',fun b hb=>(hf b hb).1⟩⟩
 done:=by
  intro X hP hw hK hc i pins s σ H E I hf st hg
  subst hP hw hK
  obtain⟨xs,hq,hx⟩:=hg
  obtain⟨its,rv,p,hz⟩:=I.tuple hq
  obtain⟨f0,f1,f2,f3,f4,f5⟩:=hf it (by simp)
  have hl:=rv.length
  exact wpAny_pyNext_tuple_end (I.ok.hd hc) st (show s.heap.IsTuple a its.toArray from p) (by simp;omega) fun h' eb=>⟨rfl,I.turned (t':=s.toks) (fun b o hb e=>eb b o hb e) f0 f1 f3 f4 f5⟩
 self:=fun _ _ _ _ _ st h=>wpAny_pyIter_tupleiter st h
theorem Qb{P:Program}{w:World}{K:W.Frag}{tg:Expr}(it:Addr)(lo:Int)(n:Nat):Turn P w K tg (Itr lo n) [it] it (fun i h=>IsRangeIter h it (lo+(i:Nat)*1) ((n:Int)-(i:Nat)) 1) where
 mem:=by simp
 obj:=fun i h st b hb=>by
  have e:b=it:=by simpa using hb
  subst e
  exact⟨_,st,fun v z=>by
   have z':Data.fields _=Data.cell v:=z
   cases z'⟩
 keep:=fun i h h' st k=>k it (by simp) _ st
 item:=by
  intro X hP hw hK hc i pins s σ H E I hf st hg
  subst hP hw hK
  obtain⟨f0,f1,f2,f3,f4,f5⟩:=hf it (by simp)
  have W:=Walks.range (prog:=X.prog) (w:=X.w) (I.ok.hd hc) it lo 1 n
  refine W.item i s _ _ hg st fun v h' tk hv st' kk=>?_
  obtain⟨t,rfl⟩:=hv
  have I1:Inv X pins σ H { s with heap:=h',toks:=tk }:=I.turned (fun b o hb e=>kk b o (by simpa using hb) e) f0 f1 f3 f4 f5
  refine⟨_,rfl,Q8 (s:={ s with heap:=h',toks:=tk }) (n:="range_iterator") st' rfl rfl (by decide) ⟨.int (lo+i),H,I1,⟨t,?_⟩,⟨rfl,rfl⟩,st',fun b hb=>(hf b hb).1⟩⟩
  rw[Int.mul_one]
 done:=by
  intro X hP hw hK hc i pins s σ H E I hf st hg
  subst hP hw hK
  obtain⟨f0,f1,f2,f3,f4,f5⟩:=hf it (by simp)
  exact wpAny_pyNext_range_end (I.ok.hd hc) st (by have:n≤i:=hg;omega) fun h' eb=>⟨rfl,I.turned (t':=s.toks) (fun b o hb e=>eb b o hb e) f0 f1 f3 f4 f5⟩
 self:=fun _ _ _ _ _ st h=>wpAny_pyIter_rangeiter st h
end L2
namespace L2
open PySem PySem.Spec PyProof.Rows
section
variable{X:Cx}{tg:Expr}
theorem Od{pins:List (Addr×Obj)}{σ:St}{H:Hp}{s:Shared}{R:It→Hp→Prop}{E:Value→Shared→Prop}{lo hi:Int}{t u v:Tok}{tk:Nat}(I:Inv X pins σ H s)(h1 : -(2 ^ 62)≤lo)(h2:lo<2 ^ 62)(h3 : -(2 ^ 62)≤hi)(h4:hi<2 ^ 62)(q:R (Itr lo (hi-lo).toNat) H):wpAny (model X.prog X.w) X.A (pyIter (.ref s.heap.objs.size)) (PIE X pins σ tg R) E { s with heap:=s.heap.push { cls:=.type "range",data:=.fields #[.int lo t,.int hi u,.int 1 v] },toks:=tk }:=by
 refine wpAny_pyIter_range (IsRange.new ..) (small_one h1 h2 h3 h4) ?_
 have I1:Inv X pins σ H { s with heap:=s.heap.push { cls:=.type "range",data:=.fields #[.int lo t,.int hi u,.int 1 v] },toks:=tk }:=I.kept fun b o e=>Heap.get?_push_of_some _ e
 refine⟨(s.heap.push { cls:=.type "range",data:=.fields #[.int lo t,.int hi u,.int 1 v] }).objs.size,[(s.heap.push { cls:=.type "range",data:=.fields #[.int lo t,.int hi u,.int 1 v] }).objs.size],_,_,H,rfl,
  I1.kept (t':=tk) fun b o e=>Heap.get?_push_of_some _ e,Qb _ lo (hi-lo).toNat,?_,fun b hb=>?_,q⟩
 ·have e1:lo+((0:Nat):Int)*1=lo:=by simp
  have e2:(((hi-lo).toNat:Nat):Int)-((0:Nat):Int)=Builtin.Range.rangeSize lo hi 1:=by rw[rangeSize_one];split<;>omega
  show IsRangeIter _ _ (lo+((0:Nat):Int)*1) ((((hi-lo).toNat:Nat):Int)-((0:Nat):Int)) 1
  rw[e1,e2]
  exact Heap.get?_push_size _ rfl
 ·have e:b=(s.heap.push { cls:=.type "range",data:=.fields #[.int lo t,.int hi u,.int 1 v] }).objs.size:=by simpa using hb
  subst e
  exact I1.fpOk (Nat.le_refl _) (I1.hok.fresh (Nat.le_refl _))
def iRng1(ta:TA):TI:=fun σ H R=>ta σ H fun vs H1=>∃j:Int,vs=[.int j]∧-(2 ^ 62)≤j∧j<2 ^ 62∧R (Itr 0 j.toNat) H1
def iRng2(ta:TA):TI:=fun σ H R=>ta σ H fun vs H1=>∃i j:Int,vs=[.int i,.int j]∧(-(2 ^ 62)≤i∧i<2 ^ 62∧-(2 ^ 62)≤j∧j<2 ^ 62)∧R (Itr i (j-i).toNat) H1
theorem Lh{a:Expr}{ta:TA}{p pos:Pos}(hg:Gl X "range")(hm:X.mg "range" = none)(ha:PA X [a] ta)(hs:starEach [a] X.env=[(false,eval a X.env)]:=by rfl):PI X tg (.Call (.Name "range" p) [a] [] pos) (iRng1 ta):=by
 intro pins s σ H R I h
 refine Call_ (Do I hg hm boot_range (PyProof.Rows.callWith_type1 (thn (ha pos pins s σ H _ I h) fun us s1 ⟨vs,H1,I1,r1,q1⟩=>?_) hs rfl))
 obtain⟨j,e,q1,q2,q⟩:=q1
 subst e
 cases r1 with
 |cons r rr=>
  cases rr
  obtain⟨t,rfl⟩:=r
  exact call_range_1 (Od I1 (by omega) (by omega) q1 q2 (by simpa using q))
theorem S9{a b:Expr}{ta:TA}{p pos:Pos}(hg:Gl X "range")(hm:X.mg "range" = none)(ha:PA X [a,b] ta)(hs:starEach [a,b] X.env=[(false,eval a X.env),(false,eval b X.env)]:=by rfl)(hs2:starEach [b] X.env=[(false,eval b X.env)]:=by rfl) :
  PI X tg (.Call (.Name "range" p) [a,b] [] pos) (iRng2 ta):=by
 intro pins s σ H R I h
 refine Call_ (Do I hg hm boot_range (PyProof.Rows.callWith_type1 (thn (ha pos pins s σ H _ I h) fun us s1 ⟨vs,H1,I1,r1,q1⟩=>?_) (by rw[hs,hs2]) (by rw[hs2];rfl)))
 obtain⟨i,j,e,⟨q1,q2,q3,q4⟩,q⟩:=q1
 subst e
 cases r1 with
 |cons r rr=>
  cases rr with
  |cons r' rr=>
   cases rr
   obtain⟨t,rfl⟩:=r
   obtain⟨t',rfl⟩:=r'
   exact call_range_2 (Od I1 q1 q2 q3 q4 q)

def tFor(wi:TI)(g:TG)(tb:TS):TS:=fun D σ H=>wi σ H fun J H1=>∃W:Nat→Nat→St→Hp→Prop,(∃m,W 0 m σ H1)∧∀i m σ H,W i m σ H→
 (J.stop i H∧D.nx σ H)∨(J.go i H∧∃N:St→Hp→Prop,(∀σ' H',N σ' H'→∃m',m'<m∧W (i+1) m' σ' H')∧∀x H',J.yld i H x H'→g x σ H' fun σ2 H2=>tb { D with nx:=N,ct:=N,bk:=D.nx } σ2 H2)
def Dm(fp:List Addr)(h:Heap):List (Addr×Obj):=fp.filterMap fun b=>(h.get? b).map fun o=>(b,o)
theorem B1{fp:List Addr}{h:Heap}{b:Addr}{o:Obj}(hb:b∈fp)(e:h.get? b=some o):(b,o)∈Dm fp h:=List.mem_filterMap.mpr ⟨b,hb,by rw[e];rfl⟩
theorem Tj{fp:List Addr}{h:Heap}{p:Addr×Obj}(hp:p∈Dm fp h):p.1∈fp∧h.get? p.1=some p.2:=by
 obtain⟨b,hb,e⟩:=List.mem_filterMap.mp hp
 cases q:h.get? b with
 |none=>rw[q] at e;cases e
 |some o=>
  rw[q] at e
  have e':(b,o)=p:=Option.some.inj e
  subst e'
  exact⟨hb,q⟩
theorem Inv.pinned{pins:List (Addr×Obj)}{σ:St}{H:Hp}{s:Shared}{fp:List Addr}(I:Inv X pins σ H s)(hf:∀b∈fp,Eb X pins H b)(ho:∀b∈fp,∃o,s.heap.get? b=some o∧∀v,o.data≠.cell v):Inv X (pins++Dm fp s.heap) σ H s:=
 I.pins_of fun p hp=>(List.mem_append.mp hp).elim (fun z=>I.pin p (List.mem_append_right _ z)) fun z=>by
  obtain⟨hb,e⟩:=Tj z
  obtain⟨f0,f1,f2,_⟩:=hf p.1 hb
  obtain⟨o,e',d⟩:=ho p.1 hb
  rw[e] at e';cases e'
  exact⟨e,f0,f1,f2,d⟩
theorem Inv.unpinned{pins pl:List (Addr×Obj)}{σ:St}{H:Hp}{s:Shared}(I:Inv X (pins++pl) σ H s):Inv X pins σ H s:=I.pins_of fun p hp=>I.pin p (List.mem_append_right _ (List.mem_append_left _ hp))
theorem Gi{iter:Expr}{body:List Stmt}{wi:TI}{g:TG}{tb:TS}{pos:Pos}(hp:PassesOwn (model X.prog X.w) X.A X.env X.xe)(hc:X.calm=true)(hi:PI X tg iter wi)(hg:PG X tg g)(hb:PSs X body tb)(hs:∀x,foldedSetIterable iter X.env x=pure x:=by intro _;rfl):PS X (.For tg iter body [] pos) (tFor wi g tb):=by
 intro pins s σ H D I h
 refine wpAny_For (thn (hi pins s σ H _ I h) fun v s1 h1=>thn h1 fun itv s2 h2=>?_) hs
 obtain⟨it,fp,tn,J,H2,e,I2,T,st2,f2,W,⟨m0,w0⟩,turn⟩:=h2
 subst e
 -- what stays true of the iterator's objects through the loop
 have stat:∀{H':Hp},(∀b∈fp,H' b=none)→∀b∈fp,Eb X pins H' b:=fun hn b hb=>⟨hn b hb,(f2 b hb).2⟩
 refine codeAny_forLoop_any (fun n s'=>∃i σ' H',Inv X pins σ' H' s'∧tn i s'.heap∧(∀b∈fp,H' b=none)∧W i n σ' H') ?_ m0 ⟨0,σ,H2,I2,st2,fun b hb=>(f2 b hb).1,w0⟩
 rintro n s3 ⟨i,σ3,H3,I3,st3,fr3,w3⟩
 rcases turn i n σ3 H3 w3 with ⟨stop,qn⟩|⟨go,N,hN,step⟩
 ·refine wpAny_passesOwn hp (thn (T.done X rfl rfl rfl hc i pins s3 σ3 H3 X.xe I3 (stat fr3) st3 stop) fun r s4 ⟨hr,I4⟩=>?_)
  subst hr
  exact wpAny_execs_nil ⟨σ3,H3,I4,qn⟩
 ·refine wpAny_passesOwn hp (thn (T.item X rfl rfl rfl hc i pins s3 σ3 H3 X.xe I3 (stat fr3) st3 go) fun r s4 ⟨u,hr,h4⟩=>?_)
  subst hr
  refine wpAny_passesOwn hp (thn h4 fun _ s5 ⟨x,H5,I5,r5,y5,st5,fr5⟩=>?_)
  have I5':=I5.pinned (stat fr5) (T.obj _ _ st5)
  refine wpAny_passesOwn hp (thn (hg _ s5 σ3 H5 x u _ I5' r5 (step x H5 y5)) fun _ s6 ⟨σ6,H6,I6,q6⟩=>?_)
  refine wpAny_passesOwn hp (thn (hb _ s6 σ6 H6 _ I6 q6) fun f s7 q7=>?_)
  have again:∀{σ7:St} {H7:Hp},Inv X (pins++Dm fp s5.heap) σ7 H7 s7→N σ7 H7→∃m,m<n∧∃i σ' H',Inv X pins σ' H' s7∧tn i s7.heap∧(∀b∈fp,H' b=none)∧W i m σ' H':=fun {σ7 H7} I7 n7=>by
   obtain⟨m',hm,w7⟩:=hN σ7 H7 n7
   refine⟨m',hm,i+1,σ7,H7,I7.unpinned,T.keep _ _ _ st5 fun b hb o e=>(I7.pin (b,o) (List.mem_append_right _ (List.mem_append_right _ (B1 hb e)))).1,fun b hb=>?_,w7⟩
   obtain⟨o,e,d⟩:=T.obj _ _ st5 b hb
   exact(I7.pin (b,o) (List.mem_append_right _ (List.mem_append_right _ (B1 hb e)))).2.1
  cases f with
  |next=>obtain⟨σ7,H7,I7,n7⟩:=q7;exact again I7 n7
  |cont=>obtain⟨σ7,H7,I7,n7⟩:=q7;exact again I7 n7
  |brk=>obtain⟨σ7,H7,I7,q7⟩:=q7;exact⟨σ7,H7,I7.unpinned,q7⟩
  |ret v=>obtain⟨x7,σ7,H7,I7,r7,q7⟩:=q7;exact⟨x7,σ7,H7,I7.unpinned,r7,q7⟩
end
end L2
namespace L2
open PySem PySem.Spec PyProof.Rows
abbrev R2:=V→V→Hp→VK→Prop
def OpR(X:Cx)(f:Value→Value→Sem Value)(r:R2):Prop:=
 ∀(pins:List (Addr×Obj)) (s:Shared) (σ:St) (H:Hp) (x y:V) (v u:Value) (Q:VK),Inv X pins σ H s→RelV x v→RelV y u→r x y H Q→
  wpAny (model X.prog X.w) X.A (f v u) (EP X pins σ Q) X.xe s
def UnR(X:Cx)(f:Value→Sem Value)(r:V→Hp→VK→Prop):Prop:=
 ∀(pins:List (Addr×Obj)) (s:Shared) (σ:St) (H:Hp) (x:V) (v:Value) (Q:VK),Inv X pins σ H s→RelV x v→r x H Q→
  wpAny (model X.prog X.w) X.A (f v) (EP X pins σ Q) X.xe s
def CallR(X:Cx)(f:Value)(r:List V→Hp→VK→Prop):Prop:=
 ∀(pins:List (Addr×Obj)) (s:Shared) (σ:St) (H:Hp) (xs:List V) (us:List Value) (Q:VK),Inv X pins σ H s→Vals xs us→r xs H Q→
  wpAny (model X.prog X.w) X.A (call f us) (EP X pins σ Q) X.xe s
def TruR(X:Cx)(r:V→Hp→(Bool→Hp→Prop)→Prop):Prop:=
 ∀(pins:List (Addr×Obj)) (s:Shared) (σ:St) (H:Hp) (x:V) (v:Value) (Q:Bool→Hp→Prop),Inv X pins σ H s→RelV x v→r x H Q→
  wpAny (model X.prog X.w) X.A (truthy v) (TP X pins σ Q) X.xe s

def tOp(r:R2)(ta tb:TE):TE:=fun σ H Q=>ta σ H fun x H1=>tb σ H1 fun y H2=>r x y H2 Q
def tUn(r:V→Hp→VK→Prop)(ta:TE):TE:=fun σ H Q=>ta σ H fun x H1=>r x H1 Q
def rI(C:Int→Int→Prop)(g:Int→Int→V):R2:=fun x y H Q=>∃i j,x=.int i∧y=.int j∧C i j∧Q (g i j) H
def rI0(g:Int→Int→V):R2:=fun x y H Q=>∃i j,x=.int i∧y=.int j∧Q (g i j) H
def rU(g:Int→V):V→Hp→VK→Prop:=fun x H Q=>∃i,x=.int i∧Q (g i) H

section
variable{X:Cx}{a b c:Expr}{ta tb tc:TE}{pos:Pos}
theorem binT(ha:PE X a ta)(hb:PE X b tb){pins:List (Addr×Obj)}{s:Shared}{σ:St}{H:Hp}{R:V→V→Hp→Prop}(I:Inv X pins σ H s)(h:ta σ H fun x H1=>tb σ H1 fun y H2=>R x y H2){Q:Value→Shared→Prop}{f:Value→Value→Sem Value}(hf:∀v u s2 x y H2,Inv X pins σ H2 s2→RelV x v→RelV y u→R x y H2→wpAny (model X.prog X.w) X.A (f v u) Q X.xe s2) :
  wpAny (model X.prog X.w) X.A (eval a X.env) (fun v s₁=>wpAny (model X.prog X.w) X.A (eval b X.env) (fun u s₂=>wpAny (model X.prog X.w) X.A (f v u) Q X.xe s₂) X.xe s₁) X.xe s:=by
 refine thn (ha pins s σ H _ I h) fun v s1 ⟨x,H1,I1,r1,q1⟩=>?_
 refine thn (hb pins s1 σ H1 _ I1 q1) fun u s2 ⟨y,H2,I2,r2,q2⟩=>?_
 exact hf v u s2 x y H2 I2 r1 r2 q2

theorem pe_op{op:Operator}{r:R2}(ho:OpR X (binaryOp op) r)(ha:PE X a ta)(hb:PE X b tb):PE X (.BinOp a op b pos) (tOp r ta tb):=by
 intro pins s σ H Q I h
 exact wpAny_BinOp (binT ha hb I h fun v u s2 x y H2 I2 rx ry q=>ho pins s2 σ H2 x y v u Q I2 rx ry q)
theorem Abc{op:UnaryOp}{r:V→Hp→VK→Prop}(ho:UnR X (unaryOp op) r)(ha:PE X a ta):PE X (.UnaryOp op a pos) (tUn r ta):=by
 intro pins s σ H Q I h
 exact UnaryOp_ (thn (ha pins s σ H _ I h) fun v s1 ⟨x,H1,I1,r1,q1⟩=>ho pins s1 σ H1 x v Q I1 r1 q1)
theorem opI{f:Value→Value→Sem Value}{C:Int→Int→Prop}{g:Int→Int→Int}(rule:∀(i j:Int) (t u:Tok) (s:Shared) (Q:Value→Shared→Prop) (E:Value→Shared→Prop),C i j→Q (.int (g i j) s.toks) { s with toks:=s.toks+1 }→wpAny (model X.prog X.w) X.A (f (.int i t) (.int j u)) Q E s) :
  OpR X f (rI C fun i j=>.int (g i j)):=by
 intro pins s σ H x y v u Q I rx ry h
 obtain⟨i,j,rfl,rfl,hc,q⟩:=h
 obtain⟨t,rfl⟩:=rx
 obtain⟨t',rfl⟩:=ry
 exact rule i j t t' s _ _ hc ⟨.int (g i j),H,I.tok _,⟨_,rfl⟩,q⟩
theorem opI0{f:Value→Value→Sem Value}{g:Int→Int→Int}(rule:∀(i j:Int) (t u:Tok) (s:Shared) (Q:Value→Shared→Prop) (E:Value→Shared→Prop),Q (.int (g i j) s.toks) { s with toks:=s.toks+1 }→wpAny (model X.prog X.w) X.A (f (.int i t) (.int j u)) Q E s) :
  OpR X f (rI0 fun i j=>.int (g i j)):=by
 intro pins s σ H x y v u Q I rx ry h
 obtain⟨i,j,rfl,rfl,q⟩:=h
 obtain⟨t,rfl⟩:=rx
 obtain⟨t',rfl⟩:=ry
 exact rule i j t t' s _ _ ⟨.int (g i j),H,I.tok _,⟨_,rfl⟩,q⟩
theorem Yp{f:Value→Value→Sem Value}{g:Int→Int→Bool}(rule:∀(i j:Int) (t u:Tok) (s:Shared) (Q:Value→Shared→Prop) (E:Value→Shared→Prop),Q (.bool (g i j)) s→wpAny (model X.prog X.w) X.A (f (.int i t) (.int j u)) Q E s) :
  OpR X f (rI0 fun i j=>.bl (g i j)):=by
 intro pins s σ H x y v u Q I rx ry h
 obtain⟨i,j,rfl,rfl,q⟩:=h
 obtain⟨t,rfl⟩:=rx
 obtain⟨t',rfl⟩:=ry
 exact rule i j t t' s _ _ ⟨.bl (g i j),H,I,rfl,q⟩

def Px(i j:Int):Prop:=0<j∧j<1073741824
def CMul(i j:Int):Prop:=(-(2 ^ 64)<i∧i<2 ^ 64)∨(-(2 ^ 64)<j∧j<2 ^ 64)
theorem CMul.ok{i j:Int}(h:CMul i j):IntMulOk i j:=by
 rcases h with ⟨h1,h2⟩|⟨h1,h2⟩
 ·exact .of_left (intBits_le_64 h1 h2)
 ·exact .of_right (intBits_le_64 h1 h2)
theorem Ac5:OpR X (binaryOp .Add) (rI0 fun i j=>.int (i+j)):=opI0 fun _ _ _ _ _ _ _ q=>add_int q
theorem Ac0:OpR X (binaryOp .Sub) (rI0 fun i j=>.int (i-j)):=opI0 fun _ _ _ _ _ _ _ q=>sub_int q
theorem Ac1:OpR X (binaryOp .Mult) (rI CMul fun i j=>.int (i*j)):=opI fun _ _ _ _ _ _ _ hc q=>mul_int q hc.ok
theorem Z4:OpR X (binaryOp .FloorDiv) (rI Px fun i j=>.int (i / j)):=opI fun i j _ _ _ _ _ hc q=>by
 have h1:(0:Int)<j:=hc.1
 have h2:j<1073741824:=hc.2
 exact floordiv_int (by omega) (by rw[Int.fdiv_eq_ediv_of_nonneg i (by omega)];exact q) (.inl (PyProof.noPylong_small (by omega)))
theorem Ac2:OpR X (binaryOp .Mod) (rI (fun _ j=>0<j) fun i j=>.int (i % j)):=opI fun i j _ _ _ _ _ hc q=>by
 have h1:(0:Int)<j:=hc
 exact mod_int' (by omega) (by rw[Int.fmod_eq_emod_of_nonneg i (by omega)];exact q)
theorem unI{f:Value→Sem Value}{g:Int→Int}(rule:∀(i:Int) (t:Tok) (s:Shared) (Q:Value→Shared→Prop) (E:Value→Shared→Prop),Q (.int (g i) s.toks) { s with toks:=s.toks+1 }→wpAny (model X.prog X.w) X.A (f (.int i t)) Q E s) :
  UnR X f (rU fun i=>.int (g i)):=by
 intro pins s σ H x v Q I rx h
 obtain⟨i,rfl,q⟩:=h
 obtain⟨t,rfl⟩:=rx
 exact rule i t s _ _ ⟨.int (g i),H,I.tok _,⟨_,rfl⟩,q⟩
theorem Abv:UnR X (unaryOp .USub) (rU fun i=>.int (-i)):=unI fun _ _ _ _ _ q=>neg_int q
end
def scal:V→V→Bool
 |.non,.non=>true|.non,.int _=>true|.int _,.non=>true|.non,.bl _=>true|.bl _,.non=>true|.non,.str _=>true|.str _,.non=>true
 |.int _,.int _=>true|.bl _,.bl _=>true|.str _,.str _=>true|.byt _,.byt _=>true
 |.int _,.str _=>true|.str _,.int _=>true|.bl _,.str _=>true|.str _,.bl _=>true
 |_,_=>false
def rEq:R2:=fun x y H Q=>scal x y=true∧Q (.bl (decide (x=y))) H
def rNe:R2:=fun x y H Q=>scal x y=true∧Q (.bl (!decide (x=y))) H

theorem Sc{i j:Int}:decide (V.int i=V.int j)=(i == j):=by
 rw[Bool.eq_iff_iff]
 simp
theorem V2{i j:Bool}:decide (V.bl i=V.bl j)=(i == j):=by
 rw[Bool.eq_iff_iff]
 simp
theorem Sb{i j:Str}:decide (V.str i=V.str j)=(i == j):=by
 rw[Bool.eq_iff_iff]
 simp
theorem Sd{i j:Array UInt8}:decide (V.byt i=V.byt j)=(i.toList == j.toList):=by
 rw[Bool.eq_iff_iff]
 cases i
 cases j
 simp

section
variable{X:Cx}{a b c:Expr}{ta tb tc:TE}{pos:Pos}
theorem Ay{pins:List (Addr×Obj)}{σ:St}{H:Hp}{s:Shared}{Q:VK}{k k':Bool}(I:Inv X pins σ H s)(q:Q (.bl k) H)(e:k=k'):EP X pins σ Q (.bool k') s:=by
 subst e
 exact⟨.bl k,H,I,rfl,q⟩
theorem op_eq:OpR X (compareOp .Eq) rEq:=by
 intro pins s σ H x y v u Q I rx ry h
 obtain⟨hs,q⟩:=h
 cases x with
 |non=>
  cases rx
  cases y with
  |non=>cases ry;exact PySem.EqNone.eq_none_none (Ay I q (by simp))
  |bl j=>cases ry;exact PySem.EqNone.eq_none_bool (Ay I q (by simp))
  |int j=>obtain⟨t',rfl⟩:=ry;exact PySem.EqNone.eq_none_int (Ay I q (by simp))
  |str j=>obtain⟨t',rfl⟩:=ry;exact PySem.EqNone.eq_none_str (Ay I q (by simp))
  |_=>exact absurd (show false=true from hs) Bool.false_ne_true
 |bl i=>
  cases rx
  cases y with
  |non=>cases ry;exact PySem.EqNone.eq_bool_none (Ay I q (by simp))
  |bl j=>cases ry;exact eq_bool (Ay I q V2)
  |str j=>obtain⟨t',rfl⟩:=ry;exact PySem.EqMixed.eq_bool_str (Ay I q (by simp))
  |_=>exact absurd (show false=true from hs) Bool.false_ne_true
 |int i=>
  obtain⟨t,rfl⟩:=rx
  cases y with
  |non=>cases ry;exact PySem.EqNone.eq_int_none (Ay I q (by simp))
  |int j=>obtain⟨t',rfl⟩:=ry;exact eq_int (Ay I q Sc)
  |str j=>obtain⟨t',rfl⟩:=ry;exact PySem.EqMixed.eq_int_str (Ay I q (by simp))
  |_=>exact absurd (show false=true from hs) Bool.false_ne_true
 |str i=>
  obtain⟨t,rfl⟩:=rx
  cases y with
  |non=>cases ry;exact PySem.EqNone.eq_str_none (Ay I q (by simp))
  |bl j=>cases ry;exact PySem.EqMixed.eq_str_bool (Ay I q (by simp))
  |int j=>obtain⟨t',rfl⟩:=ry;exact PySem.EqMixed.eq_str_int (Ay I q (by simp))
  |str j=>obtain⟨t',rfl⟩:=ry;exact eq_str (Ay I q Sb)
  |_=>exact absurd (show false=true from hs) Bool.false_ne_true
 |byt i=>
  obtain⟨t,rfl⟩:=rx
  cases y with
  |byt j=>obtain⟨t',rfl⟩:=ry;exact PySem.W.eq_bytes (Ay I q Sd)
  |_=>exact absurd (show false=true from hs) Bool.false_ne_true
 |_=>cases y<;>exact absurd (show false=true from hs) Bool.false_ne_true
theorem op_ne:OpR X (compareOp .NotEq) rNe:=by
 intro pins s σ H x y v u Q I rx ry h
 obtain⟨hs,q⟩:=h
 cases x with
 |non=>
  cases rx
  cases y with
  |non=>cases ry;exact PySem.EqNone.ne_none_none (Ay I q (by simp))
  |bl j=>cases ry;exact PySem.EqNone.ne_none_bool (Ay I q (by simp))
  |int j=>obtain⟨t',rfl⟩:=ry;exact PySem.EqNone.ne_none_int (Ay I q (by simp))
  |str j=>obtain⟨t',rfl⟩:=ry;exact PySem.EqNone.ne_none_str (Ay I q (by simp))
  |_=>exact absurd (show false=true from hs) Bool.false_ne_true
 |bl i=>
  cases rx
  cases y with
  |non=>cases ry;exact PySem.EqNone.ne_bool_none (Ay I q (by simp))
  |bl j=>cases ry;exact ne_bool (Ay I q (congrArg not V2))
  |str j=>obtain⟨t',rfl⟩:=ry;exact PySem.EqMixed.ne_bool_str (Ay I q (by simp))
  |_=>exact absurd (show false=true from hs) Bool.false_ne_true
 |int i=>
  obtain⟨t,rfl⟩:=rx
  cases y with
  |non=>cases ry;exact PySem.EqNone.ne_int_none (Ay I q (by simp))
  |int j=>obtain⟨t',rfl⟩:=ry;exact ne_int (Ay I q (congrArg not Sc))
  |str j=>obtain⟨t',rfl⟩:=ry;exact PySem.EqMixed.ne_int_str (Ay I q (by simp))
  |_=>exact absurd (show false=true from hs) Bool.false_ne_true
 |str i=>
  obtain⟨t,rfl⟩:=rx
  cases y with
  |non=>cases ry;exact PySem.EqNone.ne_str_none (Ay I q (by simp))
  |bl j=>cases ry;exact PySem.EqMixed.ne_str_bool (Ay I q (by simp))
  |int j=>obtain⟨t',rfl⟩:=ry;exact PySem.EqMixed.ne_str_int (Ay I q (by simp))
  |str j=>obtain⟨t',rfl⟩:=ry;exact ne_str (Ay I q (congrArg not Sb))
  |_=>exact absurd (show false=true from hs) Bool.false_ne_true
 |byt i=>
  obtain⟨t,rfl⟩:=rx
  cases y with
  |byt j=>obtain⟨t',rfl⟩:=ry;exact PySem.W.ne_bytes (Ay I q (congrArg not Sd))
  |_=>exact absurd (show false=true from hs) Bool.false_ne_true
 |_=>cases y<;>exact absurd (show false=true from hs) Bool.false_ne_true

theorem op_lt:OpR X (compareOp .Lt) (rI0 fun i j=>.bl (decide (i<j))):=Yp fun _ _ _ _ _ _ _ q=>lt_int q
theorem op_le:OpR X (compareOp .LtE) (rI0 fun i j=>.bl (decide (i≤j))):=Yp fun _ _ _ _ _ _ _ q=>le_int q
theorem op_gt:OpR X (compareOp .Gt) (rI0 fun i j=>.bl (decide (j<i))):=Yp fun _ _ _ _ _ _ _ q=>gt_int q
theorem op_ge:OpR X (compareOp .GtE) (rI0 fun i j=>.bl (decide (j≤i))):=Yp fun _ _ _ _ _ _ _ q=>ge_int q
theorem Ac3:OpR X (compareOp .Is) (fun x y H Q=>y=.non∧Q (.bl (decide (x=.non))) H):=by
 intro pins s σ H x y v u Q I rx ry h
 obtain⟨rfl,q⟩:=h
 cases ry
 refine is_none_gen (Ay I q ?_)
 cases x<;>first
  |(cases rx;rfl)
  |(obtain⟨t,rfl⟩:=rx;rfl)
theorem Z3:OpR X (compareOp .IsNot) (fun x y H Q=>y=.non∧Q (.bl (!decide (x=.non))) H):=by
 intro pins s σ H x y v u Q I rx ry h
 obtain⟨rfl,q⟩:=h
 cases ry
 refine isnot_none_gen (Ay I q ?_)
 cases x<;>first
  |(cases rx;rfl)
  |(obtain⟨t,rfl⟩:=rx;rfl)

theorem nomark(b:Expr){op:CmpOp}(h:op≠.In:=by decide)(h2:op≠.NotIn:=by decide):behindInMarks op b=false:=by
 have e1:(op == CmpOp.In)=false:=by cases op<;>first|rfl|exact absurd rfl h
 have e2:(op == CmpOp.NotIn)=false:=by cases op<;>first|rfl|exact absurd rfl h2
 cases b<;>simp[behindInMarks,e1,e2]
theorem Z0{op:CmpOp}{r:R2}(ho:OpR X (compareOp op) r)(ha:PE X a ta)(hb:PE X b tb)(hm:behindInMarks op b=false):PE X (.Compare a [op] [b] pos) (tOp r ta tb):=by
 intro pins s σ H Q I h
 exact wpAny_Compare1 (binT ha hb I h fun v u s2 x y H2 I2 rx ry q=>ho pins s2 σ H2 x y v u Q I2 rx ry q) hm
def Aa7(t:TE):TT:=fun σ H Q=>t σ H fun x H'=>∃k,x=.bl k∧Q k H'
theorem Zo{op:CmpOp}{r:R2}(ho:OpR X (compareOp op) r)(ha:PE X a ta)(hb:PE X b tb)(hm:behindInMarks op b=false):PT X (.Compare a [op] [b] pos) (Aa7 (tOp r ta tb)):=by
 intro pins s σ H Q I h
 refine wpAny_isTrue_Compare1 (thn (ha pins s σ H _ I h) fun v s1 ⟨x,H1,I1,r1,q1⟩=>thn (hb pins s1 σ H1 _ I1 q1) fun u s2 ⟨y,H2,I2,r2,q2⟩=>
  thn (ho pins s2 σ H2 x y v u _ I2 r1 r2 q2) fun c s3 ⟨z,H3,I3,r3,k,e,q3⟩=>?_) hm
 subst e
 cases r3
 exact wpAny_truthy_bool ⟨H3,I3,q3⟩
def P1(r r':R2)(ta tb tc:TE):TE:=fun σ H Q=>ta σ H fun x H1=>tb σ H1 fun y H2=>r x y H2 fun z H3=>∃k,z=.bl k∧
 (if k=true then tc σ H3 fun w' H4=>r' y w' H4 Q else Q (.bl false) H3)
theorem W5{op op':CmpOp}{r r':R2}(ho:OpR X (compareOp op) r)(ho':OpR X (compareOp op') r')(ha:PE X a ta)(hb:PE X b tb)(hc:PE X c tc)(hm:lastMarks [op,op'] [b,c]=false:=by with_unfolding_all rfl):PE X (.Compare a [op,op'] [b,c] pos) (P1 r r' ta tb tc):=by
 intro pins s σ H Q I h
 refine Compare_chain (thn (ha pins s σ H _ I h) fun v s1 ⟨x,H1,I1,r1,q1⟩=>chain_link (thn (hb pins s1 σ H1 _ I1 q1) fun u s2 ⟨y,H2,I2,r2,q2⟩=>
  thn (ho pins s2 σ H2 x y v u _ I2 r1 r2 q2) fun d s3 ⟨z,H3,I3,r3,k,e,q3⟩=>?_)) hm
 subst e
 cases r3
 refine wpAny_truthy_bool ?_
 cases k with
 |false=>exact ite_ff ⟨.bl false,H3,I3,rfl,q3⟩
 |true=>exact ite_tt (chain_last (thn (hc pins s3 σ H3 _ I3 q3) fun w' s4 ⟨z',H4,I4,r4,q4⟩=>ho' pins s4 σ H4 y z' u w' Q I4 r2 r4 q4))
theorem Ws{op op':CmpOp}{r r':R2}(ho:OpR X (compareOp op) r)(ho':OpR X (compareOp op') r')(ha:PE X a ta)(hb:PE X b tb)(hc:PE X c tc)(hm:lastMarks [op,op'] [b,c]=false:=by with_unfolding_all rfl):PT X (.Compare a [op,op'] [b,c] pos) (Aa7 (P1 r r' ta tb tc)):=by
 intro pins s σ H Q I h
 refine isTrue_chain (thn (ha pins s σ H _ I h) fun v s1 ⟨x,H1,I1,r1,q1⟩=>test_link (thn (hb pins s1 σ H1 _ I1 q1) fun u s2 ⟨y,H2,I2,r2,q2⟩=>
  thn (ho pins s2 σ H2 x y v u _ I2 r1 r2 q2) fun d s3 ⟨z,H3,I3,r3,k,e,q3⟩=>?_)) hm
 subst e
 cases r3
 refine wpAny_truthy_bool ?_
 cases k with
 |false=>
  obtain⟨k',e',q'⟩:=q3
  cases e'
  exact ite_ff ⟨H3,I3,q'⟩
 |true=>
  refine ite_tt (test_last (thn (hc pins s3 σ H3 _ I3 q3) fun w' s4 ⟨z',H4,I4,r4,q4⟩=>thn (ho' pins s4 σ H4 y z' u w' _ I4 r2 r4 q4) fun d' s5 ⟨z2,H5,I5,r5,k2,e2,q5⟩=>?_))
  subst e2
  cases r5
  exact wpAny_truthy_bool ⟨H5,I5,q5⟩

def Yv(K:PySem.W.Frag)(x:V)(H:Hp)(k:Bool):Prop:=
 match x with
 |.non=>k=false
 |.bl b=>k=b
 |.int i=>k=(i != 0)
 |.str y=>y.length≤sizeLine∧k=((y.length:Int) != 0)
 |.byt y=>y.size≤sizeLine∧k=((y.size:Int) != 0)
 |.ref p=>(∃xs,SqL K H p xs∧k = !xs.isEmpty)∨(∃xs,SqT K H p xs∧k = !xs.isEmpty)∨∃kvs,H p=some (.dK kvs)∧k = !kvs.isEmpty
 |_=>False
theorem Qq{κ:Type}{kvs:List (κ×V)}{vs:List (κ×Value)}(r:KV kvs vs):(!vs.isEmpty) = !kvs.isEmpty:=by
 cases r<;>rfl
theorem Jv{xs:List V}{its:List Value}(r:Vals xs its):(!its.toArray.isEmpty) = !xs.isEmpty:=by
 cases r<;>simp
theorem E8:(sizeLine:Nat)<2 ^ 63:=by rw[sizeLine_eq];decide
theorem Vd:TruR X (fun x H Q=>∃k,Yv X.K x H k∧Q k H):=by
 intro pins s σ H x v Q I rx h
 obtain⟨k,e,q⟩:=h
 have hl:=E8
 have hs:sizeLine=16777216:=sizeLine_eq
 cases x with
 |non=>
  cases rx
  have e':k=false:=e
  subst e'
  exact truthy_none ⟨H,I,q⟩
 |bl b=>
  cases rx
  have e':k=b:=e
  subst e'
  exact wpAny_truthy_bool ⟨H,I,q⟩
 |int i=>
  obtain⟨t,rfl⟩:=rx
  have e':k=(i != 0):=e
  subst e'
  exact PySem.P.truthy_int ⟨H,I,q⟩
 |str y=>
  obtain⟨t,rfl⟩:=rx
  obtain⟨hy,e'⟩:y.length≤sizeLine∧k=((y.length:Int) != 0):=e
  subst e'
  exact PySem.P.truthy_str (by omega) ⟨H,I.tok _,q⟩
 |byt y=>
  obtain⟨t,rfl⟩:=rx
  obtain⟨hy,e'⟩:y.size≤sizeLine∧k=((y.size:Int) != 0):=e
  subst e'
  exact PySem.W.truthy_bytes (by omega) ⟨H,I.tok _,q⟩
 |ref p=>
  cases rx
  have e':(∃xs,SqL X.K H p xs∧k = !xs.isEmpty)∨(∃xs,SqT X.K H p xs∧k = !xs.isEmpty)∨∃kvs,H p=some (.dK kvs)∧k = !kvs.isEmpty:=e
  rcases e' with ⟨xs,hx,e'⟩|⟨xs,hx,e'⟩|⟨kvs,hx,e'⟩
  ·subst e'
   obtain⟨its,r,pl,hz⟩:=I.list hx
   have hlen:=r.length
   exact wpAny_truthy_list pl.isList (by simp only[List.size_toArray];omega) ⟨H,I.tok _,by rw[Jv r];exact q⟩
  ·subst e'
   obtain⟨its,r,pl,hz⟩:=I.tuple hx
   have hlen:=r.length
   exact truthy_tuple pl (by simp only[List.size_toArray];omega) ⟨H,I.tok _,by rw[Jv r];exact q⟩
  ·subst e'
   obtain⟨hz,hS,vs,r,m⟩:kvs.length≤sizeLine∧(p == sysModules)=false∧∃vs,KV kvs vs∧s.heap.DictOf (A4 X.prog X.w) p vs:=I.hok p _ hx
   have hlen:kvs.length=vs.length:=Paired.length r
   exact wpAny_truthy_dict hS m (by omega) ⟨H,I.tok _,by rw[Qq r];exact q⟩
 |_=>exact(show False from e).elim
theorem Wr(ha:PE X a ta)(he:∀whole,isTrue a X.env whole=(do let v ←whole;standAt a.pos;holding [v] (truthy v))) :
  PT X a (fun σ H Q=>ta σ H fun x H'=>∃k,Yv X.K x H' k∧Q k H'):=by
 intro pins s σ H Q I h
 exact isTrue_plain (thn (ha pins s σ H _ I h) fun v s1 ⟨x,H1,I1,r1,q1⟩=>Vd pins s1 σ H1 x v Q I1 r1 q1) (he _)

theorem Dg{x:V}{us:List Value}(r:Vals [x] us):∃u,us=[u]∧RelV x u:=by
 cases r with
 |cons r1 r2=>cases r2;exact⟨_,rfl,r1⟩
theorem No{x y:V}{us:List Value}(r:Vals [x,y] us):∃u w',us=[u,w']∧RelV x u∧RelV y w':=by
 cases r with
 |cons r1 r2=>
  cases r2 with
  |cons r3 r4=>cases r4;exact⟨_,_,rfl,r1,r3⟩
theorem call_abs:CallR X (.builtin "abs") (fun xs H Q=>∃i,xs=[.int i]∧Q (.int (if i<0 then -i else i)) H):=by
 intro pins s σ H xs us Q I r h
 obtain⟨i,rfl,q⟩:=h
 obtain⟨u,rfl,t,rfl⟩:=Dg r
 exact call_abs_int fun u tk=>⟨.int (if i<0 then -i else i),H,I.tok _,⟨_,rfl⟩,q⟩
theorem T6(hc:X.calm=true):CallR X (.builtin "max") (fun xs H Q=>∃i j,xs=[.int i,.int j]∧Q (.int (if j>i then j else i)) H):=by
 intro pins s σ H xs us Q I r h
 obtain⟨i,j,rfl,q⟩:=h
 obtain⟨u,w',rfl,⟨t,rfl⟩,⟨t',rfl⟩⟩:=No r
 refine max_two_ints (I.ok.hd hc) fun h' tk k=>⟨_,H,I.kept k,?_,q⟩
 by_cases hj:j>i
 ·rw[if_pos hj,if_pos hj];exact⟨_,rfl⟩
 ·rw[if_neg hj,if_neg hj];exact⟨_,rfl⟩
theorem T5(hc:X.calm=true):CallR X (.builtin "min") (fun xs H Q=>∃i j,xs=[.int i,.int j]∧Q (.int (if j<i then j else i)) H):=by
 intro pins s σ H xs us Q I r h
 obtain⟨i,j,rfl,q⟩:=h
 obtain⟨u,w',rfl,⟨t,rfl⟩,⟨t',rfl⟩⟩:=No r
 refine min_two_ints (I.ok.hd hc) fun h' tk k=>⟨_,H,I.kept k,?_,q⟩
 by_cases hj:j<i
 ·rw[if_pos hj,if_pos hj];exact⟨_,rfl⟩
 ·rw[if_neg hj,if_neg hj];exact⟨_,rfl⟩
def LenV(K:PySem.W.Frag)(x:V)(H:Hp)(n:Nat):Prop:=
 match x with
 |.str y=>y.length≤sizeLine∧n=y.length
 |.byt y=>y.size≤sizeLine∧n=y.size
 |.ref p=>(∃xs,SqL K H p xs∧n=xs.length)∨∃xs,SqT K H p xs∧n=xs.length
 |_=>False
theorem call_len:CallR X (.builtin "len") (fun xs H Q=>∃x n,xs=[x]∧LenV X.K x H n∧Q (.int n) H):=by
 intro pins s σ H xs us Q I r h
 obtain⟨x,n,rfl,e,q⟩:=h
 obtain⟨u,rfl,rx⟩:=Dg r
 have hl:=E8
 have hs:sizeLine=16777216:=sizeLine_eq
 cases x with
 |str y=>
  obtain⟨t,rfl⟩:=rx
  obtain⟨hy,e'⟩:y.length≤sizeLine∧n=y.length:=e
  subst e'
  exact len_str (by omega) ⟨.int _,H,I.tok _,⟨_,rfl⟩,q⟩
 |byt y=>
  obtain⟨t,rfl⟩:=rx
  obtain⟨hy,e'⟩:y.size≤sizeLine∧n=y.size:=e
  subst e'
  exact PySem.W.len_bytes (by omega) ⟨.int _,H,I.tok _,⟨_,rfl⟩,q⟩
 |ref p=>
  cases rx
  have e':(∃xs,SqL X.K H p xs∧n=xs.length)∨∃xs,SqT X.K H p xs∧n=xs.length:=e
  rcases e' with ⟨xs,hx,e'⟩|⟨xs,hx,e'⟩
  ·subst e'
   obtain⟨its,r',pl,hz⟩:=I.list hx
   have hlen:=r'.length
   exact Calls.call_len_list pl.isList (by simp only[List.size_toArray];omega) ⟨.int xs.length,H,I.tok _,⟨_,by simp only[List.size_toArray];rw[hlen]⟩,q⟩
  ·subst e'
   obtain⟨its,r',pl,hz⟩:=I.tuple hx
   have hlen:=r'.length
   exact len_tuple pl (by simp only[List.size_toArray];omega) ⟨.int xs.length,H,I.tok _,⟨_,by simp only[List.size_toArray];rw[hlen]⟩,q⟩
 |_=>exact(show False from e).elim
theorem call_divmod:CallR X (.builtin "divmod") (fun xs H Q=>∃i j,xs=[.int i,.int j]∧Px i j∧∀p,H p=none→Q (.ref p) (upd H p (.tup [.int (i / j),.int (i % j)]))):=by
 intro pins s σ H xs us Q I r h
 obtain⟨i,j,rfl,⟨h1,h2⟩,q⟩:=h
 obtain⟨u,w',rfl,⟨t,rfl⟩,⟨t',rfl⟩⟩:=No r
 refine divmod_int (by omega) ?_ (.inl (PyProof.noPylong_small (by omega)))
 rw[Int.fdiv_eq_ediv_of_nonneg i (by omega),Int.fmod_eq_emod_of_nonneg i (by omega)]
 have hn:H s.heap.objs.size=none:=I.hok.fresh (Nat.le_refl _)
 refine⟨.ref s.heap.objs.size,_,?_,rfl,q _ hn⟩
 refine I.laid (fun b o e=>Heap.get?_push_of_some _ e) (Nat.le_refl _) ⟨by simp only[List.length_cons,List.length_nil];rw[sizeLine_eq];decide,[.int (i / j) s.toks,.int (i % j) (s.toks+1)],.cons ⟨_,rfl⟩ (.cons ⟨_,rfl⟩ .nil),?_⟩
 exact⟨_,Heap.get?_push_size s.heap rfl,rfl,0,rfl⟩
end
end L2
namespace L2
open PySem PySem.Spec PyProof.Rows
structure ObjM(h:Heap)(x dx C:Addr)(mA:Str→Option Value):Prop where
 obj:h.get? x=some (PySem.W.instObj C dx)
 ns:h.Ns1 dx mA
 ne:dx≠x

theorem Tl{h:Heap}{dx:Addr}{mA:Str→Option Value}(n:h.Ns1 dx mA):∃od,h.get? dx=some od∧∀name,PySem.W.lookIn name od=some (mA name):=by
 obtain⟨o,es,ep,ho,hd,hk,_,hm⟩:=n
 refine⟨o,ho,fun name=>?_⟩
 have e:=hm name
 unfold nsFind findBy at e
 rw[←Array.find?_toList] at e
 unfold PySem.W.lookIn
 rw[hd]
 dsimp only
 split
 ·rename_i y q
  rw[q] at e
  exact congrArg some e
 ·rename_i q
  rw[q] at e
  have a:es.toList.any (·.refKey)=false:=by
   rw[List.any_eq_false]
   intro y hy
   obtain⟨z,t,hkey⟩:=hk y (Array.mem_toList_iff.mp hy)
   simp[DictEntry.refKey,hkey]
  have a':¬es.toList.any (·.refKey)=true:=by rw[a];exact Bool.false_ne_true
  rw[if_neg a']
  exact congrArg some e

theorem ObjM.look{h:Heap}{x dx C:Addr}{mA:Str→Option Value}(I:ObjM h x dx C mA):∃od,PySem.W.InstAt h x (PySem.W.instObj C dx) C (some od)∧∀name,PySem.W.lookIn name od=some (mA name):=
 let ⟨od,ho,hl⟩:=Tl I.ns
 ⟨od,⟨I.obj,rfl,rfl,ho⟩,hl⟩

section
variable{prog:Program}{w:World}{A:Around}{E:Value→Shared→Prop}{s:Shared}{K:W.Frag}{x dx C f:Addr}{mA:Str→Option Value}{name:Str}{v:Value}
end
theorem RelO.some_of{v:V}{o:Option Value}(r:RelO (some v) o):∃u,o=some u∧RelV v u:=by
 cases o with
 |none=>exact(show False from r).elim
 |some u=>exact⟨u,rfl,r⟩
section
variable{P:Program}{w:World}{H H':Hp}{h h':Heap}{a C dx:Addr}{fs fs':List (Str×V)}
theorem ins_get(hok:HOk P w H h)(e:H a=some (.ins C dx fs)):∃mA,ObjM h a dx C mA∧(∀f,RelO (fs.lookup f) (mA f))∧PySem.Within mA (fs.map (·.1))∧fs.length≤1000∧H dx=some (.own a):=by
 obtain⟨d,z,ne,ob,mA,n,r,q⟩:=(show ObjOk P w H h a (.ins C dx fs) from hok a _ e)
 exact⟨mA,⟨ob,n,ne⟩,r,q,z,d⟩
end
structure Cls(K:PySem.W.Frag)(C:Addr):Prop where
 pg:PySem.W.plainGet K C Str.empty=true
 hd:PySem.W.hasDictIn K C=true
 po:PySem.W.plainOver K C=true
 sa:PySem.W.findIn K (.ref C) "__setattr__" = some (some (.builtin "object.__setattr__"))
theorem Cls.get{K:W.Frag}{C:Addr}(c:Cls K C)(f:Str):PySem.W.plainGet K C f=true:=c.pg
section
variable{X:Cx}{pins:List (Addr×Obj)}{σ:St}{H:Hp}{s:Shared}{a C dx:Addr}{fs:List (Str×V)}{f:Str}{v:V}{A:Around}{E:Value→Shared→Prop}
end
section
variable{X:Cx}{o e value:Expr}{f:Str}{pos pos' tpos:Pos}{ta tv:TE}
end
section
variable{X:Cx}{pins:List (Addr×Obj)}{σ:St}{H:Hp}{s:Shared}{A:Around}{E:Value→Shared→Prop}{Q:Value→Shared→Prop}{c:Value}{b:Bool}
inductive TyOf (K:PySem.W.Frag) (H:Hp):V→Value→Prop where
 |non:TyOf K H .non (.type "NoneType")
 |bl (x:Bool):TyOf K H (.bl x) (.type "bool")
 |int (i:Int):TyOf K H (.int i) (.type "int")
 |str (x:Str):TyOf K H (.str x) (.type "str")
 |flt (x:UInt64):TyOf K H (.flt x) (.type "float")
 |lst {a:Addr} {xs:List V} (e:H a=some (.lst xs)):TyOf K H (.ref a) (.type "list")
 |frz {a:Addr} {o:Obj} {xs:List V} (e:H a=some (.frz o (.lst xs))):TyOf K H (.ref a) (.type "list")
 |tup {a:Addr} {xs:List V} (e:H a=some (.tup xs)):TyOf K H (.ref a) (.type "tuple")
 |dK {a:Addr} {kvs:List (Key×V)} (e:H a=some (.dK kvs)):TyOf K H (.ref a) (.type "dict")
 |dT {a:Addr} {kvs:List (List Key×V)} (e:H a=some (.dT kvs)):TyOf K H (.ref a) (.type "dict")
 |ins {a C dx:Addr} {fs:List (Str×V)} (e:H a=some (.ins C dx fs)) (cl:Cls K C) (ha:PySem.W.findIn K (.ref C) "__class__" = some (some (.builtin "object.__class__")))
   (hn:PySem.W.specialIn K (.builtin "object.__class__") "__get__" = some (some (.builtin "getset_descriptor.__get__"))) (htk:PySem.W.takesIn K (.builtin "object.__class__")=some true)
   (hm:PySem.W.mroIn K C (.type "object")=some true):TyOf K H (.ref a) (.ref C)
theorem Tr{x:V}{u t:Value}(I:Inv X pins σ H s)(rx:RelV x u)(ty:TyOf X.K H x t)(e:PySem.W.kitOne X.K t c=some b)(h:∀tk,Q (.bool b) { s with toks:=tk }) :
  wpAny (model X.prog X.w) A (call (.builtin "isinstance") [u,c]) Q E s:=by
 cases ty with
 |non=>cases(show u=Value.none from rx);exact PySem.W.kia_one PySem.W.kitx_none I.kIn True.intro e (fun z=>nomatch z) h
 |bl y=>cases(show u=Value.bool y from rx);exact PySem.W.kia_one PySem.W.kitx_bool I.kIn True.intro e (fun z=>nomatch z) h
 |int i=>obtain⟨t,q⟩:=(show ∃t,u=Value.int i t from rx);cases q;exact PySem.W.kia_one PySem.W.kitx_int I.kIn True.intro e (fun z=>nomatch z) h
 |str y=>obtain⟨t,q⟩:=(show ∃t,u=Value.str y t from rx);cases q;exact PySem.W.kia_one PySem.W.kitx_str I.kIn True.intro e (fun z=>nomatch z) h
 |flt y=>obtain⟨t,q⟩:=(show ∃t,u=Value.float y t from rx);cases q;exact PySem.W.kia_one PySem.W.kitx_float I.kIn True.intro e (fun z=>nomatch z) h
 |@lst a xs ea=>
  cases(show u=Value.ref a from rx)
  obtain⟨_,_,n,_,h1⟩:=(show ObjOk X.prog X.w H s.heap a (.lst xs) from I.hok a _ ea)
  exact PySem.W.kia_one PySem.W.kitx_list I.kIn ⟨_,h1,rfl⟩ e (fun z=>nomatch z) h
 |@frz a ob xs ea=>
  cases(show u=Value.ref a from rx)
  obtain⟨_,_,_,n,_,h1⟩:=(show ObjOk X.prog X.w H s.heap a (.frz ob (.lst xs)) from I.hok a _ ea)
  exact PySem.W.kia_one PySem.W.kitx_list I.kIn ⟨_,h1,rfl⟩ e (fun z=>nomatch z) h
 |@tup a xs ea=>
  cases(show u=Value.ref a from rx)
  obtain⟨_,_,_,p⟩:=(show ObjOk X.prog X.w H s.heap a (.tup xs) from I.hok a _ ea)
  obtain⟨o,h1,h2,_⟩:=p
  exact PySem.W.kia_one PySem.W.kitx_tuple I.kIn ⟨o,h1,h2⟩ e (fun z=>nomatch z) h
 |@dK a kvs ea=>
  cases(show u=Value.ref a from rx)
  obtain⟨_,_,vs,_,p⟩:=(show ObjOk X.prog X.w H s.heap a (.dK kvs) from I.hok a _ ea)
  obtain⟨o,es,ep,h1,h2,_⟩:=p
  exact PySem.W.kia_one PySem.W.kitx_dict I.kIn ⟨o,h1,h2.1⟩ e (fun z=>nomatch z) h
 |@dT a kvs ea=>
  cases(show u=Value.ref a from rx)
  obtain⟨_,_,xs,_,o,es,ep,h1,h2,_⟩:=(show ObjOk X.prog X.w H s.heap a (.dT kvs) from I.hok a _ ea)
  exact PySem.W.kia_one PySem.W.kitx_dict I.kIn ⟨o,h1,h2.1⟩ e (fun z=>nomatch z) h
 |@ins a C dx fs ea cl ha hn htk hm=>
  cases(show u=Value.ref a from rx)
  obtain⟨mA,O,_⟩:=ins_get I.hok ea
  obtain⟨od,J,_⟩:=O.look
  exact PySem.W.kia_one (PySem.W.kitx_own (cl.get _) cl.hd ha hn htk hm) I.kIn J e (fun z=>nomatch z) h
end
end L2
namespace L2
open PySem PySem.Spec PyProof.Rows
structure Room(k:Nat)(A:Around):Prop where
 hd:A.handled=none
 dp:A.depth+3*k+5<recursionLimit
 un:A.units+16*k+200<cLine
 gd:A.guards=some []
theorem Room.mono{j k:Nat}{A:Around}(r:Room k A)(h:j≤k):Room j A:=⟨r.hd,by have:=r.dp;omega,by have:=r.un;omega,r.gd⟩
theorem Room.deeper{k:Nat}{A:Around}(r:Room (k+1) A)(env:Env):Room k (A.deeper env):=
 ⟨r.hd,by have:=r.dp;show A.depth+1+3*k+5<_;omega,by have:=r.un;show A.units+3+16*k+200<_;omega,r.gd⟩
theorem Room.depth{k:Nat}{A:Around}(r:Room k A):A.depth<recursionLimit:=by have:=r.dp;omega
def Up:TA:=fun _ H Q=>Q [] H
def Q5(ta:TE)(tr:TA):TA:=fun σ H Q=>ta σ H fun x H1=>tr σ H1 fun xs H2=>Q (x::xs) H2
section
variable{X:Cx}{e:Expr}{es:List Expr}{te:TE}{t:TA}{pos:Pos}
theorem pa_nil:PA X [] Up:=fun _ _ _ _ H Q I h=>Calls.spliced_nil ⟨[],H,I,.nil,h⟩
theorem Fr(ha:PE X e te)(hr:PA X es t)(hs:starEach (e::es) X.env=(false,eval e X.env)::starEach es X.env:=by rfl):PA X (e::es) (Q5 te t):=by
 intro pos pins s σ H Q I h
 rw[hs]
 show wpAny _ _ (spliced ((false,eval e X.env)::backTo pos (starEach es X.env))) _ _ s
 refine Calls.spliced_cons (thn (ha pins s σ H _ I h) fun u s1 ⟨x,H1,I1,r1,q1⟩=>?_)
 exact thn (hr pos pins s1 σ H1 _ I1 q1) fun us s2 ⟨xs,H2,I2,r2,q2⟩=>⟨x::xs,H2,I2,.cons r1 r2,q2⟩

def tTup(t:TA):TE:=fun σ H Q=>t σ H fun xs H1=>xs.length≤sizeLine∧∀p,H1 p=none→Q (.ref p) (upd H1 p (.tup xs))
def tLst(t:TA):TE:=fun σ H Q=>t σ H fun xs H1=>xs.length≤sizeLine∧∀p,H1 p=none→Q (.ref p) (upd H1 p (.lst xs))
theorem Act{x1}(h:PA X es t):PE X (.Tuple es x1 pos) (tTup t):=by
 intro pins s σ H Q I hq
 refine wpAny_Tuple_spliced (thn (h pos pins s σ H _ I hq) fun us s1 ⟨xs,H1,I1,r,z,q⟩=>⟨by rw[←r.length];exact z,?_⟩)
 have hf:H1 s1.heap.objs.size=none:=I1.hok.fresh (Nat.le_refl _)
 refine⟨.ref s1.heap.objs.size,upd H1 s1.heap.objs.size (.tup xs),I1.laid (t':=s1.toks) (fun b u e=>Heap.get?_push_of_some _ e) (Nat.le_refl _) ?_,rfl,q _ hf⟩
 exact⟨z,us,r,⟨_,Heap.get?_push_size _ rfl,rfl,_,rfl⟩⟩
theorem Acw(h:PA X es t):PE X (.List es pos) (tLst t):=by
 intro pins s σ H Q I hq
 refine wpAny_List_spliced (thn (h pos pins s σ H _ I hq) fun us s1 ⟨xs,H1,I1,r,z,q⟩=>⟨by rw[←r.length];exact z,?_⟩)
 have hf:H1 s1.heap.objs.size=none:=I1.hok.fresh (Nat.le_refl _)
 refine⟨.ref s1.heap.objs.size,upd H1 s1.heap.objs.size (.lst xs),I1.laid (t':=s1.toks) (fun b u e=>Heap.get?_push_of_some _ e) (Nat.le_refl _) ?_,rfl,q _ hf⟩
 exact⟨z,us,0,r,Heap.get?_push_size _ rfl⟩
end
abbrev Sp:=List V→Hp→VK→XK→Prop
abbrev CXT:=List Env→Hp→Shared→XK→Value→Shared→Prop

structure Env0(P:Program)(w:World)(K:PySem.W.Frag)(mg:Str→Option Value)(base:Heap)(A:Around)(outer:List Env)(s:Shared)(H:Hp):Prop where
 frames:A.frames=some outer
 mod:Mod K mg base
 bs:∀b o,base.get? b=some o→s.heap.get? b=some o∧H b=none
 bsz:base.objs.size≤s.heap.objs.size
 funs:s.heap.FunFrames base outer
 frf:∀b∈frs outer,H b=none
 hok:HOk P w H s.heap
 bare:AllBare s.gens
def CE(outer:List Env)(P:Program)(w:World)(H:Hp)(s:Shared)(Q:VK)(u:Value)(s':Shared):Prop:=
 ∃v H',s'.os=s.os∧AllBare s'.gens∧Un (frs outer) [] H H' s.heap s'.heap∧HOk P w H' s'.heap∧RelV v u∧Q v H'
def CR(CX:CXT)(outer:List Env)(P:Program)(w:World)(H:Hp)(s:Shared)(Q:VK)(E:XK)(r:Result)(s':Shared):Prop:=
 match r with
 |.ok (.ret u)=>CE outer P w H s Q u s'
 |.ok _=>False
 |.error e=>CX outer H s E e s'
structure FnOk(P:Program)(w:World)(K:PySem.W.Frag)(mg:Str→Option Value)(base:Heap)(CX:CXT)(k:Nat)(f:Addr)(fd:FuncData)(ps:List Str)(sp:Sp):Prop where
 len:∀vs H Q E,sp vs H Q E→vs.length=ps.length
 run:∀(A:Around) (outer:List Env) (s:Shared) (H:Hp) (args:Args) (us:List Value) (vs:List V) (Q:VK) (E:XK),Room k A→Env0 P w K mg base A outer s H→BindsTo s fd args (ps.zip us)→Vals vs us→sp vs H Q E→
  codeAny (model P w) A (.call (.ref f) args) (CR CX outer P w H s Q E) s
section
variable{X:Cx}{pins:List (Addr×Obj)}{σ:St}{H:Hp}{s s':Shared}
theorem Inv.env0(I:Inv X pins σ H s):Env0 X.prog X.w X.K X.mg X.base X.A X.stack s H:=
 ⟨I.ok.frames,I.ok.mod,I.bs,Nat.le_trans I.ok.bsz I.sz,I.stack,I.stkFree,I.hok,I.bare⟩
theorem Inv.after{Q:VK}{u:Value}(I:Inv X pins σ H s)(h:CE X.stack X.prog X.w H s Q u s'):EP X pins σ Q u s':=by
 obtain⟨v,H',os,bare,un,hok,r,q⟩:=h
 obtain⟨hh,g,d,t,os'⟩:=s'
 obtain rfl:os'=s.os:=os
 exact⟨v,H',I.call (h':=hh) (g':=g) (d':=d) (t':=t) (ch:=[]) un hok bare (fun b z=>absurd z (by simp)),r,q⟩
end
def tCall(sp:Sp)(dvs:List V)(E:XK)(t:TA):TE:=fun σ H Q=>t σ H fun vs H1=>sp (vs++dvs) H1 Q E
def Binds(K:PySem.W.Frag)(fd:FuncData)(ps:List Str)(ds:List Value):Prop:=
 ∀(s:Shared) (us:List Value),K.In s.heap→(us++ds).length=ps.length→BindsTo s fd ⟨us,[]⟩ (ps.zip (us++ds))
theorem Binds.all{K:W.Frag}{fd:FuncData}{ps:List Str}(h:∀us:List Value,us.length=ps.length→bindArgs fd ⟨us,[]⟩=pure (ps.zip us)):Binds K fd ps []:=fun s us _ hl=>by
 rw[List.append_nil] at hl ⊢
 exact .of_eq (h us hl)

def Mc(CX:CXT)(X:Cx)(E:XK):Prop:=∀(pins:List (Addr×Obj)) (σ:St) (H:Hp) (s:Shared) (e:Value) (s':Shared),Inv X pins σ H s→CX X.stack H s E e s'→X.xe e s'

section
variable{X:Cx}{CX:CXT}{k:Nat}{f C:Addr}{fd:FuncData}{ps:List Str}{sp:Sp}{dvs:List V}{ds:List Value}{E:XK}{x m:Str}{p pos apos:Pos}{e o:Expr}{es:List Expr}{ta:TE}{t:TA}
theorem Ab7{pins:List (Addr×Obj)}{σ:St}{H:Hp}{s:Shared}{Q:VK}{us:List Value}{vs:List V}(F:FnOk X.prog X.w X.K X.mg X.base CX k f fd ps sp)(hr:Room k X.A)(hb:Binds X.K fd ps ds)(hd:Vals dvs ds)(hx:Mc CX X E)(I:Inv X pins σ H s)(r:Vals vs us)(h:sp (vs++dvs) H Q E):wpAny (model X.prog X.w) X.A (call (.ref f) us) (EP X pins σ Q) X.xe s:=by
 have r2:Vals (vs++dvs) (us++ds):=r.append hd
 have hl:(us++ds).length=ps.length:=by rw[←r2.length];exact F.len _ _ _ _ h
 refine wpAny_call (codeAny_mono (F.run X.A X.stack s H ⟨us,[]⟩ (us++ds) (vs++dvs) Q E hr I.env0 (hb s us I.kIn hl) r2 h) fun r s' hq=>?_)
 cases r with
 |error e=>exact hx pins σ H s e s' I hq
 |ok fl=>
  cases fl with
  |ret u=>exact I.after hq
  |next=>exact False.elim hq
  |brk=>exact False.elim hq
  |cont=>exact False.elim hq

theorem Z1(F:FnOk X.prog X.w X.K X.mg X.base CX k f fd ps sp)(hr:Room k X.A)(hg:Gl X x)(hm:X.mg x=some (.ref f))(hk:PySem.W.keepIn X.K (.ref f)=true)(hb:Binds X.K fd ps ds)(hd:Vals dvs ds)(hx:Mc CX X E)(ha:PA X (e::es) t)(hdb:(x == ("__debug__" : Str))=false:=by decide)(he:starEach (e::es) X.env=(false,eval e X.env)::starEach es X.env:=by rfl)(hpl:(backTo pos (starEach es X.env)).any (·.1)=false:=by rfl) :
  PE X (.Call (.Name x p) (e::es) [] pos) (tCall sp dvs E t):=by
 intro pins s σ H Q I h
 refine wpAny_Call_Name_kw (Ru I hg hm ?_ hdb)
 refine PySem.W.callWith_K (h₀:=X.base) I.ok.mod.kin hk (thn (ha pos pins s σ H _ I h) fun us s1 ⟨vs,H1,I1,r,q⟩=>⟨I1.kIn,?_⟩) he hpl
 exact Ab7 F hr hb hd hx I1 r q
end
def PK(X:Cx)(kws:List Keyword)(t:TA):Prop:=
 ∀(pos:Pos) (pins:List (Addr×Obj)) (s:Shared) (σ:St) (H:Hp) (Q:List V→Hp→Prop),Inv X pins σ H s→t σ H Q→wpAny (model X.prog X.w) X.A (evalAll ((backToKw pos (keywordEach kws X.env)).map (·.2))) (AP X pins σ Q) X.xe s
section
variable{X:Cx}{CX:CXT}{k:Nat}{f C:Addr}{fd:FuncData}{ps ks:List Str}{sp:Sp}{E:XK}{x m:Str}{p pos apos kpos:Pos}{e o:Expr}{es:List Expr}{kws:List Keyword}{te ta:TE}{t tk:TA}{nm:Option Str}
theorem Acn:PK X [] Up:=fun _ _ _ _ H Q I h=>wpAny_evalAll_nil ⟨[],H,I,.nil,h⟩
theorem Zu(ha:PE X e te)(hr:PK X kws t):PK X (⟨nm,e,kpos⟩::kws) (Q5 te t):=by
 intro pos pins s σ H Q I h
 show wpAny _ _ (evalAll ((do let v ←eval e X.env;standAt pos;pure v)::(backToKw pos (keywordEach kws X.env)).map (·.2))) _ _ s
 refine wpAny_evalAll_cons (wpAny_bind (thn (ha pins s σ H _ I h) fun u s1 ⟨x,H1,I1,r1,q1⟩=>wpAny_bind (wpAny_standAt (wpAny_pure ?_))))
 exact thn (hr pos pins s1 σ H1 _ I1 q1) fun us s2 ⟨xs,H2,I2,r2,q2⟩=>⟨x::xs,H2,I2,.cons r1 r2,q2⟩

variable{g:List Value→List Value→List Value}{gV:List V→List V→List V}
end
structure FnScope(N P:List Str)(sc:Scope):Prop where
 kind:sc.kind=.function
 co:sc.isCoroutine=false
 gen:sc.isGenerator=false
 nd:N.Nodup
 pre:N.take P.length=P
 par:∀x∈P,sc.names.lookup x=some .local∨sc.names.lookup x=some .cell
 nofree:∀y∈sc.names,y.2≠.free

theorem Ls{kindOf:Str→Option NameKind}{x:Str}:∀{binds:List (Str×Value)} {m:Str→Option Value},(∀v,(x,v) ∉ binds)→bindL kindOf binds m x=m x
 |[],_,_=>rfl
 |(n,v)::r,m,h=>by
  unfold bindL
  rw[Ls fun w hw=>h w (List.mem_cons_of_mem _ hw)]
  split
  ·have:x≠n:=by rintro rfl;exact h v List.mem_cons_self
   simp[this]
  ·rfl
theorem Lv{kindOf:Str→Option NameKind}{x:Str}:∀{binds:List (Str×Value)} {m:Str→Option Value},(∀v,(x,v) ∉ binds)→bindC kindOf binds m x=m x
 |[],_,_=>rfl
 |(n,v)::r,m,h=>by
  unfold bindC
  rw[Lv fun w hw=>h w (List.mem_cons_of_mem _ hw)]
  split
  ·rfl
  ·have:x≠n:=by rintro rfl;exact h v List.mem_cons_self
   simp[this]
theorem Lu{kindOf:Str→Option NameKind}{x:Str}{v:Value}:∀{P:List Str} {vs:List Value} {i:Nat} {m:Str→Option Value},P.Nodup→P[i]? = some x→vs[i]? = some v→kindOf x=some .local→
  bindL kindOf (P.zip vs) m x=some v
 |[],_,_,_,_,h,_,_=>by simp at h
 |_::_,[],_,_,_,_,h,_=>by simp at h
 |p::P,w::vs,0,m,nd,h1,h2,hk=>by
  simp at h1 h2;subst h1;subst h2
  show bindL kindOf ((p,w)::P.zip vs) m p=_
  unfold bindL
  rw[Ls fun v hv=>(List.nodup_cons.mp nd).1 (List.of_mem_zip hv).1,if_pos hk]
  simp
 |p::P,w::vs,i+1,m,nd,h1,h2,hk=>by
  show bindL kindOf ((p,w)::P.zip vs) m x=_
  unfold bindL
  exact Lu (i:=i) (List.nodup_cons.mp nd).2 (by simpa using h1) (by simpa using h2) hk
theorem Lw{kindOf:Str→Option NameKind}{x:Str}{v:Value}:∀{P:List Str} {vs:List Value} {i:Nat} {m:Str→Option Value},P.Nodup→P[i]? = some x→vs[i]? = some v→kindOf x≠some .local→
  bindC kindOf (P.zip vs) m x=some v
 |[],_,_,_,_,h,_,_=>by simp at h
 |_::_,[],_,_,_,_,h,_=>by simp at h
 |p::P,w::vs,0,m,nd,h1,h2,hk=>by
  simp at h1 h2;subst h1;subst h2
  show bindC kindOf ((p,w)::P.zip vs) m p=_
  unfold bindC
  rw[Lv fun v hv=>(List.nodup_cons.mp nd).1 (List.of_mem_zip hv).1,if_neg hk]
  simp
 |p::P,w::vs,i+1,m,nd,h1,h2,hk=>by
  show bindC kindOf ((p,w)::P.zip vs) m x=_
  unfold bindC
  exact Lw (i:=i) (List.nodup_cons.mp nd).2 (by simpa using h1) (by simpa using h2) hk

def start(N:List Str)(vs:List V):St:=vs.map some++List.replicate (N.length-vs.length) none

def Pw(CX:CXT)(P:Program)(w:World)(K:PySem.W.Frag)(mg:Str→Option Value)(base:Heap)(N:List Str)(qual:Str)(scope:Scope)(f:Addr)(cd:Value)(A:Around)(outer:List Env)(s:Shared)(H:Hp)(E:XK):Cx where
 prog:=P
 w:=w
 K:=K
 mg:=mg
 base:=base
 A:=A.deeper (envOfC qual scope s.heap.objs.size f cd)
 N:=N
 s₀:=s
 H₀:=H
 env:=envOfC qual scope s.heap.objs.size f cd
 outer:=outer
 stack:=envOfC qual scope s.heap.objs.size f cd::outer
 ex:=[]
 calm:=true
 fn:=fun _=>true
 pn:=[]
 xe:=fun e s'=>wpAny (model P w) (A.deeper (envOfC qual scope s.heap.objs.size f cd)) (leaving (envOfC qual scope s.heap.objs.size f cd) e) (fun _ s''=>CX outer H s E e s'') (fun e' s''=>CX outer H s E e' s'') s'

theorem O4{sc:Scope}{n:Nat}{x:Str}(h:sc.names.lookup x=some .cell):∃c,(cellsFrom n sc.names []).lookup x=some c:=by
 have q:=PySem.W.cellsFrom_some sc.names n [] (.inl h)
 exact Option.isSome_iff_exists.mp q

theorem Ts{CX:CXT}{P:Program}{w:World}{K:W.Frag}{mg:Str→Option Value}{base:Heap}{N ps:List Str}{qual:Str}{scope:Scope}{f:Addr}{cd:Value}{A:Around}{outer:List Env}{s s1:Shared}{H:Hp}{E:XK}{us:List Value}{vs:List V}(S:FnScope N ps scope)(hd:A.handled=none)(e0:Env0 P w K mg base A outer s H)(hl:vs.length=ps.length)(r:Vals vs us)(x:InCallC s s.heap.objs.size (bindL (envOfC qual scope s.heap.objs.size f cd).kindOf (ps.zip us) fun _=>none) (cellsFrom (s.heap.objs.size+1) scope.names []) (bindC (envOfC qual scope s.heap.objs.size f cd).kindOf (ps.zip us) fun _=>none) s1) :
  Inv (Pw CX P w K mg base N qual scope f cd A outer s H E) [] (start N vs) H s1:=by
 have hpl:ps.length≤N.length:=by have:=congrArg List.length S.pre;rw[List.length_take] at this;omega
 obtain⟨h1,tk,rfl,hk⟩:=x.done
 have noA:∀b:Addr,b ∉ (Pw CX P w K mg base N qual scope f cd A outer s H E).ex:=fun b z=>absurd (show b∈([]:List Addr) from z) (by simp)
 refine⟨⟨e0.mod,S.kind,rfl,rfl,Nat.le_refl _,fun y z c h1 h2=>?_,fun y hy=>?_,fun y c _ h=>?_,fun _=>hd,Around.frames_deeper e0.frames,.inr ⟨rfl,rfl⟩,fun b z=>absurd z (noA b),e0.bs,e0.bsz,fun b _ _=>noA b,fun b z=>absurd z (noA b),e0.funs,e0.frf⟩,
  rfl,e0.bare,Un.kept hk,⟨_,x.toInCall.ns,fun i y v h1 h2 h3=>?_⟩,fun y c h=>⟨_,x.cell y c h⟩,e0.hok.fresh (Nat.le_refl _),fun y c h=>?_,fun p hp=>absurd (show p∈([]:List (Addr×Obj)) from hp) (by simp),e0.hok.kept hk,?_⟩
 ·exact name_of_addr x.apart (PySem.mem_of_lookup h1) (PySem.mem_of_lookup h2)
 ·have hy:scope.names.lookup y=some .cell∨scope.names.lookup y=some .free:=hy
  rcases hy with hy|hy
  ·exact O4 hy
  ·exact absurd rfl (S.nofree _ (PySem.mem_of_lookup hy))
 ·exact Nat.le_of_lt (x.above y c (PySem.mem_of_lookup h))
 ·have hi:i<vs.length:=by
   unfold start at h2
   by_cases hi:i<vs.length
   ·exact hi
   ·rw[List.getElem?_append_right (by simpa using hi)] at h2
    rw[List.getElem?_replicate] at h2
    split at h2<;>cases h2
  have ha:vs[i]? = some v:=by
   unfold start at h2
   rw[List.getElem?_append_left (by simpa using hi),List.getElem?_map] at h2
   cases e:vs[i]? with
   |none=>rw[e] at h2;cases h2
   |some a=>rw[e] at h2;cases h2;rfl
  obtain⟨u,hu,rv⟩:=r.get ha
  have hp:ps[i]? = some y:=by
   rw[←S.pre,List.getElem?_take_of_lt (by omega)];exact h1
  have ndP:ps.Nodup:=by rw[←S.pre];exact S.nd.sublist (List.take_sublist _ _)
  refine⟨u,rv,?_⟩
  rcases S.par y (List.mem_of_getElem? hp) with k|k
  ·exact .inl ⟨k,Lu ndP hp hu k⟩
  ·obtain⟨c,e⟩:=O4 (n:=s.heap.objs.size+1) k
   refine .inr ⟨.inl k,c,e,?_⟩
   have q:=x.cell y c e
   rw[Lw ndP hp hu (by show scope.names.lookup y≠_;rw[k];decide)] at q
   exact q
 ·exact e0.hok.fresh (Nat.le_of_lt (x.above y c (PySem.mem_of_lookup h)))
 ·unfold start
  show _=N.length
  rw[List.length_append,List.length_map,List.length_replicate]
  omega

theorem fn_of{CX:CXT}{P:Program}{w:World}{K:W.Frag}{mg:Str→Option Value}{base:Heap}{k:Nat}{f:Addr}{name qual:Str}{params:Arguments}{body:List Stmt}{scope:Scope}{dV kV doc pm cdv ct oc:Value}{an od:Option Addr}{osl:Array (Option Value)}{N ps:List Str}{sp:Sp}(lk:K.lookup f=some ⟨oc,od,.func (PySem.W.fnOf name qual params body scope dV kV doc pm an cdv ct),osl⟩)(hcd:PySem.W.codeIn K cdv qual=true)(S:FnScope N ps scope)(len:∀vs H Q E,sp vs H Q E→vs.length=ps.length)(hbody:∀(A:Around) (outer:List Env) (s:Shared) (H:Hp) (vs:List V) (Q:VK) (E:XK),Room k (A.deeper (envOfC qual scope s.heap.objs.size f cdv))→sp vs H Q E→
   ∃t,PSs (Pw CX P w K mg base N qual scope f cdv A outer s H E) body t∧t { nx:=fun _ H'=>Q .non H',rt:=Q } (start N vs) H) :
  FnOk P w K mg base CX (k+1) f (PySem.W.fnOf name qual params body scope dV kV doc pm an cdv ct) ps sp:=by
 refine⟨len,fun A outer s H args us vs Q E hr e0 hb r hsp=>?_⟩
 have hl:=len _ _ _ _ hsp
 have KX:K.In s.heap:=e0.mod.kin.keeps fun b o e=>(e0.bs b o e).1
 have lim:s.heap.NoLimit:=e0.mod.nolimit.keeps fun b o e=>(e0.bs b o e).1
 have hkind:∀y∈ps.zip us,scope.names.lookup y.1=some .local∨(scope.names.lookup y.1=some .cell∧((cellsFrom (s.heap.objs.size+1) scope.names []).lookup y.1).isSome=true):=fun⟨n,v⟩ hy=>by
  rcases S.par n (List.of_mem_zip hy).1 with q|q
  ·exact .inl q
  ·exact .inr ⟨q,PySem.W.cellsFrom_some _ _ _ (.inl q)⟩
 refine codeAny_call_function hr.depth (KX _ _ lk) rfl S.co S.gen rfl (PySem.W.codeRec_of KX hcd) (hb _ _ _ _ ?_)
 refine wpAny_newFunctionEnv_cells S.kind hkind fun env he s1 x=>?_
 subst he
 refine⟨lim.keeps x.toInCall.keep,codeAny_func ?_⟩
 obtain⟨t,ht,hq⟩:=hbody A outer s H vs Q E (hr.deeper _) hsp
 have I:Inv (Pw CX P w K mg base N qual scope f cdv A outer s H E) [] (start N vs) H s1:=Ts S hr.hd e0 hl r x
 refine wpAny_mono (ht [] s1 (start N vs) H _ I hq) (fun fl s' hs=>?_) fun e s' hs=>hs
 have fin:∀{σ':St} {H':Hp} {v:V} {u:Value},Inv (Pw CX P w K mg base N qual scope f cdv A outer s H E) [] σ' H' s'→RelV v u→Q v H'→CE outer P w H s Q u s':=
  fun {σ' H' v u} J rv q=>⟨v,H',J.os,J.bare,J.base,J.hok,rv,q⟩
 cases fl with
 |ret u=>
  obtain⟨v,σ',H',J,rv,q⟩:=hs
  exact fin J rv q
 |next=>
  obtain⟨σ',H',J,q⟩:=hs
  exact fin (v:=V.non) (u:=Value.none) J rfl q
 |brk=>
  obtain⟨_,_,_,q⟩:=hs
  exact False.elim q
 |cont=>
  obtain⟨_,_,_,q⟩:=hs
  exact False.elim q
end L2
namespace L2
open PySem PySem.Spec PyProof.Rows
section
variable{X:Cx}{x:Str}{p pos:Pos}{e:Expr}{es:List Expr}{t:TA}{id T:String}{r:List V→Hp→VK→Prop}
def tCB(r:List V→Hp→VK→Prop)(t:TA):TE:=fun σ H Q=>t σ H fun vs H1=>r vs H1 Q
theorem Iv(hc:CallR X (.builtin id) r)(hg:Gl X x)(hm:X.mg x=none)(hv:bootBuiltins x=some (.builtin id))(ha:PA X (e::es) t)(hn:x≠"__name__":=by decide)(hdb:(x == ("__debug__" : Str))=false:=by decide)(he:starEach (e::es) X.env=(false,eval e X.env)::starEach es X.env:=by rfl)(hpl:(backTo pos (starEach es X.env)).any (·.1)=false:=by rfl):PE X (.Call (.Name x p) (e::es) [] pos) (tCB r t):=by
 intro pins s σ H Q I h
 refine wpAny_Call_Name_kw (Do I hg hm hv ?_ hn hdb)
 exact PyProof.Rows.callWith_builtin1 (thn (ha pos pins s σ H _ I h) fun us s1 ⟨vs,H1,I1,r1,q1⟩=>hc pins s1 σ H1 vs us Q I1 r1 q1) he hpl
theorem Li(hc:CallR X (.type T) r)(hg:Gl X x)(hm:X.mg x=none)(hv:bootBuiltins x=some (.type T))(ha:PA X (e::es) t)(hn:x≠"__name__":=by decide)(hdb:(x == ("__debug__" : Str))=false:=by decide)(he:starEach (e::es) X.env=(false,eval e X.env)::starEach es X.env:=by rfl)(hpl:(backTo pos (starEach es X.env)).any (·.1)=false:=by rfl):PE X (.Call (.Name x p) (e::es) [] pos) (tCB r t):=by
 intro pins s σ H Q I h
 refine wpAny_Call_Name_kw (Do I hg hm hv ?_ hn hdb)
 exact PyProof.Rows.callWith_type1 (thn (ha pos pins s σ H _ I h) fun us s1 ⟨vs,H1,I1,r1,q1⟩=>hc pins s1 σ H1 vs us Q I1 r1 q1) he hpl
end
end L2
namespace HT
open PySem PyProof.Rows
def lexLt:List Int→List Int→Bool
 |[],[]=>false
 |[],_::_=>true
 |_::_,[]=>false
 |x::xs,y::ys=>if x=y then lexLt xs ys else decide (x<y)
theorem Qn(x y:Int)(xs ys:List Int):lexLt (x::xs) (y::ys)=if x=y then lexLt xs ys else decide (x<y):=rfl
theorem Kq:lexLt [] []=false:=rfl
theorem J7(y:Int)(ys:List Int):lexLt [] (y::ys)=true:=rfl
theorem J8(x:Int)(xs:List Int):lexLt (x::xs) []=false:=rfl

theorem X0(A:Around)(s:Shared)(a:Int)(t:Tok)(c:Int)(u:Tok):∃e,SeqAt.EqAt A s (.int a t) (.int c u) e∧(e=true↔a=c):=
 ⟨(a == c),SeqAt.EqAt.int_int a t c u,by simp⟩
theorem Wn(A:Around)(s:Shared)(a:Int)(t:Tok)(c:Int)(u:Tok)(prog:Program)(w:World)(E:Value→Shared→Prop)(Q:Value→Shared→Prop)(h:Q (.bool (decide (a<c))) s) :
  wpAny (model prog w) A (richCompare .Lt (.int a t) (.int c u)) Q E s:=
 (PyProof.Rows.lt_int h:wpAny (model prog w) A (compareOp .Lt (.int a t) (.int c u)) Q E s)

section
open PySem.SeqAt
open PySem.AutoSeq1 (wpAny_loadPart')
open PySem.MeetsSeq PySem.MeetsSeq2 PySem.MeetsSeq3
theorem Kj(l b:Addr)(items items2:Array Value)(n n2:Nat)(dd dd2:Option Addr)(sl sl2:Array (Option Value))(ns ms:List Int)(hi:IntsAre items.toList ns)(hj:IntsAre items2.toList ms) :
  Meets (Builtin.«tuple.__lt__» ⟨[.ref l,.ref b],[]⟩)
   (fun _ R s=>s.heap.get? l=some { cls:=.type "tuple",dict:=dd,data:=.seq items n,slots:=sl }∧s.heap.get? b=some { cls:=.type "tuple",dict:=dd2,data:=.seq items2 n2,slots:=sl2 }∧
    R (.ok (.ret (.bool (lexLt ns ms)))) s):=
 .of_wp fun prog w A R s h=>by
  obtain⟨hp,g,d,tk,os⟩:=s;obtain⟨hl,hb,h⟩:=h
  have f2:=AutoSeq1.sub_tuple_tuple
  have z1:items.size=ns.length:=by rw[←hi.length];simp
  have z2:items2.size=ms.length:=by rw[←hj.length];simp
  wp_walk using wpAny_loadPart' hl,wpAny_loadPart' hb,wpAny_forIn_list _ (fun rest b s'=>b.1=none∧s'=⟨hp,g,d,tk,os⟩∧∃(vs ws:List Value) (ns' ms':List Int),rest=vs.zip ws∧
   IntsAre vs ns'∧IntsAre ws ms'∧ns'.length+items2.size=ms'.length+items.size∧R (.ok (.ret (.bool (lexLt ns' ms')))) ⟨hp,g,d,tk,os⟩) _
  case turn=>
   rintro⟨y,x⟩ rest b s' ⟨hb',rfl,vs,ws,ns',ms',hz,hvi,hwi,hlen,hR⟩
   cases hvi with
   |nil=>rw[List.zip_nil_left] at hz;cases hz
   |cons a t hvi'=>
    cases hwi with
    |nil=>rw[List.zip_nil_right] at hz;cases hz
    |cons c u hwi'=>
     rw[List.zip_cons_cons] at hz
     injection hz with hyx hrest
     injection hyx with hy hx
     subst hy hx
     rw[Qn] at hR
     simp only[List.length_cons] at hlen
     obtain⟨e,he,hiff⟩:=X0 A.in1 ⟨hp,g,d,tk,os⟩ a t c u
     refine wpAny_bind (he prog w _ _ ?_)
     cases e with
     |true=>
      rw[if_pos (hiff.mp rfl)] at hR
      wp_walk
      exact⟨rfl,rfl,_,_,_,_,hrest,hvi',hwi',by omega,hR⟩
     |false=>
      rw[if_neg (fun q=>absurd (hiff.mpr q) Bool.false_ne_true)] at hR
      have hri:=Wn A.in1 ⟨hp,g,d,tk,os⟩ a t c u prog w
      wp_walk using hri
      exact⟨_,rfl,by simpa using hR⟩
  case fin=>
   rintro⟨b1,b2⟩ s' ⟨hb',rfl,vs,ws,ns',ms',hz,hvi,hwi,hlen,hR⟩
   simp only at hb'
   subst hb'
   have hv:lexLt ns' ms'=decide (items.size<items2.size):=by
    cases hvi with
    |nil=>
     cases hwi with
     |nil=>
      simp only[List.length_nil] at hlen
      rw[Kq]
      exact(decide_eq_false (by omega)).symm
     |cons c u hw=>
      simp only[List.length_nil,List.length_cons] at hlen
      rw[J7]
      exact(decide_eq_true (by omega)).symm
    |cons a t hv=>
     cases hwi with
     |nil=>
      simp only[List.length_nil,List.length_cons] at hlen
      rw[J8]
      exact(decide_eq_false (by omega)).symm
     |cons c u hw=>
      rw[List.zip_cons_cons] at hz
      cases hz
   rw[hv] at hR
   wp_walk
   exact⟨_,rfl,by simpa[Builtin.Tuple.tupleCompareSizes] using hR⟩
  case h=>
   exact⟨rfl,rfl,items.toList,items2.toList,ns,ms,rfl,hi,hj,by omega,h⟩
end
section
variable{prog:Program}{w:World}{A:Around}{E:Value→Shared→Prop}{s:Shared}
theorem lt_tupInts{l b:Addr}{items items2:Array Value}{ns ms:List Int}{Q:Value→Shared→Prop}(hl:IsTup s.heap l items)(hb:IsTup s.heap b items2)(hi:IntsAre items.toList ns)(hj:IntsAre items2.toList ms)(hu:A.units<cLine)(h:Q (.bool (lexLt ns ms)) s):wpAny (model prog w) A (compareOp .Lt (.ref l) (.ref b)) Q E s:=by
 obtain⟨⟨cls,dd,data,sl⟩,ho,hc,n,hd⟩:=id hl
 obtain⟨⟨cls2,dd2,data2,sl2⟩,ho2,hc2,n2,hd2⟩:=id hb
 simp only at hc hd hc2 hd2
 subst hc hd hc2 hd2
 exact richCompare_meets_room (op:=.Lt) ⟨_,ho,rfl⟩ ⟨_,ho2,rfl⟩ PySem.F.slot_tuple_lt PySem.F.entry_tuple_lt (PySem.F.args_tuple_lt_2 _ _) (Kj l b items items2 n n2 dd dd2 sl sl2 ns ms hi hj)
  ⟨ho,ho2,show Value.bool (lexLt ns ms)≠Value.notImplemented∧Q (.bool (lexLt ns ms)) s from⟨(fun x=>nomatch x),h⟩⟩ hu

theorem cat_tup{t b:Addr}{vs ws:List Value}{Q:Value→Shared→Prop}(ht:IsTup s.heap t vs.toArray)(hb:IsTup s.heap b ws.toArray)(hv:vs≠[])(h1:ws=[]→Q (.ref t) s)(h2:ws≠[]→Q (.ref s.heap.objs.size) { s with heap:=s.heap.push { cls:=.type "tuple",data:=.seq (vs++ws).toArray } })(hsz:vs.length+ws.length≤sizeLine):wpAny (model prog w) A (binaryOp .Add (.ref t) (.ref b)) Q E s:=by
 obtain⟨⟨cls,dd,data,sl⟩,ho,hc,n,hd⟩:=id ht
 obtain⟨⟨cls2,dd2,data2,sl2⟩,ho2,hc2,n2,hd2⟩:=id hb
 simp only at hc hd hc2 hd2
 subst hc hd hc2 hd2
 have e:vs.toArray++ws.toArray=(vs++ws).toArray:=by simp
 by_cases hw:ws=[]
 ·exact concat_meets ⟨_,ho,rfl⟩ ⟨_,ho2,rfl⟩ noFill_tuple_add seq_tuple_add PySem.F.slot_tuple_add PySem.F.entry_tuple_add (PySem.F.args_tuple_add_2 _ _)
   (tuple_addW1 t b vs.toArray ws.toArray n n2 dd dd2 sl sl2 (by simpa using hv) (by simp[hw])) ⟨ho,ho2,h1 hw⟩
 ·refine concat_meets ⟨_,ho,rfl⟩ ⟨_,ho2,rfl⟩ noFill_tuple_add seq_tuple_add PySem.F.slot_tuple_add PySem.F.entry_tuple_add (PySem.F.args_tuple_add_2 _ _)
   (tuple_addW2 t b vs.toArray ws.toArray n n2 dd dd2 sl sl2 (by simpa using hv) (by simpa using hw) (by rw[List.size_toArray,List.size_toArray];exact hsz)) ⟨ho,ho2,?_⟩
  rw[e]
  exact h2 hw

def sIx(n d:Nat):Option Int→Nat
 |none=>d
 |some v=>if v<0 then (v+(n:Int)).toNat else min v.toNat n
theorem Ab4(n d:Nat)(hd:d≤n)(o:Option Int):sIx n d o≤n:=by
 cases o with
 |none=>exact hd
 |some v=>
  show(if v<0 then (v+(n:Int)).toNat else min v.toNat n)≤n
  by_cases hv:v<0
  ·rw[if_pos hv];omega
  ·rw[if_neg hv];exact Nat.min_le_right _ _
theorem Sf(v:Int)(n d:Nat):(if v<0 then max (v+(n:Int)) 0 else min v (n:Int))=((sIx n d (some v):Nat):Int):=by
 show(if v<0 then max (v+(n:Int)) 0 else min v (n:Int))=(((if v<0 then (v+(n:Int)).toNat else min v.toNat n):Nat):Int)
 by_cases hv:v<0
 ·simp only[if_pos hv];omega
 ·simp only[if_neg hv];omega
theorem Q1(lo hi:Option Int)(n:Nat):Builtin.Slice.sliceAdjust lo hi 1 (n:Int)=(((sIx n 0 lo:Nat):Int),((sIx n n hi:Nat):Int)):=by
 have h1:¬((1:Int)<0):=by omega
 unfold Builtin.Slice.sliceAdjust
 simp only[h1,if_false]
 refine Prod.ext ?_ ?_
 ·cases lo with
  |none=>rfl
  |some v=>exact Sf v n 0
 ·cases hi with
  |none=>rfl
  |some v=>exact Sf v n n
theorem Qi(i j:Nat):Builtin.Slice.slicePlaces (i:Int) (j:Int) 1=j-i:=by
 unfold Builtin.Slice.slicePlaces
 have h1:(1:Int)>0:=by omega
 simp only[h1,if_true,Int.ediv_one]
 split<;>omega
theorem slicePart_{v:Value}{o:Option Int}{Q:Option Int→Shared→Prop}(p:IsPart v o)(h:Q o s):wpAny (model prog w) A (Builtin.Slice.slicePartIndex v) Q E s:=by
 cases p with
 |none=>exact slicePart_none h
 |int i t=>exact slicePart_int h
theorem sliceApplied_gen{sl:Addr}{vl vu:Value}{lo hi:Option Int}{n:Nat}{Q:Int×Int×Nat→Shared→Prop}(hs:s.heap.IsSliceOf sl vl vu .none)(pl:IsPart vl lo)(pu:IsPart vu hi)(h:Q (((sIx n 0 lo:Nat):Int),1,sIx n n hi-sIx n 0 lo) s):wpAny (model prog w) A (Builtin.Slice.sliceApplied (.ref sl) (pure (n:Int))) Q E s:=by
 obtain⟨os,hos,hcs,hds⟩:=id hs
 unfold Builtin.Slice.sliceApplied Builtin.Slice.sliceFields
 refine wpAny_bind (wpAny_bind (wpAny_field hos hds (x:=vl) rfl (wpAny_bind (wpAny_field hos hds (x:=vu) rfl (wpAny_bind (wpAny_field hos hds (x:=.none) rfl (wpAny_pure ?_)))))))
 refine wpAny_bind (slicePart_none ?_)
 show wpAny _ _ (if ((1:Int) == 0)=true then _ else _) _ _ s
 rw[if_neg (by decide)]
 refine wpAny_bind (slicePart_ pl (wpAny_bind (slicePart_ pu (wpAny_bind (wpAny_pure ?_)))))
 show wpAny _ _ (match Builtin.Slice.sliceAdjust lo hi 1 (n:Int) with|(lo,hi)=>pure (lo,(1:Int),Builtin.Slice.slicePlaces lo hi 1)) _ _ s
 rw[Q1 lo hi n]
 show wpAny _ _ (pure (((sIx n 0 lo:Nat):Int),(1:Int),Builtin.Slice.slicePlaces ((sIx n 0 lo:Nat):Int) ((sIx n n hi:Nat):Int) 1)) _ _ s
 rw[Qi]
 exact wpAny_pure h
theorem Wx(xs:Array Value)(i k:Nat):((List.range k).filterMap fun(m:Nat)=>xs[((i:Int)+(m:Int)*1).toNat]?).toArray=((xs.toList.drop i).take k).toArray:=by
 have e:(fun(m:Nat)=>xs[((i:Int)+(m:Int)*1).toNat]?)=fun m=>xs[i+m]?:=by
  funext m
  have:((i:Int)+(m:Int)*1).toNat=i+m:=by omega
  rw[this]
 rw[e]
 have:=pick_run xs i k
 rw[List.filterMap_map] at this
 have e2:((fun x=>xs[x]?) ∘ fun x=>i+x)=fun m=>xs[i+m]?:=rfl
 rw[e2] at this
 rw[this]

theorem getItem_tuple_cut{t sl:Addr}{items:Array Value}{vl vu:Value}{lo hi:Option Int}{Q:Value→Shared→Prop}(ht:IsTup s.heap t items)(hs:s.heap.IsSliceOf sl vl vu .none)(pl:IsPart vl lo)(pu:IsPart vu hi)(hw:¬(sIx items.size 0 lo=0∧sIx items.size items.size hi=items.size))(h:Q (.ref s.heap.objs.size) { s with heap:=s.heap.push { cls:=.type "tuple",data:=.seq ((items.toList.drop (sIx items.size 0 lo)).take (sIx items.size items.size hi-sIx items.size 0 lo)).toArray } })(hsz:items.size≤sizeLine):wpAny (model prog w) A (getItem (.ref t) (.ref sl)) Q E s:=by
 have htake:sizeOk (.seq ((items.toList.drop (sIx items.size 0 lo)).take (sIx items.size items.size hi-sIx items.size 0 lo)).toArray):=by
  show((items.toList.drop (sIx items.size 0 lo)).take (sIx items.size items.size hi-sIx items.size 0 lo)).toArray.size≤sizeLine
  rw[List.size_toArray,List.length_take,List.length_drop,Array.length_toList]
  omega
 have hj:sIx items.size items.size hi≤items.size:=Ab4 _ _ (Nat.le_refl _) hi
 obtain⟨os,hos,hcs,hds⟩:=id hs
 have hTs:s.TypeIs (.ref sl) "slice":=⟨os,hos,hcs⟩
 unfold getItem
 try with_reducible refine wpAny_holding ?_
 first|refine wpAny_bind (wpAny_pure ?_)|skip
 refine wpAny_bind (wpAny_sequenceKey ht.typeIs (by decide) ?_)
 refine wpAny_bind (wpAny_callSpecial?_slot (name:=Str.ofString "__getitem__") ht.typeIs PyProof.Rows.slot_tuple_getitem
  (wpAny_call_entry PyProof.Rows.slot_tuple_getitem ht.typeIs entry_tuple_getitem ?_ (args_tuple_getitem _ _)))
 show wpAny _ _ (Builtin.Tuple.tupleItemsOf (.ref t) >>= _) _ _ s
 refine wpAny_bind (tupleItemsOf_ ht ?_)
 refine wpAny_bind (wpAny_typeOf hTs ?_)
 rw[if_pos (by decide)]
 refine wpAny_bind (sliceApplied_gen hs pl pu ?_)
 have hno:¬((((sIx items.size 0 lo:Nat):Int) == 0&&(1:Int) == 1&&(sIx items.size items.size hi-sIx items.size 0 lo) == items.size)=true):=by
  intro q
  rw[Bool.and_eq_true,Bool.and_eq_true] at q
  have q1:((sIx items.size 0 lo:Nat):Int)=0:=eq_of_beq q.1.1
  have q2:sIx items.size items.size hi-sIx items.size 0 lo=items.size:=eq_of_beq q.2
  exact hw ⟨by omega,by omega⟩
 show wpAny _ _ (if (((sIx items.size 0 lo:Nat):Int) == 0&&(1:Int) == 1&&(sIx items.size items.size hi-sIx items.size 0 lo) == items.size)=true then _ else _) _ _ s
 rw[if_neg hno,Wx]
 first
  |exact wpAny_bind (m:=Builtin.Tuple.tupleExact _) (wpAny_newObj_type (wpAny_pure ⟨_,rfl,wpAny_pure h⟩) htake)
  |exact wpAny_bind (m:=Builtin.Tuple.tupleExact _) (wpAny_newObj_type (wpAny_bind (wpAny_pure (wpAny_pure ⟨_,rfl,wpAny_pure h⟩))) htake)
  |exact wpAny_bind (wpAny_bind (m:=Builtin.Tuple.tupleExact _) (wpAny_newObj_type (wpAny_pure (wpAny_pure ⟨_,rfl,wpAny_pure h⟩)) htake))
  |exact wpAny_bind (wpAny_bind (m:=Builtin.Tuple.tupleExact _) (wpAny_newObj_type (wpAny_pure ⟨_,rfl,wpAny_pure h⟩) htake))
end
end HT
namespace L2
open PySem PySem.Spec PyProof.Rows
abbrev TO:=St→Hp→(Option Int→Hp→Prop)→Prop
def PO(X:Cx)(e:Option Expr)(t:TO):Prop:=
 ∀(pins:List (Addr×Obj)) (s:Shared) (σ:St) (H:Hp) (Q:Option Int→Hp→Prop),Inv X pins σ H s→t σ H Q→
  wpAny (model X.prog X.w) X.A (evalPart e X.env) (fun u s'=>∃o H',Inv X pins σ H' s'∧IsPart u o∧Q o H') X.xe s
def Y2:TO:=fun _ H Q=>Q none H
def tPart(t:TE):TO:=fun σ H Q=>t σ H fun x H1=>∃i,x=.int i∧Q (some i) H1

theorem Jx{ns:List Int}:∀{us:List Value},Vals (ns.map V.int) us→IntsAre us ns:=by
 induction ns with
 |nil=>intro us r;rw[List.map_nil] at r;cases r;exact .nil
 |cons n ns ih=>
  intro us r
  rw[List.map_cons] at r
  cases r with
  |cons r1 r2=>
   obtain⟨t,e⟩:=r1
   subst e
   exact .cons n t (ih r2)

section
variable{X:Cx}{e:Expr}{te:TE}{lo hi:Option Expr}{tl th:TO}{pos p2:Pos}
theorem po_none:PO X none Y2:=by
 intro pins s σ H Q I h
 rw[evalPart_none]
 exact wpAny_pure ⟨none,H,I,.none,h⟩
theorem Zt(h:PE X e te):PO X (some e) (tPart te):=by
 intro pins s σ H Q I hw
 rw[evalPart_some]
 refine thn (h pins s σ H _ I hw) fun u s1 ⟨x,H1,I1,r1,q1⟩=>?_
 obtain⟨i,rfl,q⟩:=q1
 obtain⟨t,rfl⟩:=r1
 exact⟨some i,H1,I1,.int i t,q⟩

def SlR(X:Cx)(r:V→Option Int→Option Int→Hp→VK→Prop):Prop:=
 ∀(pins:List (Addr×Obj)) (s:Shared) (σ:St) (H:Hp) (x:V) (v vl vu:Value) (lo hi:Option Int) (sl:Addr) (Q:VK),Inv X pins σ H s→RelV x v→s.heap.IsSliceOf sl vl vu .none→IsPart vl lo→IsPart vu hi→r x lo hi H Q→
  ∃T id,typeLookup (.type T) "__getitem__" = pure (some (.builtin id))∧s.TypeIs v T∧wpAny (model X.prog X.w) X.A (getItem v (.ref sl)) (EP X pins σ Q) X.xe s
def tSl(r:V→Option Int→Option Int→Hp→VK→Prop)(te:TE)(tl th:TO):TE:=fun σ H Q=>te σ H fun x H1=>tl σ H1 fun l H2=>th σ H2 fun u H3=>r x l u H3 Q
theorem W1{r:V→Option Int→Option Int→Hp→VK→Prop}(hr:SlR X r)(he:PE X e te)(hl:PO X lo tl)(hu:PO X hi th):PE X (.Subscript e (.Slice lo hi none p2) pos) (tSl r te tl th):=by
 intro pins s σ H Q I h
 refine Subscript_ (thn (he pins s σ H _ I h) fun v s1 ⟨x,H1,I1,r1,q1⟩=>?_)
 refine wpAny_Slice (thn (hl pins s1 σ H1 _ I1 q1) fun vl s2 ⟨l,H2,I2,pl,q2⟩=>thn (hu pins s2 σ H2 _ I2 q2) fun vu s3 ⟨u,H3,I3,pu,q3⟩=>?_)
 rw[evalPart_none]
 refine wpAny_pure ?_
 have I4:Inv X pins σ H3 { s3 with heap:=s3.heap.push { cls:=.type "slice",data:=.fields #[vl,vu,.none] } }:=I3.kept (t':=s3.toks) fun b ob q=>Heap.get?_push_of_some _ q
 obtain⟨T,id,hT,ht,hg⟩:=hr pins { s3 with heap:=s3.heap.push { cls:=.type "slice",data:=.fields #[vl,vu,.none] } } σ H3 x v vl vu l u s3.heap.objs.size Q I4 r1 (Heap.IsSliceOf.new ..) pl pu q3
 show wpAny (model X.prog X.w) X.A (subscriptTail e (.Slice lo hi none p2) v (.ref s3.heap.objs.size)) (EP X pins σ Q) X.xe { s3 with heap:=s3.heap.push { cls:=.type "slice",data:=.fields #[vl,vu,.none] } }
 exact tail_any (ops:=[.ref s3.heap.objs.size,v]) ht hT hg (by with_unfolding_all rfl)

def Nm(xs:List V)(lo hi:Option Int):List V:=(xs.drop (HT.sIx xs.length 0 lo)).take (HT.sIx xs.length xs.length hi-HT.sIx xs.length 0 lo)
theorem Hf(xs:List V)(lo hi:Option Int):(Nm xs lo hi).length≤xs.length:=by
 unfold Nm
 rw[List.length_take,List.length_drop]
 omega
def rSlT(K:PySem.W.Frag):V→Option Int→Option Int→Hp→VK→Prop:=fun x lo hi H Q=>∃a xs,x=.ref a∧SqT K H a xs∧
 ¬(HT.sIx xs.length 0 lo=0∧HT.sIx xs.length xs.length hi=xs.length)∧∀p,H p=none→Q (.ref p) (upd H p (.tup (Nm xs lo hi)))
theorem Ab1:SlR X (rSlT X.K):=by
 intro pins s σ H x v vl vu lo hi sl Q I rx hs pl pu h
 obtain⟨a,xs,rfl,hx,hw,q⟩:=h
 cases rx
 obtain⟨its,r,ht,hz⟩:=I.tuple hx
 have hlen:its.toArray.size=xs.length:=by rw[List.size_toArray];exact r.length.symm
 refine⟨"tuple",_,PyProof.Rows.slot_tuple_getitem.lookup,ht.typeIs,?_⟩
 refine HT.getItem_tuple_cut ht hs pl pu (by rw[hlen];exact hw) ?_ (by rw[hlen];exact hz)
 rw[hlen]
 refine⟨.ref s.heap.objs.size,_,I.laid (t':=s.toks) (o:=.tup (Nm xs lo hi)) (fun b ob q=>Heap.get?_push_of_some _ q) (Nat.le_refl _) ?_,rfl,q _ (I.hok.fresh (Nat.le_refl _))⟩
 exact⟨Nat.le_trans (Hf xs lo hi) hz,_,(r.drop (HT.sIx xs.length 0 lo)).take (HT.sIx xs.length xs.length hi-HT.sIx xs.length 0 lo),IsTup.new _ _⟩

def rLtT(K:PySem.W.Frag):R2:=fun x y H Q=>∃a b ns ms,x=.ref a∧y=.ref b∧SqT K H a (ns.map V.int)∧SqT K H b (ms.map V.int)∧Q (.bl (HT.lexLt ns ms)) H
theorem op_ltT(hu:X.A.units<cLine):OpR X (compareOp .Lt) (rLtT X.K):=by
 intro pins s σ H x y v u Q I rx ry h
 obtain⟨a,b,ns,ms,rfl,rfl,ha,hb,q⟩:=h
 cases rx
 cases ry
 obtain⟨its,r1,p1,_⟩:=I.tuple ha
 obtain⟨its2,r2,p2,_⟩:=I.tuple hb
 have i1:IntsAre its.toArray.toList ns:=Jx r1
 have i2:IntsAre its2.toArray.toList ms:=Jx r2
 exact HT.lt_tupInts p1 p2 i1 i2 hu ⟨.bl (HT.lexLt ns ms),H,I,rfl,q⟩
def rCatT(K:PySem.W.Frag):R2:=fun x y H Q=>∃a b xs ys,x=.ref a∧y=.ref b∧SqT K H a xs∧SqT K H b ys∧xs≠[]∧xs.length+ys.length≤sizeLine∧
 (ys=[]→Q (.ref a) H)∧(ys≠[]→∀p,H p=none→Q (.ref p) (upd H p (.tup (xs++ys))))
theorem Vals.nil_iff{xs:List V}{us:List Value}(r:Vals xs us):us=[]↔xs=[]:=by
 cases r with
 |nil=>simp
 |cons _ _=>simp
theorem Z5:OpR X (binaryOp .Add) (rCatT X.K):=by
 intro pins s σ H x y v u Q I rx ry h
 obtain⟨a,b,xs,ys,rfl,rfl,ha,hb,hx,hz,q1,q2⟩:=h
 cases rx
 cases ry
 obtain⟨its,r1,p1,_⟩:=I.tuple ha
 obtain⟨its2,r2,p2,_⟩:=I.tuple hb
 refine HT.cat_tup p1 p2 (fun z=>hx (r1.nil_iff.mp z)) (fun z=>⟨.ref a,H,I,rfl,q1 (r2.nil_iff.mp z)⟩) (fun z=>?_) (by rw[←r1.length,←r2.length];exact hz)
 refine⟨.ref s.heap.objs.size,_,I.laid (t':=s.toks) (o:=.tup (xs++ys)) (fun b ob q=>Heap.get?_push_of_some _ q) (Nat.le_refl _) ?_,rfl,q2 (fun w=>z (r2.nil_iff.mpr w)) _ (I.hok.fresh (Nat.le_refl _))⟩
 exact⟨by rw[List.length_append];exact hz,_,r1.append r2,IsTup.new _ _⟩
end
end L2
namespace L2
open PySem PySem.Spec PyProof.Rows
def ixN(n:Nat)(i:Int):Option Nat:=if 0≤i then (if i<n then some i.toNat else none) else if -(n:Int)≤i then some (i+n).toNat else none
def atI{α:Type}(xs:List α)(i:Int):Option α:=(ixN xs.length i).bind fun j=>xs[j]?
theorem Rw{n:Nat}{i:Int}{j:Nat}(h:ixN n i=some j):seqIndex? i n=some j∧j<n∧-(n:Int)≤i∧i<n:=by
 unfold ixN at h
 by_cases h0:0≤i
 ·rw[if_pos h0] at h
  by_cases h1:i<n
  ·rw[if_pos h1] at h
   have e:i.toNat=j:=Option.some.inj h
   exact⟨by rw[seqIndex_of h0 h1,e],by omega,by omega,h1⟩
  ·rw[if_neg h1] at h;cases h
 ·rw[if_neg h0] at h
  by_cases h1 : -(n:Int)≤i
  ·rw[if_pos h1] at h
   have e:(i+n).toNat=j:=Option.some.inj h
   exact⟨by rw[seqIndex_neg (by omega) h1,e],by omega,h1,by omega⟩
  ·rw[if_neg h1] at h;cases h
theorem Mx{α:Type}{xs:List α}{i:Int}{v:α}(h:atI xs i=some v):∃j,seqIndex? i xs.length=some j∧xs[j]? = some v∧j<xs.length∧-(xs.length:Int)≤i∧i<xs.length:=by
 unfold atI at h
 cases e:ixN xs.length i with
 |none=>rw[e] at h;cases h
 |some j=>
  rw[e] at h
  obtain⟨h1,h2,h3,h4⟩:=Rw e
  exact⟨j,h1,h,h2,h3,h4⟩
theorem C5{α:Type}{xs:List α}{j:Nat}{v:α}(h:xs[j]? = some v):atI xs (j:Int)=some v:=by
 have hj:j<xs.length:=(List.getElem?_eq_some_iff.mp h).1
 have e:ixN xs.length (j:Int)=some j:=by
  unfold ixN
  rw[if_pos (by omega),if_pos (by omega)];simp
 unfold atI;rw[e];exact h
theorem Cl{α:Type}(xs:List α)(v:α):atI (xs++[v]) (-1)=some v:=by
 have hl:(xs++[v]).length=xs.length+1:=by simp
 have e:ixN (xs++[v]).length (-1)=some xs.length:=by
  unfold ixN
  rw[hl,if_neg (by decide),if_pos (by omega)]
  congr 1
  omega
 unfold atI
 rw[e]
 show(xs++[v])[xs.length]? = some v
 simp

def Sj(b:Expr):Prop:=∀o i,subscripted b false o i=operate [o,i] (getItem o i)
def IxR(X:Cx)(r:R2):Prop:=
 ∀(value slice:Expr) (pins:List (Addr×Obj)) (s:Shared) (σ:St) (H:Hp) (x y:V) (v u:Value) (Q:VK),Inv X pins σ H s→RelV x v→RelV y u→r x y H Q→
  subscripted slice false v u=operate [v,u] (getItem v u)→wpAny (model X.prog X.w) X.A (subscriptTail value slice v u) (EP X pins σ Q) X.xe s
def MtR(X:Cx)(id:String)(r:V→List V→Hp→VK→Prop):Prop:=
 ∀(pins:List (Addr×Obj)) (s:Shared) (σ:St) (H:Hp) (x:V) (xs:List V) (v:Value) (us:List Value) (Q:VK),Inv X pins σ H s→RelV x v→Vals xs us→r x xs H Q→
  wpAny (model X.prog X.w) X.A (call (.builtin id) (v::us)) (EP X pins σ Q) X.xe s
section
variable{X:Cx}{a b:Expr}{ta tb:TE}{pos:Pos}
theorem IxR.or{r r':R2}(h:IxR X r)(h':IxR X r'):IxR X (fun x y H Q=>r x y H Q∨r' x y H Q):=by
 intro value slice pins s σ H x y v u Q I rx ry q hs
 rcases q with q|q
 ·exact h value slice pins s σ H x y v u Q I rx ry q hs
 ·exact h' value slice pins s σ H x y v u Q I rx ry q hs
theorem pe_ix{r:R2}(hr:IxR X r)(ha:PE X a ta)(hb:PE X b tb)(hs:Sj b):PE X (.Subscript a b pos) (tOp r ta tb):=by
 intro pins s σ H Q I h
 exact Subscript_ (binT ha hb I h fun v u s2 x y H2 I2 rx ry q=>hr a b pins s2 σ H2 x y v u Q I2 rx ry q (hs _ _))

def rIxL(K:PySem.W.Frag):R2:=fun x y H Q=>∃p xs i v,x=.ref p∧y=.int i∧SqL K H p xs∧atI xs i=some v∧Q v H
def rIxT(K:PySem.W.Frag):R2:=fun x y H Q=>∃p xs i v,x=.ref p∧y=.int i∧SqT K H p xs∧atI xs i=some v∧Q v H
def rIxS:R2:=fun x y H Q=>∃z i c,x=.str z∧y=.int i∧z.length≤sizeLine∧atI z.cps.toList i=some c∧Q (.str ⟨#[c]⟩) H
theorem ix_list:IxR X (rIxL X.K):=by
 intro value slice pins s σ H x y v u Q I rx ry h hs
 obtain⟨p,xs,i,z,rfl,rfl,hq,he,q⟩:=h
 cases rx
 obtain⟨t,rfl⟩:=ry
 obtain⟨its,r,pl,hz⟩:=I.list hq
 obtain⟨j,h1,h2,h3,h4,h5⟩:=Mx he
 obtain⟨w,ew,rw'⟩:=r.get h2
 have hl:=r.length
 have hn:=E8
 have fin:EP X pins σ Q w s:=⟨z,H,I,rw',q⟩
 by_cases h0:0≤i
 ·have hj:i.toNat=j:=by
   rw[seqIndex_of h0 h5] at h1
   exact Option.some.inj h1
  exact item_listR pl.isList h0 (by omega) (by rw[hj];simpa using ew) fin hs
 ·have hj:(i+(its.toArray.size:Int)).toNat=j:=by
   rw[seqIndex_neg (by omega) h4] at h1
   rw[List.size_toArray,←hl]
   exact Option.some.inj h1
  exact subscriptTail_builtinR (x:=w) pl.isList.typeIs slot_list_getitem.lookup
   (wpAny_getItem_list_neg (Q:=fun r s'=>r=w∧EP X pins σ Q r s') pl.isList (by omega) (by rw[List.size_toArray]<;>omega) (by omega) (by rw[hj];simpa using ew) ⟨rfl,fin⟩) hs
theorem ix_tup:IxR X (rIxT X.K):=by
 intro value slice pins s σ H x y v u Q I rx ry h hs
 obtain⟨p,xs,i,z,rfl,rfl,hq,he,q⟩:=h
 cases rx
 obtain⟨t,rfl⟩:=ry
 obtain⟨its,r,pl,hz⟩:=I.tuple hq
 obtain⟨j,h1,h2,h3,h4,h5⟩:=Mx he
 obtain⟨w,ew,rw'⟩:=r.get h2
 have hl:=r.length
 have hn:=E8
 have fin:EP X pins σ Q w s:=⟨z,H,I,rw',q⟩
 exact subscriptTail_builtinR (x:=w) pl.typeIs slot_tuple_getitem.lookup
  (getItem_tuple (j:=j) (Q:=fun r s'=>r=w∧EP X pins σ Q r s') pl (by omega) (by omega) (by rw[List.size_toArray,←hl];exact h1) (by simpa using ew) ⟨rfl,fin⟩) hs
theorem Adp:IxR X rIxS:=by
 intro value slice pins s σ H x y v u Q I rx ry h hs
 obtain⟨z,i,c,rfl,rfl,hz,he,q⟩:=h
 obtain⟨t,rfl⟩:=rx
 obtain⟨t',rfl⟩:=ry
 obtain⟨j,h1,h2,h3,h4,h5⟩:=Mx he
 have hl:z.cps.toList.length=z.length:=by simp[Str.length]
 rw[hl] at h1 h4 h5
 have hn:=E8
 exact tail_any (typeIs_str s z t) slot_str_getitem.lookup (getItem_str (c:=c) (by
  have e1:decide (i < -(2 ^ 63:Int))=false:=decide_eq_false (by omega)
  have e2:decide (i ≥ 2 ^ 63)=false:=decide_eq_false (by omega)
  rw[e1,e2,Bool.or_false]) (by rw[h1];simpa using h2) ⟨.str ⟨#[c]⟩,H,I.tok _,⟨_,rfl⟩,q⟩) hs
def rIx(K:PySem.W.Frag):R2:=fun x y H Q=>rIxL K x y H Q∨rIxT K x y H Q∨rIxS x y H Q
theorem ix_seq:IxR X (rIx X.K):=ix_list.or (ix_tup.or Adp)

theorem Qm(its:List Value)(n j:Nat)(u:Value):Obj.mapSeq (·.setIfInBounds j u) { cls:=.type "list",data:=.seq its.toArray n }={ cls:=.type "list",data:=.seq (its.set j u).toArray n }:=by
 simp[Obj.mapSeq]
theorem Inv.lst{pins:List (Addr×Obj)}{σ:St}{H:Hp}{s:Shared}{p:Addr}{xs:List V}(I:Inv X pins σ H s)(h:H p=some (.lst xs)) :
  ∃(its:List Value) (n:Nat),Vals xs its∧s.heap.get? p=some { cls:=.type "list",data:=.seq its.toArray n }∧xs.length≤sizeLine:=by
 obtain⟨z,its,n,r,e⟩:=I.hok p _ h
 exact⟨its,n,r,e,z⟩
theorem Inv.lstUpd{pins:List (Addr×Obj)}{σ:St}{H:Hp}{s:Shared}{p:Addr}{xs ys:List V}{its its':List Value}{n n':Nat}{f:Obj→Obj}(I:Inv X pins σ H s)(h:H p=some (.lst xs))(ho:s.heap.get? p=some { cls:=.type "list",data:=.seq its.toArray n })(hf:f { cls:=.type "list",data:=.seq its.toArray n }={ cls:=.type "list",data:=.seq its'.toArray n' })(r:Vals ys its')(hz:ys.length≤sizeLine)(t:Nat) :
  Inv X pins σ (upd H p (.lst ys)) { s with heap:=s.heap.update p f,toks:=t }:=by
 have e:(s.heap.update p f).get? p=some { cls:=.type "list",data:=.seq its'.toArray n' }:=by
  rw[Heap.get?_update_self f ho (by rw[hf]<;>rfl),hf]
 refine I.write (x:=p) (e:=p) (by rw[h];trivial) (.inl rfl) (fun b u hb q=>(Heap.get?_update_other _ _ (Ne.symm hb)).trans q) ⟨_,e⟩ ?_
 exact⟨hz,its',n',r,e⟩
def rSetL:V→V→V→Hp→(Hp→Prop)→Prop:=fun o i v H Q=>∃p xs k j,o=.ref p∧i=.int k∧H p=some (.lst xs)∧ixN xs.length k=some j∧Q (upd H p (.lst (xs.set j v)))
theorem set_list:PSet X rSetL:=by
 intro pins s σ H o i v ov iv u Q I ro ri rv h
 obtain⟨p,xs,k,j,rfl,rfl,hp,hj,q⟩:=h
 cases ro
 obtain⟨t,rfl⟩:=ri
 obtain⟨its,n,r,ho,hz⟩:=I.lst hp
 obtain⟨h1,h2,h3,h4⟩:=Rw hj
 have hl:=r.length
 have hn:=E8
 have I':Inv X pins σ (upd H p (.lst (xs.set j v))) { s with heap:=s.heap.update p (Obj.mapSeq (·.setIfInBounds j u)) }:=
  I.lstUpd hp ho (Qm its n j u) (r.set rv j) (by rw[List.length_set];exact hz) s.toks
 by_cases h0:0≤k
 ·have hk:k.toNat=j:=by
   rw[seqIndex_of h0 h4] at h1
   exact Option.some.inj h1
  exact PySem.W.ki_setAt ho h0 (by omega) (by rw[List.size_toArray,←hl];exact h4) (by rw[hk];exact⟨_,I',q⟩)
 ·have hk:(k+(its.toArray.size:Int)).toNat=j:=by
   rw[seqIndex_neg (by omega) h3] at h1
   rw[List.size_toArray,←hl]
   exact Option.some.inj h1
  exact PySem.W.ki_setBack ho (by omega) (by rw[List.size_toArray,←hl];exact h3) (by omega) (by rw[hk];exact⟨_,I',q⟩)

theorem M1(lo hi:Option Int)(n:Nat):(sliceBounds lo hi none n).1=((HT.sIx n 0 lo:Nat):Int)∧(sliceBounds lo hi none n).2.1=((HT.sIx n n hi:Nat):Int)∧(sliceBounds lo hi none n).2.2=1:=by
 refine⟨?_,?_,rfl⟩
 ·cases lo with
  |none=>simp[sliceBounds,HT.sIx]
  |some i=>
   simp only[sliceBounds,HT.sIx,Option.getD_none,show(1:Int)>0 by decide,if_true]
   by_cases h:i<0
   ·simp only[h,if_true]<;>omega
   ·simp only[h,if_false]<;>omega
 ·cases hi with
  |none=>simp[sliceBounds,HT.sIx]
  |some i=>
   simp only[sliceBounds,HT.sIx,Option.getD_none,show(1:Int)>0 by decide,if_true]
   by_cases h:i<0
   ·simp only[h,if_true]<;>omega
   ·simp only[h,if_false]<;>omega
theorem Kl(its:List Value)(lo hi:Option Int):slicePick its.toArray lo hi none=((its.drop (HT.sIx its.length 0 lo)).take (HT.sIx its.length its.length hi-HT.sIx its.length 0 lo)).toArray:=by
 obtain⟨h1,h2,h3⟩:=M1 lo hi its.toArray.size
 unfold slicePick
 rw[h1,h2,h3]
 simp only[sliceRange_one,pick_run,List.size_toArray]<;>rfl
def rSlL(K:PySem.W.Frag):V→Option Int→Option Int→Hp→VK→Prop:=fun x lo hi H Q=>∃a xs,x=.ref a∧SqL K H a xs∧∀p,H p=none→Q (.ref p) (upd H p (.lst (Nm xs lo hi)))
theorem Y6:SlR X (rSlL X.K):=by
 intro pins s σ H x v vl vu lo hi sl Q I rx hs pl pu h
 obtain⟨a,xs,rfl,hx,q⟩:=h
 cases rx
 obtain⟨its,r,ht,hz⟩:=I.list hx
 have hlen:=r.length
 refine⟨"list",_,slot_list_getitem.lookup,ht.isList.typeIs,?_⟩
 refine wpAny_getItem_list_slice ht.isList hs pl pu .none (by simp) ?_ (by rw[List.size_toArray]<;>omega)
 rw[Kl,←hlen]
 refine⟨.ref s.heap.objs.size,_,I.laid (t':=s.toks) (o:=.lst (Nm xs lo hi)) (fun b ob q=>Heap.get?_push_of_some _ q) (Nat.le_refl _) ?_,rfl,q _ (I.hok.fresh (Nat.le_refl _))⟩
 exact⟨Nat.le_trans (Hf xs lo hi) hz,_,0,(r.drop (HT.sIx xs.length 0 lo)).take (HT.sIx xs.length xs.length hi-HT.sIx xs.length 0 lo),Heap.get?_push_size _ rfl⟩

theorem call_tuple_of:CallR X (.type "tuple") (fun xs H Q=>∃p ys,xs=[.ref p]∧((SqL X.K H p ys∧∀l,H l=none→Q (.ref l) (upd H l (.tup ys)))∨(SqT X.K H p ys∧Q (.ref p) H))):=by
 intro pins s σ H xs us Q I r h
 obtain⟨p,ys,rfl,h⟩:=h
 obtain⟨u,rfl,rx⟩:=Dg r
 cases rx
 rcases h with ⟨hq,q⟩|⟨hq,q⟩
 ·obtain⟨its,r',pl,hz⟩:=I.list hq
  have hlen:=r'.length
  refine call_tuple_list pl.isList (fun h' kp=>?_) (by simp only[List.size_toArray]<;>omega)
  have I1:Inv X pins σ H { s with heap:=h' }:=I.kept (t':=s.toks) kp
  have I2:Inv X pins σ (upd H h'.objs.size (.tup ys)) { s with heap:=h'.push { cls:=.type "tuple",data:=.seq its.toArray } }:=
   I1.laid (t':=s.toks) (fun b o e=>Heap.get?_push_of_some _ e) (Nat.le_refl _) (show ObjOk X.prog X.w _ _ _ (.tup ys) from⟨hz,its,r',IsTup.new _ _⟩)
  exact⟨.ref h'.objs.size,_,I2,rfl,q _ (I1.hok.fresh (Nat.le_refl _))⟩
 ·obtain⟨its,r',pl,hz⟩:=I.tuple hq
  exact call_tuple_same pl ⟨.ref p,H,I,rfl,q⟩

def tyV(K:PySem.W.Frag)(T:String)(x:V)(H:Hp):Prop:=match x with
 |.str _=>T = "str"
 |.int _=>T = "int"
 |.ref p=>(T = "list"∧∃xs,SqL K H p xs)∨(T = "tuple"∧∃o,K.lookup p=some o∧o.cls=.type "tuple"∧o.dict=none)∨
   (T = "dict"∧((∃kvs,H p=some (.dK kvs))∨∃kvs,H p=some (.dT kvs)))∨(T = "set"∧∃S n,H p=some (.set S n))
 |_=>False
theorem Vc{pins:List (Addr×Obj)}{σ:St}{H:Hp}{s:Shared}{T:String}{x:V}{v:Value}(I:Inv X pins σ H s)(r:RelV x v)(ty:tyV X.K T x H) :
  s.TypeIs v T∧∀a,v=.ref a→∃ob,s.heap.get? a=some ob∧ob.dict=none:=by
 cases x with
 |str z=>
  obtain⟨t,rfl⟩:=r
  cases(show T = "str" from ty)
  exact⟨typeIs_str s z t,fun _ e=>nomatch e⟩
 |int i=>
  obtain⟨t,rfl⟩:=r
  cases(show T = "int" from ty)
  exact⟨typeIs_int s i t,fun _ e=>nomatch e⟩
 |ref p=>
  cases r
  rcases ty with ⟨rfl,xs,hq⟩|⟨rfl,o,hk,hc,hd⟩|⟨rfl,hk⟩|⟨rfl,S,n,hk⟩
  ·obtain⟨its,_,pl,_⟩:=I.list hq
   refine⟨pl.isList.typeIs,fun a e=>?_⟩
   cases e
   obtain⟨o,n,e,c,hd,_⟩:=pl
   exact⟨o,e,hd⟩
  ·refine⟨⟨o,I.kIn p o hk,hc⟩,fun a e=>?_⟩
   cases e
   exact⟨o,I.kIn _ o hk,hd⟩
  ·have z:∃o,s.heap.get? p=some o∧o.ExactDict:=by
    rcases hk with ⟨kvs,hk⟩|⟨kvs,hk⟩
    ·obtain⟨_,_,_,_,o,_,_,e,ex,_⟩:=I.hok p _ hk
     exact⟨o,e,ex⟩
    ·obtain⟨_,_,_,_,o,_,_,e,ex,_⟩:=I.hok p _ hk
     exact⟨o,e,ex⟩
   obtain⟨o,e,ex⟩:=z
   refine⟨⟨o,e,ex.1⟩,fun a e2=>?_⟩
   cases e2
   exact⟨o,e,ex.2.1⟩
  ·obtain⟨o,_,_,_,e,ex,_⟩:=I.hok p _ hk
   refine⟨⟨o,e,ex.1⟩,fun a e2=>?_⟩
   cases e2
   exact⟨o,e,ex.2.1⟩
 |_=>exact False.elim ty
def tBM0(K:PySem.W.Frag)(T:String)(r:V→List V→Hp→VK→Prop)(to:TE):TE:=fun σ H Q=>to σ H fun x H1=>tyV K T x H1∧r x [] H1 Q
def tBM(K:PySem.W.Frag)(T:String)(r:V→List V→Hp→VK→Prop)(to:TE)(t:TA):TE:=fun σ H Q=>to σ H fun x H1=>tyV K T x H1∧t σ H1 fun xs H2=>r x xs H2 Q
variable{o e:Expr}{es:List Expr}{to:TE}{t:TA}{name:Str}{apos cpos:Pos}{T id:String}{r:V→List V→Hp→VK→Prop}
theorem Acy(pa:PlainAttrs T)(slot:Slot T name id)(hty:typeOf (.builtin id)=pure (.type "method_descriptor"))(hm:MtR X id r)(ho:PE X o to)(hbase:attributeBase o name X.env (eval o X.env)=eval o X.env:=by rfl)(hline:(apos.endLine == cpos.line)=true:=by rfl):PE X (.Call (.Attribute o name apos) [] [] cpos) (tBM0 X.K T r to):=by
 intro pins s σ H Q I h
 refine wpAny_Call_method0_late hbase hline (thn (ho pins s σ H _ I h) fun v s1 ⟨x,H1,I1,r1,ty,q1⟩=>?_)
 obtain⟨h1,h2⟩:=Vc I1 r1 ty
 exact⟨T,id,pa,slot,hty,h1,h2,Calls.callWith_builtin rfl (PySem.evalArgs_none (hm pins s1 σ H1 x [] v [] Q I1 r1 .nil q1))⟩
theorem pe_bm(pa:PlainAttrs T)(slot:Slot T name id)(hty:typeOf (.builtin id)=pure (.type "method_descriptor"))(hm:MtR X id r)(ho:PE X o to)(ha:PA X (e::es) t)(hbase:attributeBase o name X.env (eval o X.env)=eval o X.env:=by rfl)(hfew:((backTo cpos (starEach (e::es) X.env)).all (fun x=>!x.1)&&(backToKw cpos (keywordEach [] X.env)).all (fun x=>x.1.isSome)
   && decide ((e::es).length+([]:List Keyword).length+(if ([]:List Keyword).isEmpty then 0 else 1)<30))=true:=by rfl)(hline:(apos.endLine == cpos.line)=true:=by rfl)(hs:starEach (e::es) X.env=(false,eval e X.env)::starEach es X.env:=by rfl)(hplain:(backTo cpos (starEach es X.env)).any (·.1)=false:=by rfl) :
  PE X (.Call (.Attribute o name apos) (e::es) [] cpos) (tBM X.K T r to t):=by
 intro pins s σ H Q I h
 refine wpAny_Call_method_late hbase hfew hline rfl (thn (ho pins s σ H _ I h) fun v s1 ⟨x,H1,I1,r1,ty,q1⟩=>?_)
 obtain⟨h1,h2⟩:=Vc I1 r1 ty
 refine⟨T,id,pa,slot,hty,h1,h2,?_⟩
 have hA:=ha cpos pins s1 σ H1 _ I1 q1
 rw[hs] at hA ⊢
 refine Calls.callWith_builtin (by show(false||(backTo cpos (starEach es X.env)).any (·.1))=false;rw[hplain]<;>rfl) (Calls.evalArgs_plain ?_)
 exact thn hA fun us s2 ⟨vs,H2,I2,r2,q2⟩=>hm pins s2 σ H2 x vs v us Q I2 r1 r2 q2
end
end L2
namespace L2
open PySem PySem.Spec PyProof.Rows
def MtM(X:Cx)(id:String)(r:V→List V→Hp→VK→Prop):Prop:=
 ∀(pins:List (Addr×Obj)) (s:Shared) (σ:St) (H:Hp) (x:V) (xs:List V) (v:Value) (us:List Value) (Q:VK),Inv X pins σ H s→RelV x v→Vals xs us→r x xs H Q→
  wpAny (model X.prog X.w) X.A (call (.builtin id) (v::us)) (EP X pins σ Q) X.xe s

theorem Vals.one:∀{x:V} {us:List Value},Vals [x] us→∃u,us=[u]∧RelV x u
 |_,_,.cons r .nil=>⟨_,rfl,r⟩
theorem Vals.zero:∀{us:List Value},Vals [] us→us=[]
 |_,.nil=>rfl
theorem Vals.dropLast{xs:List V}{us:List Value}(h:Vals xs us):Vals xs.dropLast us.dropLast:=by
 induction h with
 |nil=>exact .nil
 |cons r t ih=>
  cases t with
  |nil=>exact .nil
  |cons q t'=>exact .cons r ih
theorem Vals.reverse{xs:List V}{us:List Value}(h:Vals xs us):Vals xs.reverse us.reverse:=by
 induction h with
 |nil=>exact .nil
 |cons r t ih=>rw[List.reverse_cons,List.reverse_cons];exact Vals.append ih (.cons r .nil)
theorem Qs{α:Type}(l:List α):l.eraseIdx (l.length-1)=l.dropLast:=by
 induction l with
 |nil=>rfl
 |cons a r ih=>
  cases r with
  |nil=>rfl
  |cons b r=>
   have e:(a::b::r).length-1=((b::r).length-1)+1:=by
    have h1:(a::b::r).length=r.length+2:=rfl
    have h2:(b::r).length=r.length+1:=rfl
    omega
   rw[e,List.eraseIdx_cons_succ,ih]
   all_goals rfl
section
variable{X:Cx}{pins:List (Addr×Obj)}{σ:St}{H:Hp}{s:Shared}{l b:Addr}{xs ys zs:List V}
theorem Inv.lset{its its':List Value}{n:Nat}{f:Array Value→Array Value}{t':Nat}(I:Inv X pins σ H s)(hH:H l=some (.lst xs))(e:s.heap.get? l=some { cls:=.type "list",data:=.seq its.toArray n })(hf:f its.toArray=its'.toArray)(hv:Vals ys its')(hz:ys.length≤sizeLine) :
  Inv X pins σ (upd H l (.lst ys)) { s with heap:=s.heap.update l (Obj.mapSeq f),toks:=t' }:=by
 have q:=PySem.IsL.update e f
 rw[hf] at q
 refine I.write (x:=l) (e:=l) (by rw[hH];exact trivial) (.inl rfl) (fun b' u hb hu=>(Heap.get?_update_other s.heap (Obj.mapSeq f) (Ne.symm hb)).trans hu) ⟨_,q⟩ ?_
 exact⟨hz,its',_,hv,q⟩
theorem Inv.lnew{its:List Value}{t':Nat}(I:Inv X pins σ H s)(hv:Vals ys its)(hz:ys.length≤sizeLine) :
  Inv X pins σ (upd H s.heap.objs.size (.lst ys)) { s with heap:=s.heap.push { cls:=.type "list",data:=.seq its.toArray },toks:=t' }:=
 I.laid (fun _ _ q=>Heap.get?_push_of_some _ q) (Nat.le_refl _) ⟨hz,its,0,hv,Heap.get?_push_size _ rfl⟩
theorem Inv.fresh(I:Inv X pins σ H s):H s.heap.objs.size=none:=I.hok.fresh (Nat.le_refl _)
theorem Inv.lstM(I:Inv X pins σ H s)(hH:H l=some (.lst xs)):xs.length≤sizeLine∧∃(its:List Value) (n:Nat),Vals xs its∧xs.length=its.length∧s.heap.get? l=some { cls:=.type "list",data:=.seq its.toArray n }:=by
 obtain⟨z,its,n,r,e⟩:=I.hok l _ hH
 exact⟨z,its,n,r,r.length,e⟩

theorem Xj{n:Nat}(h:n≤sizeLine):Builtin.List.listTooLong n=false:=by
 unfold Builtin.List.listTooLong
 exact decide_eq_false (by omega)
end
section
variable{X:Cx}
def Zh:V→List V→Hp→VK→Prop:=fun x vs H Q=>∃l xs y,x=.ref l∧vs=[y]∧H l=some (.lst xs)∧xs.length<sizeLine∧Q .non (upd H l (.lst (xs++[y])))
theorem Gn:MtM X "list.append" Zh:=by
 intro pins s σ H x vs v us Q I rx rv h
 obtain⟨l,xs,y,rfl,rfl,hH,hz,q⟩:=h
 cases rx
 obtain⟨u,rfl,ru⟩:=rv.one
 obtain⟨z,its,n,r,hl,e⟩:=I.lstM hH
 refine call_meets F.slot_list_append ⟨_,e,rfl⟩ F.entry_list_append (F.args_list_append_2 _ _) (PySem.list_append l its.toArray n u (by rw[List.size_toArray];omega)) ⟨e,?_⟩
 refine⟨.non,_,I.lset (its':=its++[u]) hH e (by simp) (r.append (.cons ru .nil)) ?_,rfl,q⟩
 rw[List.length_append,List.length_singleton]
 omega

def Zg:V→List V→Hp→VK→Prop:=fun x vs H Q=>∃l b xs zs,x=.ref l∧vs=[.ref b]∧H l=some (.lst xs)∧H b=some (.lst zs)∧xs.length+zs.length≤sizeLine∧Q .non (upd H l (.lst (xs++zs)))
theorem Ad8:MtM X "list.extend" Zg:=by
 intro pins s σ H x vs v us Q I rx rv h
 obtain⟨l,b,xs,zs,rfl,rfl,hH,hB,hz,q⟩:=h
 cases rx
 obtain⟨u,rfl,ru⟩:=rv.one
 cases ru
 obtain⟨z,its,n,r,hl,e⟩:=I.lstM hH
 obtain⟨z2,its2,n2,r2,hl2,e2⟩:=I.lstM hB
 have hsz:its.toArray.size+its2.toArray.size≤sizeLine:=by rw[List.size_toArray,List.size_toArray];omega
 have hlong:¬(!its.toArray.isEmpty&&Builtin.List.listTooLong (its.toArray.size+its2.toArray.size))=true:=by
  rw[Xj hsz,Bool.and_false]
  exact Bool.false_ne_true
 refine call_meets F.slot_list_extend ⟨_,e,rfl⟩ F.entry_list_extend (F.args_list_extend_2 _ _)
  (AutoSeq1.list_extend_list_list_0 l its.toArray n b its2.toArray n2 hlong (by rw[List.size_toArray];omega) (by omega)) ⟨e,e2,?_⟩
 refine⟨.non,_,I.lset (its':=its++its2) hH e (by simp) (r.append r2) ?_,rfl,q⟩
 rw[List.length_append]
 omega

def rPop:V→List V→Hp→VK→Prop:=fun x vs H Q=>∃l xs y,x=.ref l∧vs=[]∧H l=some (.lst xs)∧xs[xs.length-1]? = some y∧Q y (upd H l (.lst xs.dropLast))
theorem mt_pop:MtM X "list.pop" rPop:=by
 intro pins s σ H x vs v us Q I rx rv h
 obtain⟨l,xs,y,rfl,rfl,hH,hy,q⟩:=h
 cases rx
 have hus:=rv.zero
 subst hus
 obtain⟨z,its,n,r,hl,e⟩:=I.lstM hH
 obtain⟨u,hu,ru⟩:=r.get hy
 have hy':its.toArray[its.toArray.size-1]? = some u:=by
  show its.toArray[its.length-1]? = some u
  rw[←Array.getElem?_toList,←hl]
  exact hu
 refine call_meets F.slot_list_pop ⟨_,e,rfl⟩ F.entry_list_pop (F.args_list_pop_1 _) (MeetsSeq.list_pop_last l its.toArray n u hy' (by rw[List.size_toArray];omega)) ⟨e,?_⟩
 refine⟨y,_,I.lset (its':=its.dropLast) hH e ?_ r.dropLast ?_,ru,q⟩
 ·show its.toArray.eraseIdxIfInBounds (its.toArray.size-1)=its.dropLast.toArray
  rw[List.size_toArray,List.eraseIdxIfInBounds_toArray,Qs]
 ·rw[List.length_dropLast]
  omega

def Wo:V→List V→Hp→VK→Prop:=fun x vs H Q=>∃l xs,x=.ref l∧vs=[]∧H l=some (.lst xs)∧Q .non (upd H l (.lst xs.reverse))
theorem Ql:MtM X "list.reverse" Wo:=by
 intro pins s σ H x vs v us Q I rx rv h
 obtain⟨l,xs,rfl,rfl,hH,q⟩:=h
 cases rx
 have hus:=rv.zero
 subst hus
 obtain⟨z,its,n,r,hl,e⟩:=I.lstM hH
 refine call_meets F.slot_list_reverse ⟨_,e,rfl⟩ F.entry_list_reverse (F.args_list_reverse_1 _) (AutoSeq1.list_reverse_list_0 l its.toArray n (by rw[List.size_toArray];omega)) ⟨e,?_⟩
 refine⟨.non,_,I.lset (its':=its.reverse) hH e (by simp) r.reverse ?_,rfl,q⟩
 rw[List.length_reverse]
 omega

def rCat:R2:=fun x y H Q=>∃l b xs zs,x=.ref l∧y=.ref b∧H l=some (.lst xs)∧H b=some (.lst zs)∧xs.length+zs.length≤sizeLine∧∀p,H p=none→Q (.ref p) (upd H p (.lst (xs++zs)))
theorem Ac4:OpR X (binaryOp .Add) rCat:=by
 intro pins s σ H x y v u Q I rx ry h
 obtain⟨l,b,xs,zs,rfl,rfl,hH,hB,hz,q⟩:=h
 cases rx
 cases ry
 obtain⟨z,its,n,r,hl,e⟩:=I.lstM hH
 obtain⟨z2,its2,n2,r2,hl2,e2⟩:=I.lstM hB
 refine PySem.P.add_list e e2 ?_ (by rw[List.size_toArray,List.size_toArray];omega)
 have ea:its.toArray++its2.toArray=(its++its2).toArray:=by simp
 rw[ea]
 exact⟨.ref _,_,I.lnew (t':=s.toks) (r.append r2) (by rw[List.length_append];omega),rfl,q _ I.fresh⟩
end
section
variable{prog:Program}{w:World}{A:Around}{E:Value→Shared→Prop}{s:Shared}
end
section
variable{X:Cx}
end
end L2
namespace L2
open PySem PySem.Spec PyProof.Rows
section
variable{κ:Type}[DecidableEq κ]
def Dp(kvs:List (κ×V))(k:κ):Option V:=(kvs.find? fun kv=>decide (kv.1=k)).map (·.2)
def D2(kvs:List (κ×V))(k:κ)(v:V):List (κ×V):=
 if (kvs.any fun kv=>decide (kv.1=k))=true then kvs.map (fun kv=>if kv.1=k then (kv.1,v) else kv) else kvs++[(k,v)]
theorem Io{p:κ×V}{r:List (κ×V)}{k:κ}(e:p.1=k):Dp (p::r) k=some p.2:=by simp[Dp,List.find?_cons,e]
theorem Ip{p:κ×V}{r:List (κ×V)}{k:κ}(e:¬p.1=k):Dp (p::r) k=Dp r k:=by simp[Dp,List.find?_cons,e]
theorem N3(k:κ):∀kvs:List (κ×V),(kvs.any fun kv=>decide (kv.1=k))=(Dp kvs k).isSome
 |[]=>rfl
 |p::r=>by
  rw[List.any_cons]
  by_cases e:p.1=k
  ·simp only[Io e,decide_eq_true e,Bool.true_or,Option.isSome_some]
  ·rw[Ip e,decide_eq_false e,Bool.false_or];exact N3 k r
theorem Em(kvs:List (κ×V))(k:κ)(v:V):(D2 kvs k v).length≤kvs.length+1:=by
 unfold D2
 split
 ·rw[List.length_map];omega
 ·rw[List.length_append,List.length_cons,List.length_nil];omega
theorem RelO.isSome_eq{o:Option V}{u:Option Value}(r:RelO o u):o.isSome=u.isSome:=by
 cases o with
 |none=>cases u with
  |none=>rfl
  |some _=>exact(show False from r).elim
 |some _=>cases u with
  |none=>exact(show False from r).elim
  |some _=>rfl
theorem KV.val{kvs:List (κ×V)}{vs:List (κ×Value)}(r:KV kvs vs)(k:κ):RelO (Dp kvs k) (valueAt vs k):=by
 unfold KV at r
 induction r with
 |nil=>exact True.intro
 |@cons p q ps qs h t ih=>
  obtain⟨h1,h2⟩:=h
  by_cases e:p.1=k
  ·have e':q.1=k:=h1.symm.trans e
   have b:valueAt (q::qs) k=some q.2:=by simp[valueAt,List.find?_cons,e']
   rw[Io e,b];exact h2
  ·have e':¬q.1=k:=fun z=>e (h1.trans z)
   have b:valueAt (q::qs) k=valueAt qs k:=by simp[valueAt,List.find?_cons,e']
   rw[Ip e,b];exact ih
theorem KV.any{kvs:List (κ×V)}{vs:List (κ×Value)}(r:KV kvs vs)(k:κ):(kvs.any fun kv=>decide (kv.1=k))=vs.any fun kv=>decide (kv.1=k):=by
 unfold KV at r
 induction r with
 |nil=>rfl
 |cons h t ih=>rw[List.any_cons,List.any_cons,ih,h.1]
theorem KV.repl{kvs:List (κ×V)}{vs:List (κ×Value)}(r:KV kvs vs)(k:κ){y:V}{u:Value}(ry:RelV y u) :
  KV (kvs.map fun kv=>if kv.1=k then (kv.1,y) else kv) (vs.map fun kv=>if kv.1=k then (kv.1,u) else kv):=by
 unfold KV at r ⊢
 induction r with
 |nil=>exact .nil
 |@cons p q ps qs h t ih=>
  rw[List.map_cons,List.map_cons]
  refine .cons ?_ ih
  obtain⟨h1,h2⟩:=h
  by_cases e:p.1=k
  ·rw[if_pos e,if_pos (h1.symm.trans e)];exact⟨h1,ry⟩
  ·rw[if_neg e,if_neg (fun z=>e (h1.trans z))];exact⟨h1,h2⟩
theorem KV.put{kvs:List (κ×V)}{vs:List (κ×Value)}(r:KV kvs vs)(k:κ){y:V}{u:Value}(ry:RelV y u):KV (D2 kvs k y) (stored vs k u):=by
 unfold D2 stored
 rw[r.any k]
 by_cases e:(vs.any fun kv=>decide (kv.1=k))=true
 ·rw[if_pos e,if_pos e];exact r.repl k ry
 ·rw[if_neg e,if_neg e];exact Paired.snoc r ⟨rfl,ry⟩
theorem KV.length{kvs:List (κ×V)}{vs:List (κ×Value)}(r:KV kvs vs):kvs.length=vs.length:=Paired.length r
end
theorem Nx{P:Program}{w:World}{k:Key}{u:Value}(r:RelV (kV k) u):(A4 P w).is k u=true:=by
 cases k with
 |inl i=>obtain⟨t,e⟩:=(show ∃t,u=Value.int i t from r);subst e;exact Pf P w i t
 |inr x=>obtain⟨t,e⟩:=(show ∃t,u=Value.str x t from r);subst e;exact Pe P w x t
theorem Ln{P:Program}{w:World}:∀{ks:List Key} {us:List Value},Vals (ks.map kV) us→ItemsAre (A4 P w) ks us
 |[],_,r=>by rw[List.map_nil] at r;cases r;exact .nil
 |k::ks,_,r=>by
  rw[List.map_cons] at r
  cases r with
  |cons h t=>exact .cons (Nx h) (Ln t)

abbrev KT(H:Hp):List (List Key×V)→List (List Key×Addr×Value)→Prop:=Paired fun p q=>p.1=q.1∧H q.2.1=some (.tup (p.1.map kV))∧RelV p.2 q.2.2
theorem KT.val{H:Hp}{kvs:List (List Key×V)}{xs:List (List Key×Addr×Value)}(r:KT H kvs xs)(k:List Key):RelO (Dp kvs k) ((atKey xs k).map (·.2)):=by
 induction r with
 |nil=>exact True.intro
 |@cons p q ps qs h t ih=>
  obtain⟨h1,_,h2⟩:=h
  by_cases e:p.1=k
  ·have e':q.1=k:=h1.symm.trans e
   have b:atKey (q::qs) k=some q.2:=by simp[atKey,List.find?_cons,e']
   rw[Io e,b];exact h2
  ·have e':¬q.1=k:=fun z=>e (h1.trans z)
   have b:atKey (q::qs) k=atKey qs k:=by simp[atKey,List.find?_cons,e']
   rw[Ip e,b];exact ih
theorem KT.repl{H:Hp}{kvs:List (List Key×V)}{xs:List (List Key×Addr×Value)}(r:KT H kvs xs)(k:List Key){y:V}{u:Value}(ry:RelV y u) :
  KT H (kvs.map fun kv=>if kv.1=k then (kv.1,y) else kv) (xs.map (putAt k u)):=by
 induction r with
 |nil=>exact .nil
 |@cons p q ps qs h t ih=>
  rw[List.map_cons,List.map_cons]
  refine .cons ?_ ih
  obtain⟨h1,h2,h3⟩:=h
  unfold putAt
  by_cases e:p.1=k
  ·rw[if_pos e,if_pos (h1.symm.trans e)];exact⟨h1,h2,ry⟩
  ·rw[if_neg e,if_neg (fun z=>e (h1.trans z))];exact⟨h1,h2,h3⟩
theorem KT.put{H:Hp}{kvs:List (List Key×V)}{xs:List (List Key×Addr×Value)}(r:KT H kvs xs)(k:List Key){b:Addr}{y:V}{u:Value}(hb:H b=some (.tup (k.map kV)))(ry:RelV y u) :
  KT H (D2 kvs k y) (storedH xs k b u):=by
 have e:(kvs.any fun kv=>decide (kv.1=k))=(atKey xs k).isSome:=by
  rw[N3,(r.val k).isSome_eq,Option.isSome_map]
 unfold D2 storedH
 rw[e]
 by_cases q:(atKey xs k).isSome=true
 ·rw[if_pos q,if_pos q];exact r.repl k ry
 ·rw[if_neg q,if_neg q];exact Paired.snoc r ⟨rfl,hb,ry⟩
theorem KT.keeps{H H':Hp}{kvs:List (List Key×V)}{xs:List (List Key×Addr×Value)}(r:KT H kvs xs)(ht:∀b ys,H b=some (.tup ys)→H' b=some (.tup ys)):KT H' kvs xs:=
 Paired.mapP r fun _ _ z=>⟨z.1,ht _ _ z.2.1,z.2.2⟩

section
variable{P:Program}{w:World}{H:Hp}{h:Heap}{a:Addr}
theorem Aa9{u:HO}(ok:HOk P w H h)(e:Rd H a u):ObjOk P w H h a u:=e.ok ok
theorem Abl{kvs:List (Key×V)}(ok:HOk P w H h)(e:Rd H a (.dK kvs)):kvs.length≤sizeLine∧(a == sysModules)=false∧∃vs,KV kvs vs∧h.DictOf (A4 P w) a vs:=
 show ObjOk P w H h a (.dK kvs) from Aa9 ok e
theorem Hb{kvs:List (Key×V)}(ok:HOk P w H h)(e:H a=some (.dK kvs)):kvs.length≤sizeLine∧(a == sysModules)=false∧∃vs,KV kvs vs∧h.DictOf (A4 P w) a vs:=Abl ok (.inl e)
theorem Vv{ks:List Key}(ok:HOk P w H h)(e:H a=some (.tup (ks.map kV))):(tupleKind (A4 P w)).is h ks a:=by
 obtain⟨_,its,r,o,h1,h2,n,h3⟩:=(show ObjOk P w H h a (.tup (ks.map kV)) from ok a _ e)
 exact⟨o,its.toArray,n,h1,h2,h3,by simpa using Ln r⟩
theorem Abk{kvs:List (List Key×V)}(ok:HOk P w H h)(e:Rd H a (.dT kvs)):kvs.length≤sizeLine∧(a == sysModules)=false∧
  ∃xs,KT H kvs xs∧h.DictOfH (tupleKind (A4 P w)) a xs:=by
 obtain⟨z,y,xs,r,o,es,ep,h1,h2,h3,h4,h5⟩:=(show ObjOk P w H h a (.dT kvs) from Aa9 ok e)
 refine⟨z,y,xs,r,o,es,ep,h1,h2,h3,h4,fun x hx=>?_,h5⟩
 have all:∀{l:List (List Key×V)} {m:List (List Key×Addr×Value)},KT H l m→∀x∈m,(tupleKind (A4 P w)).is h x.1 x.2.1:=by
  intro l m q
  induction q with
  |nil=>intro x hx;exact nomatch hx
  |@cons p q ps qs hq t ih=>
   intro x hx
   rcases List.mem_cons.mp hx with e|hx
   ·subst e
    exact Vv ok (by rw[←hq.1];exact hq.2.1)
   ·exact ih x hx
 exact all r x hx
theorem dt_of{kvs:List (List Key×V)}(ok:HOk P w H h)(e:H a=some (.dT kvs)):kvs.length≤sizeLine∧(a == sysModules)=false∧
  ∃xs,KT H kvs xs∧h.DictOfH (tupleKind (A4 P w)) a xs:=Abk ok (.inl e)
end
def DGet(H:Hp)(a:Addr)(y:V)(r:Option V):Prop:=
 (∃kvs k,Rd H a (.dK kvs)∧y=kV k∧r=Dp kvs k)∨∃kvs k b,Rd H a (.dT kvs)∧y=.ref b∧H b=some (.tup (k.map kV))∧r=Dp kvs k
def DPut(H:Hp)(a:Addr)(y v:V)(H':Hp):Prop:=
 (∃kvs k,H a=some (.dK kvs)∧y=kV k∧kvs.length<sizeLine∧H'=upd H a (.dK (D2 kvs k v)))∨
 ∃kvs k b,H a=some (.dT kvs)∧y=.ref b∧H b=some (.tup (k.map kV))∧kvs.length<sizeLine∧H'=upd H a (.dT (D2 kvs k v))
theorem DGet.k{H:Hp}{a:Addr}{kvs:List (Key×V)}{k:Key}(e:H a=some (.dK kvs)):DGet H a (kV k) (Dp kvs k):=.inl ⟨kvs,k,.inl e,rfl,rfl⟩
theorem DGet.t{H:Hp}{a b:Addr}{kvs:List (List Key×V)}{k:List Key}(e:H a=some (.dT kvs))(eb:H b=some (.tup (k.map kV))):DGet H a (.ref b) (Dp kvs k):=.inr ⟨kvs,k,b,.inl e,rfl,eb,rfl⟩
theorem DPut.k{H:Hp}{a:Addr}{kvs:List (Key×V)}{k:Key}{v:V}(e:H a=some (.dK kvs))(hl:kvs.length<sizeLine):DPut H a (kV k) v (upd H a (.dK (D2 kvs k v))):=.inl ⟨kvs,k,e,rfl,hl,rfl⟩
theorem DPut.t{H:Hp}{a b:Addr}{kvs:List (List Key×V)}{k:List Key}{v:V}(e:H a=some (.dT kvs))(eb:H b=some (.tup (k.map kV)))(hl:kvs.length<sizeLine) :
  DPut H a (.ref b) v (upd H a (.dT (D2 kvs k v))):=.inr ⟨kvs,k,b,e,rfl,eb,hl,rfl⟩


section
variable{X:Cx}{pins:List (Addr×Obj)}{σ:St}{H:Hp}{s:Shared}{a:Addr}{y v:V}{u r:Value}{o:Option V}{A:Around}{E:Value→Shared→Prop}
theorem Inv.big(I:Inv X pins σ H s):sysModules<s.heap.objs.size:=by
 have h:mainGlobals<s.heap.objs.size:=(I.mod.glob.keeps I.bk).lt
 exact Nat.lt_trans (by decide) h

theorem Mr{h':Heap}{t':Nat}{ob:HO}(I:Inv X pins σ H s)(mu:Mut (H a))(hs:Heap.SameBut a s.heap h')(he:∃q,h'.get? a=some q)(new:ObjOk X.prog X.w (upd H a ob) h' a ob) :
  Inv X pins σ (upd H a ob) { s with heap:=h',toks:=t' }:=
 I.write (x:=a) (e:=a) mu (.inl rfl) (fun b q hb z=>(hs.2 b hb).trans z) he new
theorem V1{P:Program}{w:World}{H':Hp}{h':Heap}{kvs:List (Key×V)}{vs:List (Key×Value)}(z:kvs.length≤sizeLine)(hd:(a == sysModules)=false)(rel:KV kvs vs)(dd:h'.DictOf (A4 P w) a vs) :
  ObjOk P w H' h' a (.dK kvs):=⟨z,hd,vs,rel,dd⟩
theorem Tw{H':Hp}{Q:Unit→Shared→Prop}(hu:A.units+1<cLine)(I:Inv X pins σ H s)(g:DPut H a y v H')(ry:RelV y u)(rv:RelV v r)(h:∀s',Inv X pins σ H' s'→Q () s') :
  wpAny (model X.prog X.w) A (setItem (.ref a) u r) Q E s:=by
 rcases g with ⟨kvs,k,e,ey,l,eH⟩|⟨kvs,k,b,e,ey,eb,l,eH⟩
 ·subst ey eH
  obtain⟨z,hd,vs,rel,dd⟩:=Hb I.hok e
  have hz:vs.length≤sizeLine:=by rw[←rel.length];exact z
  have hl:(D2 kvs k v).length≤sizeLine:=by have:=Em kvs k v;omega
  refine wpAny_setItem_pairs (hsz:=hz) (Nx ry) dd fun h' dd' hs=>h _ ?_
  have he:∃q,h'.get? a=some q:=let ⟨q,_,_,hq,_⟩:=dd';⟨q,hq⟩
  exact Mr I (by rw[e];exact True.intro) hs he (V1 hl hd (rel.put k rv) dd')
 ·subst ey eH
  cases(show u=Value.ref b from ry)
  obtain⟨z,hd,xs,rel,dd⟩:=dt_of I.hok e
  have hz:xs.length≤sizeLine:=by rw[←Paired.length rel];exact z
  have hl:(D2 kvs k v).length≤sizeLine:=by have:=Em kvs k v;omega
  refine wpAny_setItem_heap (hsz:=hz) (tupleKind_room_in1 hu) (Vv I.hok eb) dd fun h' dd' hs=>h _ ?_
  obtain⟨q,es,ep,hq,h2,h3,h4,_,h5⟩:=dd'
  refine Mr I (by rw[e];exact True.intro) hs ⟨q,hq⟩ ⟨hl,hd,_,(rel.put k eb rv).keeps fun c ys ec=>?_,q,es,ep,hq,h2,h3,h4,h5⟩
  rw[Am (Ha ec e (fun z=>nomatch z))]
  exact ec
end
section
variable{X:Cx}{pins:List (Addr×Obj)}{σ:St}{H:Hp}{s:Shared}{a:Addr}{kvs:List (Key×V)}{k:Key}{u:Value}{A:Around}{E:Value→Shared→Prop}
end
def NoSl(i:Expr):Prop:=∀ov iv,subscripted i false ov iv=operate [ov,iv] (getItem ov iv)
theorem Y4{prog:Program}{w:World}{A:Around}{E:Value→Shared→Prop}{s:Shared}{env:Env}{value slice:Expr}{pos:Pos}{T id:String}{Q:Value→Shared→Prop}(hl:typeLookup (.type T) "__getitem__" = pure (some (.builtin id)))(hs:NoSl slice)(h:wpAny (model prog w) A (eval value env) (fun o s₁=>wpAny (model prog w) A (eval slice env) (fun i s₂=>s₂.TypeIs o T∧wpAny (model prog w) A (getItem o i) Q E s₂) E s₁) E s) :
  wpAny (model prog w) A (eval (.Subscript value slice pos) env) Q E s:=by
 refine Subscript_ (wpAny_mono h (fun o s₁ h₁=>wpAny_mono h₁ (fun i s₂ h₂=>?_) fun _ _ x=>x) fun _ _ x=>x)
 obtain⟨hT,h₂⟩:=h₂
 unfold subscriptTail
 refine wpAny_bind ?_
 rw[getitemInPython_of_ne hT.not_modules]
 refine wpAny_bind (wpAny_specialOf hT hl ?_)
 have fin:wpAny (model prog w) A (subscripted slice false o i) (fun r s₃=>wpAny (model prog w) A (letTemporaryGo value o r >>= fun _=>pure r) Q E s₃) E s₂:=by
  rw[hs o i]
  exact wpAny_operating (wpAny_mono h₂ (fun r s₃ h₃=>wpAny_bind (wpAny_letTemporaryGo (wpAny_pure h₃))) fun _ _ x=>x)
 first
  |exact wpAny_pure (wpAny_bind fin)
  |exact wpAny_bind (wpAny_pure (wpAny_bind fin))
  |exact wpAny_bind fin

section
variable{X:Cx}{o i e value:Expr}{pos pos' tpos:Pos}{td ty tv:TE}
end
theorem O0{P:Program}{w:World}{H:Hp}(h:Heap)(hb:sysModules<h.objs.size):ObjOk P w H (h.push { cls:=.type "dict",data:=.dict #[] }) h.objs.size (.dK []):=
 ⟨Nat.zero_le _,beq_eq_false_iff_ne.mpr (Ne.symm (Nat.ne_of_lt hb)),[],.nil,Heap.DictOf.new h⟩
def Abz:TE:=fun _ H Q=>∀p,H p=none→Q (.ref p) (upd H p (.dK []))
section
variable{X:Cx}{pos:Pos}
theorem pe_dnewK:PE X (.Dict [] [] pos) Abz:=fun pins s σ H Q I h=>
 wpAny_Dict_empty ⟨.ref s.heap.objs.size,_,I.laid (a:=s.heap.objs.size) (o:=.dK []) (t':=s.toks) (fun _ _ q=>Heap.get?_push_of_some _ q) (Nat.le_refl _) (O0 s.heap I.big),rfl,h _ (I.hok.fresh (Nat.le_refl _))⟩
end
def IsD(H:Hp)(a:Addr):Prop:=(∃kvs,Rd H a (.dK kvs))∨∃kvs,Rd H a (.dT kvs)
theorem Vy{X:Cx}{pins:List (Addr×Obj)}{σ:St}{H:Hp}{s:Shared}{a:Addr}(I:Inv X pins σ H s)(d:IsD H a) :
  s.TypeIs (.ref a) "dict"∧(∀b,Value.ref a=.ref b→∃ob,s.heap.get? b=some ob∧ob.dict=none)∧(a == sysModules)=false:=by
 rcases d with ⟨kvs,e⟩|⟨kvs,e⟩
 ·obtain⟨_,hd,vs,_,dd⟩:=Abl I.hok e
  refine⟨dd.typeIs,fun b q=>?_,hd⟩
  cases q
  obtain⟨ob,_,_,h1,h2,_⟩:=dd
  exact⟨ob,h1,h2.2.1⟩
 ·obtain⟨_,hd,xs,_,dd⟩:=Abk I.hok e
  refine⟨dd.typeIs,fun b q=>?_,hd⟩
  cases q
  obtain⟨ob,_,_,h1,h2,_⟩:=dd
  exact⟨ob,h1,h2.2.1⟩

section
variable{X:Cx}{pins:List (Addr×Obj)}{σ:St}{H:Hp}{s:Shared}{a:Addr}{y d:V}{u r:Value}{o:Option V}{A:Around}{E:Value→Shared→Prop}
end
section
variable{X:Cx}{o e f:Expr}{apos cpos:Pos}{td ty tx:TE}
end
section
variable{X:Cx}{pins:List (Addr×Obj)}{σ:St}{H:Hp}{s:Shared}{a:Addr}{kvs:List (Key×V)}{A:Around}{E:Value→Shared→Prop}
end
section
variable{X:Cx}{pins:List (Addr×Obj)}{σ:St}{H:Hp}{s:Shared}{a:Addr}{y:V}{u:Value}{A:Around}{E:Value→Shared→Prop}
end
end L2
namespace Att
open PySem PySem.W PySem.Calls PyProof.Rows
theorem Hk{P:Params}{h:Heap}:∀(ns:List Int) (vs:List Value),WellAll P h vs (ns.map WData.int)→IntsAre vs ns:=by
 intro ns
 induction ns with
 |nil=>
  intro vs w
  rw[List.map_nil] at w
  cases w
  exact .nil
 |cons n ns ih=>
  intro vs w
  rw[List.map_cons] at w
  cases w with
  |cons a b=>
   cases a
   exact .cons _ _ (ih _ b)

theorem Sy{l:OpenLaw}{n:Nat}(hn:l.most=some n){P:Params}{h:Heap}{args:List WData}{vals:List Value}(hpre:l.row.toRowW.claim.pre args=true)(hwl:WellAll P h vals args) :
  ∃a vs ns,vals=[Value.ref a]∧args=[WData.list (ns.map WData.int)]∧h.get? a=some { cls:=.type "list",data:=.seq vs.toArray }∧IntsAre vs ns∧ns.length≤n:=by
 have hsh:WShape.hasAll [] args [.list .int]=true:=(pre_splitW hpre).1
 have hc:l.pre.holds [] { args:=args }=true:=(pre_splitW hpre).2
 obtain⟨d,r,rfl,h1,h2⟩:=hasAllW_cons hsh
 obtain rfl:=hasAllW_nil h2
 obtain⟨xs,rfl,h3⟩:=hasW_list h1
 obtain⟨ns,rfl⟩:=items_int h3
 have hlen:ns.length≤n:=by
  unfold OpenLaw.pre at hc
  have h4:(WTm.not (.lt (.lit (.int (n:Int))) (.len (.arg 0)))).holds [] { args:=[.list (ns.map .int)] }=true:=by
   have h4:=(holds_andW hc).1
   rw[hn] at h4
   exact h4
  have h5:=condW_of h4 (w_not (w_lt w_lit (w_len_list (w_arg rfl))))
  rw[List.length_map] at h5
  refine Nat.le_of_not_lt fun q=>?_
  have q':(n:Int)<((ns.length:Nat):Int):=by omega
  first
   |(rw[decide_eq_true q'] at h5;exact absurd h5 (by decide))
   |(simp at h5;omega)
 cases hwl with
 |cons w1 w2=>
  cases w2
  cases w1 with
  |list ho hall=>exact⟨_,_,ns,rfl,rfl,ho,Hk ns _ hall,hlen⟩

theorem S7(l:OpenLaw)(args:List WData):l.row.toRowW.claim.post args (.bool true) args=true:=
 postW_of (r:=l.row.toRowW) (X:=(true == true))
  (show WShape.has [] (.bool true) .bool=true by first|rfl|decide|simp[WShape.has,WShape.arms,WShape.armsAll])
  (show(WTm.eq .res (.lit (.bool true))).value [] { args:=args,res:=some (.bool true),after:=args }=some (.bool (true == true)) from w_eq_bool (w_res rfl) w_lit) rfl

theorem attach_call{l:OpenLaw}{n:Nat}{q:Program}{loose:List Str}{XP:(Str→Option Value)→Heap→Prop}{YP:World→Heap→Prop}{d:DefRec}(hn:l.most=some n)(hdf:d.params.defaults=[])(call:∀(w:World) (s₀ s₁:Shared) (mg mb:Str→Option Value) (fa:Addr) (o:Obj) (pm cd doc:Value) (a:Addr) (vs:List Value) (ns:List Int),
   Ground q loose [] XP w s₀ mg mb s₁.heap→YP w s₁.heap→
   s₁.heap.get? fa=some o→o.data=.func (docDef d.name d.params d.body d.scope pm cd doc)→s₁.heap.CodeRec cd d.name→mg d.name=some (.ref fa)→
   s₁.heap.get? a=some { cls:=.type "list",data:=.seq vs.toArray }→IntsAre vs ns→ns.length≤n→s₁.gens=#[]→
   codeAny (model l.prog w) callerA (.call (.ref fa) ⟨[.ref a],[]⟩) (fun r s'=>r=.ok (.ret (.bool true))∧OldK s₁.heap s'.heap∧s'.os=s₁.os∧AllBare s'.gens) s₁) :
  WalkO q loose XP YP l.row.toRowW d [] (fun f vs=>PySem.call f vs):=by
 intro w s₀ s₁ mg mb G Y fa o pm cd doc dV kV ho hd hcd hD hmg hg args vals as hpre hlay hrd hwl hlo
 obtain rfl:dV=.none:=Dflts.none hD hdf
 obtain rfl:kV=.none:=Dflts.noKw hD
 obtain⟨a,vs,ns,rfl,rfl,hobj,hints,hlen⟩:=Sy hn hpre hwl
 refine enter_call (codeAny_mono (call w s₀ s₁ mg mb fa o pm cd doc a vs ns G Y ho (fd_plain hd) hcd hmg hobj hints hlen hg) fun r s' hq=>?_)
 obtain⟨rfl,h2,h3,h4⟩:=hq
 exact⟨.inl ⟨.bool true,.bool true,[],rfl,fun _=>rfl,.bool true,S7 l _,fun _=>⟨List.Pairwise.nil,fun _ hm=>(nomatch hm)⟩⟩,h2,h3,h4⟩

section
variable{prog:Program}{w:World}{A:Around}{E:Value→Shared→Prop}{s:Shared}{K:Frag}
end
end Att
namespace L2
open PySem PySem.Spec PyProof.Rows
theorem vals_ints:∀{vs:List Value} {ns:List Int},IntsAre vs ns→Vals (ns.map V.int) vs
 |_,_,.nil=>.nil
 |_,_,.cons n t h=>.cons ⟨t,rfl⟩ (vals_ints h)

def Ur(H:Hp):Prop:=∀b,H b=none∨∃o xs,H b=some (.frz o (.lst xs))

theorem Xp{P:Program}{w:World}{K:W.Frag}{mg mb:Str→Option Value}{CX:CXT}{k:Nat}{fa a:Addr}{fd:FuncData}{x:Str}{sp:Sp}{s₁:Shared}{vs:List Value}{ns:List Int}(KX:K.In s₁.heap)(hns:s₁.heap.Ns mainGlobals mg)(hb:s₁.heap.Ns builtinsNs mb)(hbb:∀x:Str,x≠"__name__"→mb x=bootBuiltins x)(hlim:s₁.heap.NoLimit)(hsm:∃mm,s₁.heap.Ns sysModules mm)(hbm:∃bm ob,mg "__builtins__" = some (.ref bm)∧bm≠builtinsNs∧s₁.heap.get? bm=some ob∧ob.cls=.type "module"∧ob.dict=some builtinsNs∧ob.data=.plain)(hg:s₁.gens=#[])(ha:s₁.heap.get? a=some { cls:=.type "list",data:=.seq vs.toArray })(hi:IntsAre vs ns)(hl:ns.length≤sizeLine)(hr:Room k callerA)(F:∀base:Heap,K.In base→base.Ns mainGlobals mg→FnOk P w K mg base CX k fa fd [x] sp)(hbind:∀(s:Shared) (u:Value),BindsTo s fd ⟨[u],[]⟩ [(x,u)])(hsp:∀H:Hp,Ur H→SqL K H a (ns.map V.int)→sp [.ref a] H (fun v _=>v=.bl true) fun _ _ _=>False)(hCX:∀H e s',CX [] H s₁ (fun _ _ _=>False) e s'→False) :
  codeAny (model P w) callerA (.call (.ref fa) ⟨[.ref a],[]⟩) (fun r s'=>r=.ok (.ret (.bool true))∧OldK s₁.heap s'.heap∧s'.os=s₁.os∧AllBare s'.gens) s₁:=by
 have rv:=vals_ints hi
 have lenV:=hi.length
 -- from an abstract heap in which nothing but the script may be tracked
 have core:∀H:Hp,Ur H→SqL K H a (ns.map V.int)→HOk P w H s₁.heap→(∀b,H b≠none→b=a)→(H a≠none→K.lookup a=none)→
   codeAny (model P w) callerA (.call (.ref fa) ⟨[.ref a],[]⟩) (fun r s'=>r=.ok (.ret (.bool true))∧OldK s₁.heap s'.heap∧s'.os=s₁.os∧AllBare s'.gens) s₁:=by
  intro H hO hS hok hA hK
  have base_of:∀{b:Addr} {o:Obj},s₁.heap.get? b=some o→H b=none→(L1 s₁.heap H).get? b=some o:=fun e n=>Xx e n
  have noA:∀{b:Addr} {o:Obj} {es:Array DictEntry} {ep:Nat},s₁.heap.get? b=some o→o.data=.dict es ep→H b=none:=fun {b o es ep} e d=>by
   cases q:H b with
   |none=>rfl
   |some u=>
    have e':b=a:=hA b (by rw[q];simp)
    subst e'
    rw[ha] at e;cases e
    have d':Data.seq vs.toArray _=Data.dict es ep:=d
    cases d'
  have nsK:∀{b:Addr} {m:Str→Option Value},s₁.heap.Ns b m→(L1 s₁.heap H).Ns b m:=fun {b m} ⟨o,es,ep,e,d,r⟩=>⟨o,es,ep,base_of e (noA e d),d,r⟩
  have hKb:K.In (L1 s₁.heap H):=fun b o e=>base_of (KX b o e) (by
   cases q:H b with
   |none=>rfl
   |some u=>
    have e':b=a:=hA b (by rw[q];simp)
    subst e'
    rw[hK (by rw[q];simp)] at e;cases e)
  have hM:Mod K mg (L1 s₁.heap H):=⟨hKb,nsK hns,let ⟨mm,h1⟩:=hsm;⟨mm,nsK h1⟩,(let ⟨bm,ob,b1,b2,b3,b4,b5⟩:=hbm;⟨bm,ob,b1,b2,base_of b3 (Classical.byContradiction fun q=>by have e':bm=a:=hA bm q;rw[e',ha] at b3;cases b3;exact absurd (Value.type.inj b4) (by decide)),b4,b5⟩),⟨mb,nsK hb,hbb⟩,let ⟨mc,h1,h2⟩:=hlim;⟨mc,nsK h1,h2⟩⟩
  have e0:Env0 P w K mg (L1 s₁.heap H) callerA [] s₁ H:=⟨rfl,hM,fun b o e=>Aaf e,Nat.le_of_eq (Tu _ _),trivial,fun b hb=>absurd (show b∈([]:List Addr) from hb) (by simp),hok,.of_eq hg⟩
  refine codeAny_mono ((F _ hKb (nsK hns)).run callerA [] s₁ H ⟨[.ref a],[]⟩ [.ref a] [.ref a] _ _ hr e0 (hbind s₁ (.ref a)) (.cons rfl .nil) (hsp H hO hS)) fun r s' h=>?_
  cases r with
  |error e=>exact(hCX H e s' h).elim
  |ok fl=>
   cases fl with
   |next=>exact False.elim h
   |brk=>exact False.elim h
   |cont=>exact False.elim h
   |ret u=>
    obtain⟨v,H',os,bare,un,hok',r',q⟩:=h
    have q':v=.bl true:=q
    subst q'
    obtain rfl:u=Value.bool true:=r'
    refine⟨rfl,OldK.of_keep fun b o e=>?_,os,bare⟩
    cases q:H b with
    |none=>exact un.keep b o e q (by intro z;exact absurd (show b∈([]:List Addr) from z) (by simp)) (by simp)
    |some u=>
     rcases hO b with z|⟨ob,xs,z⟩
     ·rw[q] at z;cases z
     ·have z2:=un.frzs b ob _ z
      obtain⟨e1,_⟩:=hok b _ z
      obtain⟨e2,_⟩:=hok' b _ z2
      rw[e] at e1;cases e1
      exact e2
 cases hk:K.lookup a with
 |some o=>
  -- the script is one of the module's own objects
  have e:=KX a o hk
  rw[ha] at e
  cases e
  refine core (fun _=>none) (fun _=>.inl rfl) (.inr ⟨_,vs.toArray,_,hk,rfl,rfl,rfl,by rw[List.size_toArray,lenV];exact hl,by simpa using rv⟩) (fun b u z=>by have z':(none:Option HO)=some u:=z;cases z') (fun b z=>absurd rfl z) fun z=>absurd rfl z
 |none=>
  refine core (fun b=>if b=a then some (.frz { cls:=.type "list",data:=.seq vs.toArray } (.lst (ns.map V.int))) else none) (fun b=>?_) (.inl (.inr ⟨{ cls:=.type "list",data:=.seq vs.toArray },if_pos rfl⟩)) (fun b u z=>?_) (fun b z=>?_) fun _=>hk
  ·by_cases hb:b=a
   ·exact .inr ⟨_,_,if_pos hb⟩
   ·exact .inl (if_neg hb)
  ·by_cases hb:b=a
   ·have z':=(if_pos hb).symm.trans z
    cases z'
    subst hb
    exact⟨ha,by rw[List.length_map];exact hl,vs,_,rv,ha⟩
   ·have z':=(if_neg hb).symm.trans z
    cases z'
  ·by_cases hb:b=a
   ·exact hb
   ·exact absurd (if_neg hb) z
end L2
namespace L2
open PySem PySem.Spec PyProof.Rows
abbrev KOf{K:W.Frag}{h:Heap}(_:K.In h):PySem.W.Frag:=K

theorem Yy{l:PySem.W.OpenLaw}{n k:Nat}{q:Program}{loose:List Str}{XP:(Str→Option Value)→Heap→Prop}{YP:World→Heap→Prop}{d:DefRec}{K:Params→PySem.W.Frag}{CX:World→CXT}{sp:World→Sp}{x:Str}(hi:importsNone q=true)(hn:l.most=some n)(hn2:n≤sizeLine)(hdf:d.params.defaults=[])(hr:Room k callerA)(hY:∀(w:World) (h:Heap),YP w h→(K w.params).In h)(F:∀(w:World) (mg:Str→Option Value) (fa:Addr) (h:Heap),(K w.params).In h→h.Ns mainGlobals mg→mg d.name=some (.ref fa)→
   ∃fd:FuncData,(∀(s:Shared) (u:Value),BindsTo s fd ⟨[u],[]⟩ [(x,u)])∧
    ∀base:Heap,(K w.params).In base→base.Ns mainGlobals mg→FnOk l.prog w (K w.params) mg base (CX w) k fa fd [x] (sp w))(hsp:∀(w:World) (H:Hp) (a:Addr) (ns:List Int),ns.length≤n→Ur H→SqL (K w.params) H a (ns.map V.int)→sp w [.ref a] H (fun v _=>v=.bl true) fun _ _ _=>False)(hCX:∀(w:World) (H:Hp) (s:Shared) (e:Value) (s':Shared),CX w [] H s (fun _ _ _=>False) e s'→False) :
  PySem.W.WalkO q loose XP YP l.row.toRowW d [] (fun f vs=>PySem.call f vs):=by
 refine Att.attach_call hn hdf fun w s₀ s₁ mg mb fa o pm cd doc a vs ns G Y ho hd hcd hmg hobj hints hlen hg=>?_
 have KX:=hY w _ Y
 obtain⟨fd,hb,hF⟩:=F w mg fa _ KX G.T.g hmg
 exact Xp KX G.T.g G.T.b G.T.builtins G.T.nolimit (let ⟨mm,h1,_⟩:=(G.T.seer hi).mods;⟨mm,h1⟩) G.T.bmain hg hobj hints (Nat.le_trans hlen hn2) hr hF hb (fun H hO hS=>hsp w H a ns hlen hO hS) fun H e s'=>hCX w H s₁ e s'
theorem Wb{l:PySem.W.OpenLaw}{n k:Nat}{q:Program}{loose:List Str}{XP:(Str→Option Value)→Heap→Prop}{YP:World→Heap→Prop}{d:DefRec}{K:Params→PySem.W.Frag}{CX:CXT}{sp:PySem.W.Frag→Sp}{x:Str}(hi:importsNone q=true)(hn:l.most=some n)(hn2:n≤sizeLine)(hdf:d.params.defaults=[])(hr:Room k callerA)(hY:∀(w:World) (h:Heap),YP w h→(K w.params).In h)(F:∀(w:World) (mg:Str→Option Value) (fa:Addr) (h:Heap),(K w.params).In h→h.Ns mainGlobals mg→mg d.name=some (.ref fa)→
   ∃fd:FuncData,(∀(s:Shared) (u:Value),BindsTo s fd ⟨[u],[]⟩ [(x,u)])∧
    ∀base:Heap,(K w.params).In base→base.Ns mainGlobals mg→FnOk l.prog w (K w.params) mg base CX k fa fd [x] (sp (K w.params)))(hsp:∀(K:PySem.W.Frag) (H:Hp) (a:Addr) (ns:List Int),ns.length≤n→Ur H→SqL K H a (ns.map V.int)→sp K [.ref a] H (fun v _=>v=.bl true) fun _ _ _=>False)(hCX:∀(H:Hp) (s:Shared) (e:Value) (s':Shared),CX [] H s (fun _ _ _=>False) e s'→False) :
  PySem.W.WalkO q loose XP YP l.row.toRowW d [] (fun f vs=>PySem.call f vs):=
 Yy (K:=K) (CX:=fun _=>CX) (sp:=fun w=>sp (K w.params)) hi hn hn2 hdf hr hY F (fun w H a ns h1 h2 h3=>hsp (K w.params) H a ns h1 h2 h3) fun _ H s e s'=>hCX H s e s'
end L2
namespace L2
open PySem PySem.Spec PyProof.Rows
def Fv(s:Stmt):Arguments:=match s with
 |.FunctionDef _ a _ _ _ _ _ _ _ _=>a
 |_=>{ posonlyargs:=[],args:=[],vararg:=none,kwonlyargs:=[],kw_defaults:=[],kwarg:=none,defaults:=[] }
def D7(s:Stmt):List Stmt:=match s with
 |.FunctionDef _ _ b _ _ _ _ _ _ _=>b
 |_=>[]
def Ad(s:Stmt):Scope:=match s with
 |.FunctionDef _ _ _ _ _ _ sc _ _ _=>sc
 |_=>{ kind:=.function,names:=[],isGenerator:=false,isCoroutine:=false }

abbrev CX0:CXT:=fun _ _ _ _ _ _=>False
abbrev E0:XK:=fun _ _ _=>False
structure Fun(K:PySem.W.Frag)(x qual:Str)(st:Stmt)(f:Addr)(fd:FuncData):Prop where
 ex:∃(oc:Value) (od:Option Addr) (kV doc pm:Value) (an:Option Addr) (cdv ct:Value) (osl:Array (Option Value)),
  fd=PySem.W.fnOf x qual (Fv st) (D7 st) (Ad st) .none kV doc pm an cdv ct∧K.lookup f=some ⟨oc,od,.func fd,osl⟩∧PySem.W.codeIn K cdv qual=true
 kp:PySem.W.keepIn K (.ref f)=true
section
variable{P:Program}{w:World}{K:W.Frag}{mg:Str→Option Value}{base:Heap}
theorem Fun.ok{x qual:Str}{st:Stmt}{f:Addr}{fd:FuncData}{N ps:List Str}{k:Nat}{sp:Sp}(F:Fun K x qual st f fd)(S:FnScope N ps (Ad st))(len:∀vs H Q E,sp vs H Q E→vs.length=ps.length)(hbody:∀(cdv:Value) (A:Around) (outer:List Env) (s:Shared) (H:Hp) (vs:List V) (Q:VK) (E:XK),Room k (A.deeper (envOfC qual (Ad st) s.heap.objs.size f cdv))→sp vs H Q E→
   ∃t,PSs (Pw CX0 P w K mg base N qual (Ad st) f cdv A outer s H E).nox (D7 st) t∧t { nx:=fun _ H'=>Q .non H',rt:=Q } (start N vs) H):FnOk P w K mg base CX0 (k+1) f fd ps sp:=by
 obtain⟨oc,od,kV,doc,pm,an,cdv,ct,osl,rfl,lk,hcd⟩:=F.ex
 refine fn_of lk hcd S len fun A outer s H vs Q E hr hsp=>?_
 obtain⟨t,h,q⟩:=hbody cdv A outer s H vs Q E hr hsp
 exact⟨t,h.nox,q⟩
theorem Fun.binds{x qual:Str}{st:Stmt}{f:Addr}{fd:FuncData}{ps:List Str}(F:Fun K x qual st f fd)(h:∀(kV doc pm:Value) (an:Option Addr) (cdv ct:Value) (us:List Value),us.length=ps.length→bindArgs (PySem.W.fnOf x qual (Fv st) (D7 st) (Ad st) .none kV doc pm an cdv ct) ⟨us,[]⟩=pure (ps.zip us)):Binds K fd ps []:=by
 obtain⟨oc,od,kV,doc,pm,an,cdv,ct,osl,rfl,lk,hcd⟩:=F.ex
 exact .all (h kV doc pm an cdv ct)
theorem Adv{x qual:Str}{st:Stmt}{f:Addr}{oc:Value}{od an:Option Addr}{osl:Array (Option Value)}{kV doc pm cdv ct:Value}(l:K.lookup f=some ⟨oc,od,.func (PySem.W.fnOf x qual (Fv st) (D7 st) (Ad st) .none kV doc pm an cdv ct),osl⟩)(c:PySem.W.codeIn K cdv qual=true)(k:PySem.W.keepIn K (.ref f)=true):Fun K x qual st f (PySem.W.fnOf x qual (Fv st) (D7 st) (Ad st) .none kV doc pm an cdv ct):=⟨⟨oc,od,kV,doc,pm,an,cdv,ct,osl,rfl,l,c⟩,k⟩
end
theorem Bv{n:Nat}(h:n≤1000):n<sizeLine:=Nat.lt_of_le_of_lt h (by decide)

section
variable{X:Cx}
theorem pv(i:Nat){x:Str}{pos:Pos}(hN:X.N[i]? = some x:=by rfl)(hv:Vis X.env.scope x:=by first|exact Or.inl rfl|exact Or.inr (Or.inl rfl)|exact Or.inr (Or.inr rfl))(hd:(x == ("__debug__" : Str))=false:=by decide)(hcd:(x == ("__classdict__" : Str))=false:=by decide):PE X (.Name x pos) (tVar i):=Vn hN hv hd hcd
end
def Same(H H':Hp):Prop:=∀b o,H b=some o→H' b=some o
theorem Same.trans{H H1 H2:Hp}(a:Same H H1)(b:Same H1 H2):Same H H2:=fun c o h=>b c o (a c o h)
theorem Same.free{H H':Hp}(e:Same H H'){l:Addr}(h:H' l=Option.none):H l=Option.none:=by
 cases q:H l with
 |none=>rfl
 |some o=>
  rw[e l o q] at h
  cases h
section
variable{X:Cx}
end
section
variable{κ:Type}[DecidableEq κ]
end
end L2
namespace D3
open PySem PySem.Spec
open PyProof.Rows hiding St
open L2 hiding St
inductive D where
 |non|bl (b:Bool)|int (i:Int)|str (x:Str)|tup (ds:List D)|ref (a:Addr)|ty (n:String)|lint (ns:List Int)
 deriving Inhabited

def RdI(K:PySem.W.Frag)(H:Hp)(a:Addr)(xs:List V):Prop:=(∃o,H a=some (.frz o (.lst xs)))∨
 ∃(o:Obj) (its:Array Value) (n:Nat),K.lookup a=some o∧o.cls=.type "list"∧o.dict=none∧o.data=.seq its n∧its.size≤sizeLine∧Vals xs its.toList
theorem RdI.sq{K:W.Frag}{H:Hp}{a:Addr}{xs:List V}(h:RdI K H a xs):SqL K H a xs:=h.elim (fun⟨o,e⟩=>.inl (.inr ⟨o,e⟩)) .inr
mutual
inductive DV (K:PySem.W.Frag) (H:Hp):D→V→Prop where
 |non:DV K H .non .non
 |bl (b:Bool):DV K H (.bl b) (.bl b)
 |int (i:Int):DV K H (.int i) (.int i)
 |str (x:Str):DV K H (.str x) (.str x)
 |ref (a:Addr):DV K H (.ref a) (.ref a)
 |ty (n:String):DV K H (.ty n) (.ty n)
 |lint {ns:List Int} {a:Addr} (e:RdI K H a (ns.map V.int)):DV K H (.lint ns) (.ref a)
 |tup {ds:List D} {a:Addr} {xs:List V} (e:H a=some (.tup xs)) (r:DVs K H ds xs):DV K H (.tup ds) (.ref a)
inductive DVs (K:PySem.W.Frag) (H:Hp):List D→List V→Prop where
 |nil:DVs K H [] []
 |cons {d:D} {v:V} {ds:List D} {vs:List V} (h:DV K H d v) (t:DVs K H ds vs):DVs K H (d::ds) (v::vs)
end
structure Ext(H H':Hp):Prop where
 tup:∀b xs,H b=some (.tup xs)→H' b=some (.tup xs)
 frz:∀b o u,H b=some (.frz o u)→H' b=some (.frz o u)
theorem Ext.refl(H:Hp):Ext H H:=⟨fun _ _ h=>h,fun _ _ _ h=>h⟩
theorem Ext.trans{H H1 H2:Hp}(a:Ext H H1)(b:Ext H1 H2):Ext H H2:=⟨fun c xs h=>b.tup c xs (a.tup c xs h),fun c o u h=>b.frz c o u (a.frz c o u h)⟩
theorem Ext.fresh{H:Hp}{p:Addr}{o:HO}(h:H p=none):Ext H (upd H p o):=⟨fun b xs e=>by
 rw[Am (Bf e h)];exact e,fun b ob u e=>by rw[Am (Bf e h)];exact e⟩
theorem Ext.write{H:Hp}{p:Addr}{o u:HO}(h:H p=some u)(n:∀xs,u≠.tup xs)(m:∀ob w,u≠.frz ob w):Ext H (upd H p o):=⟨fun b xs e=>by
 rw[Am (Ha e h fun z=>n xs z.symm)];exact e,fun b ob w e=>by rw[Am (Ha e h fun z=>m ob w z.symm)];exact e⟩
theorem RdI.ext{K:W.Frag}{H H':Hp}{a:Addr}{xs:List V}(h:RdI K H a xs)(x:Ext H H'):RdI K H' a xs:=h.elim (fun⟨o,e⟩=>.inl ⟨o,x.frz _ _ _ e⟩) .inr
section
variable{K:W.Frag}
mutual
theorem DV.ext{H H':Hp}(x:Ext H H'):∀{d:D} {v:V},DV K H d v→DV K H' d v
 |_,_,.non=>.non
 |_,_,.bl b=>.bl b
 |_,_,.int i=>.int i
 |_,_,.str s=>.str s
 |_,_,.ref a=>.ref a
 |_,_,.ty n=>.ty n
 |_,_,.lint e=>.lint (e.ext x)
 |_,_,.tup e r=>.tup (x.tup _ _ e) (DVs.ext x r)
theorem DVs.ext{H H':Hp}(x:Ext H H'):∀{ds:List D} {vs:List V},DVs K H ds vs→DVs K H' ds vs
 |_,_,.nil=>.nil
 |_,_,.cons h t=>.cons (DV.ext x h) (DVs.ext x t)
end
theorem DVs.length{H:Hp}:∀{ds:List D} {vs:List V},DVs K H ds vs→ds.length=vs.length
 |_,_,.nil=>rfl
 |_,_,.cons _ t=>congrArg (· + 1) t.length
theorem DVs.get{H:Hp}:∀{ds:List D} {vs:List V} {i:Nat} {d:D},DVs K H ds vs→ds[i]? = some d→∃v,vs[i]? = some v∧DV K H d v
 |_,_,_,_,.nil,e=>by simp at e
 |_,_,0,_,.cons h _,e=>by simp at e;subst e;exact⟨_,rfl,h⟩
 |_,_,i+1,d,.cons _ t,e=>by
  obtain⟨v,h1,h2⟩:=DVs.get (i:=i) (d:=d) t (by simpa using e)
  exact⟨v,by simpa using h1,h2⟩
theorem DVs.get'{H:Hp}:∀{ds:List D} {vs:List V} {i:Nat} {v:V},DVs K H ds vs→vs[i]? = some v→∃d,ds[i]? = some d∧DV K H d v
 |_,_,_,_,.nil,e=>by simp at e
 |_,_,0,_,.cons h _,e=>by simp at e;subst e;exact⟨_,rfl,h⟩
 |_,_,i+1,d,.cons _ t,e=>by
  obtain⟨v,h1,h2⟩:=DVs.get' (i:=i) (v:=d) t (by simpa using e)
  exact⟨v,by simpa using h1,h2⟩
theorem DVs.append{H:Hp}:∀{ds es:List D} {vs ws:List V},DVs K H ds vs→DVs K H es ws→DVs K H (ds++es) (vs++ws)
 |_,_,_,_,.nil,s=>s
 |_,_,_,_,.cons h t,s=>.cons h (t.append s)
theorem DVs.set{H:Hp}{d:D}{v:V}(r:DV K H d v):∀{ds:List D} {vs:List V} (i:Nat),DVs K H ds vs→DVs K H (ds.set i d) (vs.set i v)
 |_,_,_,.nil=>.nil
 |_,_,0,.cons _ t=>.cons r t
 |_,_,i+1,.cons h t=>.cons h (DVs.set r i t)
theorem DVs.take{H:Hp}:∀{ds:List D} {vs:List V} (n:Nat),DVs K H ds vs→DVs K H (ds.take n) (vs.take n)
 |_,_,0,_=>.nil
 |_,_,_+1,.nil=>.nil
 |_,_,n+1,.cons h t=>.cons h (t.take n)
theorem DVs.drop{H:Hp}:∀{ds:List D} {vs:List V} (n:Nat),DVs K H ds vs→DVs K H (ds.drop n) (vs.drop n)
 |_,_,0,r=>r
 |_,_,_+1,.nil=>.nil
 |_,_,n+1,.cons _ t=>t.drop n
theorem DVs.ints{H:Hp}:∀{ns:List Int},DVs K H (ns.map D.int) (ns.map V.int)
 |[]=>.nil
 |_::_=>.cons (.int _) DVs.ints
theorem DVs.one{H:Hp}{d:D}{vs:List V}(r:DVs K H [d] vs):∃v,vs=[v]∧DV K H d v:=by
 cases r with|cons h t=>cases t;exact⟨_,rfl,h⟩
theorem DVs.two{H:Hp}{d e:D}{vs:List V}(r:DVs K H [d,e] vs):∃v w,vs=[v,w]∧DV K H d v∧DV K H e w:=by
 cases r with|cons h t=>cases t with|cons h' t'=>cases t';exact⟨_,_,rfl,h,h'⟩

end
def kD:Key→D
 |.inl i=>.int i
 |.inr x=>.str x

inductive GO where
 |lst (ds:List D)
 |dct (kvs:List (List Key×D))
 |dkk (kvs:List (Key×D))
 /-- an instance of the class at C,its attributes -/
 |ins (C:Addr) (fs:List (Str×D))
 /-- the codes that were made within a def;q: how they are called -/
 |tbl (q:Str)
 /-- a thing that never changes,of which ok holds (a function,an exception) -/
 |any (ok:Hp→Addr→Prop)
abbrev Gp:=Addr→Option GO
def Ac(G:Gp)(a:Addr)(o:GO):Gp:=fun b=>if b=a then some o else G b
theorem Aa{G:Gp}{a:Addr}{o:GO}:Ac G a o a=some o:=if_pos rfl
theorem Af{G:Gp}{a b:Addr}{o:GO}(h:b≠a):Ac G a o b=G b:=if_neg h
theorem Av{G:Gp}{a:Addr}{o u:GO}:Ac (Ac G a o) a u=Ac G a u:=by
 funext b;unfold Ac;split<;>rfl
theorem Sn{G:Gp}{a b:Addr}{o u:GO}(h:a≠b):Ac (Ac G a o) b u=Ac (Ac G b u) a o:=by
 funext c;unfold Ac
 by_cases h1:c=b
 ·by_cases h2:c=a
  ·exact absurd (h2.symm.trans h1) h
  ·simp[h1,Ne.symm h]
 ·by_cases h2:c=a<;>simp[h1,h2,h]
theorem gne{G:Gp}{a b:Addr}{o:GO}(h:G a=some o)(h':G b=none):a≠b:=by
 intro e;subst e;rw[h] at h';cases h'

def Ad7(o:Obj)(q:Str):Prop:=∃vs t,o.data=.fields vs∧vs[1]? = some (.str q t)
def GOk(K:PySem.W.Frag)(H:Hp)(a:Addr):GO→Prop
 |.lst ds=>∃xs,H a=some (.lst xs)∧DVs K H ds xs
 |.dct kvs=>∃ks,H a=some (.dT ks)∧Paired (fun(p:List Key×D) (q:List Key×V)=>p.1=q.1∧DV K H p.2 q.2) kvs ks
 |.dkk kvs=>∃ks,H a=some (.dK ks)∧Paired (fun(p:Key×D) (q:Key×V)=>p.1=q.1∧DV K H p.2 q.2) kvs ks
 |.ins C fs=>∃dx ks,H a=some (.ins C dx ks)∧Paired (fun(p:Str×D) (q:Str×V)=>p.1=q.1∧DV K H p.2 q.2) fs ks
 |.tbl q=>∃ps,H a=some (.tbl ps)∧TriplesOk ps.toList∧∀pos cv,codeAmong pos ps.toList=some cv→∃c o u,cv=.ref c∧H c=some (.frz o u)∧Ad7 o q
 |.any ok=>(∃o u,H a=some (.frz o u))∧∀H',Ext H H'→ok H' a
def RelG(K:PySem.W.Frag)(H:Hp)(G:Gp):Prop:=∀a o,G a=some o→GOk K H a o

theorem GOk.upd{K:W.Frag}{H:Hp}{a p:Addr}{o:GO}{u:HO}(h:GOk K H a o)(x:Ext H (L2.upd H p u))(n:H p=none∨a≠p):GOk K (L2.upd H p u) a o:=by
 have ne:∀u,H a=some u→a≠p:=fun u e=>n.elim (fun z=>Bf e z) id
 cases o with
 |lst ds=>obtain⟨xs,e,r⟩:=h;exact⟨xs,by rw[Am (ne _ e)];exact e,r.ext x⟩
 |dct kvs=>obtain⟨ks,e,r⟩:=h;exact⟨ks,by rw[Am (ne _ e)];exact e,L2.Paired.mapP r fun _ _ z=>⟨z.1,z.2.ext x⟩⟩
 |dkk kvs=>obtain⟨ks,e,r⟩:=h;exact⟨ks,by rw[Am (ne _ e)];exact e,L2.Paired.mapP r fun _ _ z=>⟨z.1,z.2.ext x⟩⟩
 |ins C fs=>obtain⟨dx,ks,e,r⟩:=h;exact⟨dx,ks,by rw[Am (ne _ e)];exact e,L2.Paired.mapP r fun _ _ z=>⟨z.1,z.2.ext x⟩⟩
 |tbl q=>obtain⟨ps,e,t,r⟩:=h;exact⟨ps,by rw[Am (ne _ e)];exact e,t,fun pos cv h1=>let ⟨c,o,u,a1,a2,a3⟩:=r pos cv h1;⟨c,o,u,a1,x.frz _ _ _ a2,a3⟩⟩
 |any ok=>obtain⟨⟨o,u,e⟩,r⟩:=h;exact⟨⟨o,u,x.frz _ _ _ e⟩,fun H' y=>r H' (x.trans y)⟩
theorem RelG.free{K:W.Frag}{H:Hp}{G:Gp}(r:RelG K H G){p:Addr}(h:H p=none):G p=none:=by
 cases q:G p with
 |none=>rfl
 |some o=>
  have z:=r p o q
  cases o with
  |lst ds=>obtain⟨_,e,_⟩:=z;rw[h] at e;cases e
  |dct ds=>obtain⟨_,e,_⟩:=z;rw[h] at e;cases e
  |dkk ds=>obtain⟨_,e,_⟩:=z;rw[h] at e;cases e
  |ins C fs=>obtain⟨_,_,e,_⟩:=z;rw[h] at e;cases e
  |tbl q=>obtain⟨_,e,_⟩:=z;rw[h] at e;cases e
  |any ok=>obtain⟨⟨_,_,e⟩,_⟩:=z;rw[h] at e;cases e
theorem RelG.tup{K:W.Frag}{H:Hp}{G:Gp}(r:RelG K H G){p:Addr}{u:HO}(h:H p=none):RelG K (upd H p u) G:=fun a o e=>(r a o e).upd (Ext.fresh h) (.inl h)
theorem RelG.ext'{K:W.Frag}{H:Hp}{G G':Gp}(r:RelG K H G)(s:∀a o,G' a=some o→G a=some o):RelG K H G':=fun a o e=>r a o (s a o e)

abbrev DSt:=List (Option D)
abbrev St:=L2.St
def RelS(K:PySem.W.Frag)(H:Hp)(σD:DSt)(σ:St):Prop:=σD.length=σ.length∧∀(i:Nat) d,σD[i]? = some (some d)→∃v,σ[i]? = some (some v)∧DV K H d v
theorem RelS.ext{K:W.Frag}{H H':Hp}{σD:DSt}{σ:St}(r:RelS K H σD σ)(x:Ext H H'):RelS K H' σD σ:=⟨r.1,fun i d e=>let ⟨v,h1,h2⟩:=r.2 i d e;⟨v,h1,h2.ext x⟩⟩
theorem RelS.set{K:W.Frag}{H:Hp}{σD:DSt}{σ:St}(r:RelS K H σD σ){d:D}{v:V}(h:DV K H d v)(i:Nat):RelS K H (σD.set i (some d)) (σ.set i (some v)):=by
 refine⟨by rw[List.length_set,List.length_set];exact r.1,fun j e q=>?_⟩
 by_cases hj:i=j
 ·subst hj
  rw[List.getElem?_set] at q ⊢
  rw[if_pos rfl] at q ⊢
  have hl:=r.1
  split at q
  ·rename_i hi
   cases q
   exact⟨v,by rw[if_pos (by omega)],h⟩
  ·cases q
 ·rw[List.getElem?_set_ne hj] at q ⊢
  exact r.2 j e q

abbrev DK:=D→Gp→Prop
abbrev DTE:=DSt→Gp→DK→Prop
abbrev DTT:=DSt→Gp→(Bool→Gp→Prop)→Prop
abbrev DTA:=DSt→Gp→(List D→Gp→Prop)→Prop
structure DEnds where
 nx:DSt→Gp→Prop
 rt:DK
 bk:DSt→Gp→Prop:=fun _ _=>False
 ct:DSt→Gp→Prop:=fun _ _=>False
abbrev DTS:=DEnds→DSt→Gp→Prop

def Fwd(K:PySem.W.Frag)(H:Hp)(G':Gp)(Q:Hp→Prop):Prop:=∀H',Ext H H'→RelG K H' G'→Q H'
theorem Fwd.go{K:W.Frag}{H H1:Hp}{G':Gp}{Q:Hp→Prop}(f:Fwd K H G' Q)(x:Ext H H1):Fwd K H1 G' Q:=fun H' y r=>f H' (x.trans y) r

def By(K:PySem.W.Frag)(t:DTE):TE:=fun σ H Q=>∃σD G Q',RelS K H σD σ∧RelG K H G∧t σD G Q'∧∀d G',Q' d G'→Fwd K H G' fun H'=>∀v,DV K H' d v→Q v H'
def Ds(K:PySem.W.Frag)(t:DTT):TT:=fun σ H Q=>∃σD G Q',RelS K H σD σ∧RelG K H G∧t σD G Q'∧∀b G',Q' b G'→Fwd K H G' fun H'=>Q b H'
def U3(K:PySem.W.Frag)(t:DTA):TA:=fun σ H Q=>∃σD G Q',RelS K H σD σ∧RelG K H G∧t σD G Q'∧∀ds G',Q' ds G'→Fwd K H G' fun H'=>∀vs,DVs K H' ds vs→Q vs H'
structure DEnds.Reach(K:PySem.W.Frag)(H:Hp)(D:DEnds)(E:Ends):Prop where
 nx:∀σD G',D.nx σD G'→Fwd K H G' fun H'=>∀σ,RelS K H' σD σ→E.nx σ H'
 rt:∀d G',D.rt d G'→Fwd K H G' fun H'=>∀v,DV K H' d v→E.rt v H'
 bk:∀σD G',D.bk σD G'→Fwd K H G' fun H'=>∀σ,RelS K H' σD σ→E.bk σ H'
 ct:∀σD G',D.ct σD G'→Fwd K H G' fun H'=>∀σ,RelS K H' σD σ→E.ct σ H'
theorem DEnds.Reach.go{K:W.Frag}{H H1:Hp}{D:DEnds}{E:Ends}(r:D.Reach K H E)(x:Ext H H1):D.Reach K H1 E:=
 ⟨fun σ G h=>(r.nx σ G h).go x,fun d G h=>(r.rt d G h).go x,fun σ G h=>(r.bk σ G h).go x,fun σ G h=>(r.ct σ G h).go x⟩
def Ec(K:PySem.W.Frag)(t:DTS):TS:=fun E σ H=>∃σD G D,RelS K H σD σ∧RelG K H G∧t D σD G∧D.Reach K H E

def QE(X:Cx)(e:Expr)(t:DTE):Prop:=PE X e (By X.K t)
def QT(X:Cx)(e:Expr)(t:DTT):Prop:=PT X e (Ds X.K t)
def QW(X:Cx)(e:Expr)(t:DTT):Prop:=PW X e (Ds X.K t)
def QA(X:Cx)(es:List Expr)(t:DTA):Prop:=PA X es (U3 X.K t)
def QS(X:Cx)(s:Stmt)(t:DTS):Prop:=PS X s (Ec X.K t)
def QSs(X:Cx)(s:List Stmt)(t:DTS):Prop:=PSs X s (Ec X.K t)

theorem _root_.L2.PE.imp{X:Cx}{e:Expr}{t t':TE}(h:PE X e t)(f:∀σ H Q,t' σ H Q→t σ H Q):PE X e t':=fun pins s σ H Q I q=>h pins s σ H Q I (f σ H Q q)
theorem _root_.L2.PT.imp{X:Cx}{e:Expr}{t t':TT}(h:PT X e t)(f:∀σ H Q,t' σ H Q→t σ H Q):PT X e t':=fun pins s σ H Q I q=>h pins s σ H Q I (f σ H Q q)
theorem _root_.L2.PW.imp{X:Cx}{e:Expr}{t t':TT}(h:PW X e t)(f:∀σ H Q,t' σ H Q→t σ H Q):PW X e t':=fun w pins s σ H Q I q=>h w pins s σ H Q I (f σ H Q q)
theorem _root_.L2.PA.imp{X:Cx}{e:List Expr}{t t':TA}(h:PA X e t)(f:∀σ H Q,t' σ H Q→t σ H Q):PA X e t':=fun p pins s σ H Q I q=>h p pins s σ H Q I (f σ H Q q)
theorem _root_.L2.PS.imp{X:Cx}{e:Stmt}{t t':TS}(h:PS X e t)(f:∀D σ H,t' D σ H→t D σ H):PS X e t':=fun pins s σ H D I q=>h pins s σ H D I (f D σ H q)
theorem _root_.L2.PSs.imp{X:Cx}{e:List Stmt}{t t':TS}(h:PSs X e t)(f:∀D σ H,t' D σ H→t D σ H):PSs X e t':=fun pins s σ H D I q=>h pins s σ H D I (f D σ H q)

section
variable{X:Cx}{a b c e:Expr}{ta tb tc te:DTE}{pos:Pos}
def Ai(i:Nat):DTE:=fun σ G Q=>∃d,σ[i]? = some (some d)∧Q d G
def nC(d:D):DTE:=fun _ G Q=>Q d G
theorem Aba{i:Nat}{x:Str}(hN:X.N[i]? = some x:=by rfl)(hv:Vis X.env.scope x:=by first|exact Or.inl rfl|exact Or.inr (Or.inl rfl)|exact Or.inr (Or.inr rfl))(hd:(x == ("__debug__" : Str))=false:=by decide)(hcd:(x == ("__classdict__" : Str))=false:=by decide):QE X (.Name x pos) (Ai i):=(Vn hN hv hd hcd).imp fun σ H Q ⟨σD,G,Q',rs,rg,⟨d,e,q⟩,cl⟩=>by
 obtain⟨v,e1,r⟩:=rs.2 i d e
 exact⟨v,e1,cl d G q H (Ext.refl H) rg v r⟩
theorem Nr{v:V}{d:D}(h:PE X e (tC v))(r:∀H,DV X.K H d v):QE X e (nC d):=h.imp fun σ H Q ⟨σD,G,Q',rs,rg,q,cl⟩=>cl d G q H (Ext.refl H) rg v (r H)
theorem q_int{i j pos}:QE X (.Constant (.int i) j pos) (nC (.int i)):=Nr Acx fun _=>.int i
theorem q_bl{b j pos}:QE X (.Constant (.bool b) j pos) (nC (.bl b)):=Nr pe_bl fun _=>.bl b
theorem q_non{j pos}:QE X (.Constant .none j pos) (nC .non):=Nr Vo fun _=>.non
theorem Acd{x:Str}{i:Int}{t:Tok}(hm:X.mg x=some (.int i t))(hg:Gl X x:=by rfl)(hd:(x == ("__debug__" : Str))=false:=by decide):QE X (.Name x pos) (nC (.int i)):=Nr (v:=.int i) (Zz hg hm ⟨t,rfl⟩ hd) fun _=>.int i
theorem q_globty{x:Str}{n:String}(hm:X.mg x=none)(hv:bootBuiltins x=some (.type n))(hg:Gl X x:=by rfl)(hn:x≠"__name__":=by decide)(hd:(x == ("__debug__" : Str))=false:=by decide):QE X (.Name x pos) (nC (.ty n)):=
 Nr (v:=.ty n) (Z2 hg hm hv rfl hn hd) fun _=>.ty n

abbrev DR2:=D→D→Gp→DK→Prop
def Kz(K:PySem.W.Frag)(r:DR2):R2:=fun x y H Q=>∃dx dy G Q',DV K H dx x∧DV K H dy y∧RelG K H G∧r dx dy G Q'∧∀d G',Q' d G'→Fwd K H G' fun H'=>∀v,DV K H' d v→Q v H'
def QOp(X:Cx)(f:Value→Value→Sem Value)(r:DR2):Prop:=OpR X f (Kz X.K r)
theorem _root_.L2.OpR.imp{f:Value→Value→Sem Value}{r r':R2}(h:OpR X f r)(g:∀x y H Q,r' x y H Q→r x y H Q):OpR X f r':=fun pins s σ H x y v u Q I rx ry q=>h pins s σ H x y v u Q I rx ry (g x y H Q q)
def nOp(r:DR2)(ta tb:DTE):DTE:=fun σ G Q=>ta σ G fun x G1=>tb σ G1 fun y G2=>r x y G2 Q
theorem Hu{K:W.Frag}{r:DR2}{σ:St}{H:Hp}{Q:VK}(h:By K (nOp r ta tb) σ H Q):tOp (Kz K r) (By K ta) (By K tb) σ H Q:=by
 obtain⟨σD,G,Q',rs,rg,h,cl⟩:=h
 refine⟨σD,G,_,rs,rg,h,fun x G1 h1 H1 x1 rg1 v1 d1=>?_⟩
 refine⟨σD,G1,_,rs.ext x1,rg1,h1,fun y G2 h2 H2 x2 rg2 v2 d2=>?_⟩
 exact⟨x,y,G2,Q',d1.ext x2,d2,rg2,h2,fun d G' q=>(cl d G' q).go (x1.trans x2)⟩
theorem A9{op:Operator}{r:DR2}(ho:QOp X (binaryOp op) r)(ha:QE X a ta)(hb:QE X b tb):QE X (.BinOp a op b pos) (nOp r ta tb):=(pe_op ho ha hb).imp fun _ _ _ h=>Hu h
def dI(C:Int→Int→Prop)(g:Int→Int→D):DR2:=fun x y G Q=>∃i,x=.int i∧∃j,y=.int j∧C i j∧Q (g i j) G
def dI0(g:Int→Int→D):DR2:=fun x y G Q=>∃i,x=.int i∧∃j,y=.int j∧Q (g i j) G
theorem Uw{f:Value→Value→Sem Value}{C:Int→Int→Prop}{g:Int→Int→V}{g':Int→Int→D}(h:OpR X f (rI C g))(e:∀H i j,DV X.K H (g' i j) (g i j)):QOp X f (dI C g'):=L2.OpR.imp h fun x y H Q ⟨dx,dy,G,Q',hx,hy,rg,⟨i,ei,j,ej,c,q⟩,cl⟩=>by
 subst ei ej
 cases hx;cases hy
 exact⟨i,j,rfl,rfl,c,cl _ G q H (Ext.refl H) rg _ (e H i j)⟩
theorem Ie{f:Value→Value→Sem Value}{g:Int→Int→V}{g':Int→Int→D}(h:OpR X f (rI0 g))(e:∀H i j,DV X.K H (g' i j) (g i j)):QOp X f (dI0 g'):=L2.OpR.imp h fun x y H Q ⟨dx,dy,G,Q',hx,hy,rg,⟨i,ei,j,ej,q⟩,cl⟩=>by
 subst ei ej
 cases hx;cases hy
 exact⟨i,j,rfl,rfl,cl _ G q H (Ext.refl H) rg _ (e H i j)⟩
theorem Hz:QOp X (binaryOp .Sub) (dI0 fun i j=>.int (i-j)):=Ie Ac0 fun _ _ _=>.int _
theorem H0:QOp X (binaryOp .Mult) (dI CMul fun i j=>.int (i*j)):=Uw Ac1 fun _ _ _=>.int _
theorem P8:QOp X (binaryOp .FloorDiv) (dI Px fun i j=>.int (i / j)):=Uw Z4 fun _ _ _=>.int _
theorem Nt:QOp X (binaryOp .Mod) (dI (fun _ j=>0<j) fun i j=>.int (i % j)):=Uw Ac2 fun _ _ _=>.int _
theorem o_lt:QOp X (compareOp .Lt) (dI0 fun i j=>.bl (decide (i<j))):=Ie op_lt fun _ _ _=>.bl _
theorem o_le:QOp X (compareOp .LtE) (dI0 fun i j=>.bl (decide (i≤j))):=Ie op_le fun _ _ _=>.bl _
theorem Yq:QOp X (compareOp .Gt) (dI0 fun i j=>.bl (decide (j<i))):=Ie op_gt fun _ _ _=>.bl _
theorem o_ge:QOp X (compareOp .GtE) (dI0 fun i j=>.bl (decide (j≤i))):=Ie op_ge fun _ _ _=>.bl _
end
end D3
namespace D3
open PySem PySem.Spec
open PyProof.Rows hiding St
open L2 hiding St
section
variable{K:W.Frag}
theorem RelG.lst{H:Hp}{G:Gp}(r:RelG K H G){p:Addr}{ds:List D}{xs:List V}(hp:H p=none)(rv:DVs K H ds xs):RelG K (upd H p (.lst xs)) (Ac G p (.lst ds)):=fun a o e=>by
 by_cases h:a=p
 ·subst h
  rw[Aa] at e;cases e
  exact⟨xs,Ar,rv.ext (Ext.fresh hp)⟩
 ·rw[Af h] at e
  exact(r a o e).upd (Ext.fresh hp) (.inl hp)
theorem D6{H:Hp}{p:Addr}{xs:List V}{o:HO}(h:H p=some (.lst xs)):Ext H (upd H p o):=Ext.write h (fun _ z=>nomatch z) fun _ _ z=>nomatch z
theorem RelG.lstw{H:Hp}{G:Gp}(r:RelG K H G){p:Addr}{ds:List D}{xs ys:List V}(hp:H p=some (.lst ys))(rv:DVs K H ds xs):RelG K (upd H p (.lst xs)) (Ac G p (.lst ds)):=fun a o e=>by
 by_cases h:a=p
 ·subst h
  rw[Aa] at e;cases e
  exact⟨xs,Ar,rv.ext (D6 hp)⟩
 ·rw[Af h] at e
  exact(r a o e).upd (D6 hp) (.inr h)
end
section
variable{X:Cx}{a b c e:Expr}{ta tb tc te:DTE}{pos:Pos}
def Bl(t:DTE):DTT:=fun σ G Q=>t σ G fun x G'=>∃k,x=.bl k∧Q k G'
theorem Lj{K:W.Frag}{t:DTE}{σ:St}{H:Hp}{Q:Bool→Hp→Prop}(h:Ds K (Bl t) σ H Q):By K t σ H fun x H'=>∃k,x=.bl k∧Q k H':=by
 obtain⟨σD,G,Q',rs,rg,h,cl⟩:=h
 refine⟨σD,G,_,rs,rg,h,fun d G' ⟨k,ek,q⟩ H' x r v dv=>?_⟩
 subst ek;cases dv
 exact⟨k,rfl,cl k G' q H' x r⟩
theorem q_cmp{op:CmpOp}{r:DR2}(ho:QOp X (compareOp op) r)(ha:QE X a ta)(hb:QE X b tb)(hm:behindInMarks op b=false):QE X (.Compare a [op] [b] pos) (nOp r ta tb):=(Z0 ho ha hb hm).imp fun _ _ _ h=>Hu h
theorem qt_cmp{op:CmpOp}{r:DR2}(ho:QOp X (compareOp op) r)(ha:QE X a ta)(hb:QE X b tb)(hm:behindInMarks op b=false):QT X (.Compare a [op] [b] pos) (Bl (nOp r ta tb)):=
 (Zo ho ha hb hm).imp fun _ _ _ h=>Hu (Lj h)
def E7(r r':DR2)(ta tb tc:DTE):DTE:=fun σ G Q=>ta σ G fun x G1=>tb σ G1 fun y G2=>r x y G2 fun z G3=>∃k,z=.bl k∧
 (if k=true then tc σ G3 fun w' G4=>r' y w' G4 Q else Q (.bl false) G3)
theorem Ju{K:W.Frag}{r r':DR2}{σ:St}{H:Hp}{Q:VK}(h:By K (E7 r r' ta tb tc) σ H Q):P1 (Kz K r) (Kz K r') (By K ta) (By K tb) (By K tc) σ H Q:=by
 obtain⟨σD,G,Q',rs,rg,h,cl⟩:=h
 refine⟨σD,G,_,rs,rg,h,fun x G1 h1 H1 x1 rg1 v1 d1=>?_⟩
 refine⟨σD,G1,_,rs.ext x1,rg1,h1,fun y G2 h2 H2 x2 rg2 v2 d2=>?_⟩
 refine⟨x,y,G2,_,d1.ext x2,d2,rg2,h2,fun z G3 h3 H3 x3 rg3 v3 d3=>?_⟩
 obtain⟨k,ek,h3⟩:=h3
 subst ek;cases d3
 refine⟨k,rfl,?_⟩
 cases k with
 |true=>
  rw[if_pos rfl] at h3 ⊢
  refine⟨σD,G3,_,rs.ext (x1.trans (x2.trans x3)),rg3,h3,fun w4 G4 h4 H4 x4 rg4 v4 d4=>?_⟩
  exact⟨y,w4,G4,Q',d2.ext (x3.trans x4),d4,rg4,h4,fun d G' q=>(cl d G' q).go (x1.trans (x2.trans (x3.trans x4)))⟩
 |false=>
  rw[if_neg Bool.false_ne_true] at h3 ⊢
  exact cl _ G3 h3 H3 (x1.trans (x2.trans x3)) rg3 _ (.bl false)
theorem Zm{op op':CmpOp}{r r':DR2}(ho:QOp X (compareOp op) r)(ho':QOp X (compareOp op') r')(ha:QE X a ta)(hb:QE X b tb)(hc:QE X c tc)(hm:lastMarks [op,op'] [b,c]=false:=by with_unfolding_all rfl):QE X (.Compare a [op,op'] [b,c] pos) (E7 r r' ta tb tc):=(W5 ho ho' ha hb hc hm).imp fun _ _ _ h=>Ju h
theorem qt_chain{op op':CmpOp}{r r':DR2}(ho:QOp X (compareOp op) r)(ho':QOp X (compareOp op') r')(ha:QE X a ta)(hb:QE X b tb)(hc:QE X c tc)(hm:lastMarks [op,op'] [b,c]=false:=by with_unfolding_all rfl):QT X (.Compare a [op,op'] [b,c] pos) (Bl (E7 r r' ta tb tc)):=(Ws ho ho' ha hb hc hm).imp fun _ _ _ h=>Ju (Lj h)

def eqS:D→D→Option Bool
 |.int i,.int j=>some (decide (i=j))
 |.bl i,.bl j=>some (decide (i=j))
 |.str i,.str j=>some (decide (i=j))
 |.non,.non=>some true
 |.non,.int _=>some false|.int _,.non=>some false|.non,.bl _=>some false|.bl _,.non=>some false|.non,.str _=>some false|.str _,.non=>some false
 |.int _,.str _=>some false|.str _,.int _=>some false|.bl _,.str _=>some false|.str _,.bl _=>some false
 |_,_=>none
theorem Ov{H:Hp}{K:W.Frag}{x y:D}{v u:V}{k:Bool}(h:eqS x y=some k)(hx:DV K H x v)(hy:DV K H y u):scal v u=true∧decide (v=u)=k:=by
 cases hx<;>cases hy<;>simp only[eqS,Option.some.injEq,reduceCtorEq] at h<;>subst h<;>refine⟨rfl,?_⟩<;>simp
def dEq:DR2:=fun x y G Q=>∃k,eqS x y=some k∧Q (.bl k) G
def dNe:DR2:=fun x y G Q=>∃k,eqS x y=some k∧Q (.bl (!k)) G
theorem Nj:QOp X (compareOp .Eq) dEq:=L2.OpR.imp op_eq fun x y H Q ⟨dx,dy,G,Q',hx,hy,rg,⟨k,ek,q⟩,cl⟩=>by
 obtain⟨h1,h2⟩:=Ov ek hx hy
 refine⟨h1,?_⟩
 rw[h2]
 exact cl _ G q H (Ext.refl H) rg _ (.bl k)
theorem o_ne:QOp X (compareOp .NotEq) dNe:=L2.OpR.imp op_ne fun x y H Q ⟨dx,dy,G,Q',hx,hy,rg,⟨k,ek,q⟩,cl⟩=>by
 obtain⟨h1,h2⟩:=Ov ek hx hy
 refine⟨h1,?_⟩
 rw[h2]
 exact cl _ G q H (Ext.refl H) rg _ (.bl (!k))
def isN:D→Bool
 |.non=>true
 |_=>false
theorem Vx{H:Hp}{K:W.Frag}{d:D}{v:V}(h:DV K H d v):decide (v=.non)=isN d:=by cases h<;>simp[isN]
theorem Uy:QOp X (compareOp .Is) (fun x y G Q=>y=.non∧Q (.bl (isN x)) G):=L2.OpR.imp Ac3 fun x y H Q ⟨dx,dy,G,Q',hx,hy,rg,⟨ey,q⟩,cl⟩=>by
 subst ey;cases hy
 refine⟨rfl,?_⟩
 rw[Vx hx]
 exact cl _ G q H (Ext.refl H) rg _ (.bl _)
theorem o_notN:QOp X (compareOp .IsNot) (fun x y G Q=>y=.non∧Q (.bl (!isN x)) G):=L2.OpR.imp Z3 fun x y H Q ⟨dx,dy,G,Q',hx,hy,rg,⟨ey,q⟩,cl⟩=>by
 subst ey;cases hy
 refine⟨rfl,?_⟩
 rw[Vx hx]
 exact cl _ G q H (Ext.refl H) rg _ (.bl _)

variable{t u:DTT}{rest:List Expr}
def Ys(t u:DTT):DTT:=fun σ G Q=>t σ G fun c G1=>if c=true then u σ G1 Q else Q false G1
def nOr(t u:DTT):DTT:=fun σ G Q=>t σ G fun c G1=>if c=true then Q true G1 else u σ G1 Q
def Ex(t:DTT):DTT:=fun σ G Q=>t σ G fun c G1=>Q (!c) G1
theorem qw_and1(ha:QT X a t):QW X (.BoolOp .And [a] pos) t:=Zn ha
theorem qw_or1(ha:QT X a t):QW X (.BoolOp .Or [a] pos) t:=Acf ha
theorem qw_and(ha:QT X a t)(hb:QW X (.BoolOp .And (b::rest) pos) u):QW X (.BoolOp .And (a::b::rest) pos) (Ys t u):=(Acg ha hb).imp fun σ H Q ⟨σD,G,Q',rs,rg,h,cl⟩=>by
 refine⟨σD,G,_,rs,rg,h,fun k G1 h1 H1 x1 rg1=>?_⟩
 cases k with
 |true=>rw[if_pos rfl] at h1 ⊢;exact⟨σD,G1,Q',rs.ext x1,rg1,h1,fun b G' q=>(cl b G' q).go x1⟩
 |false=>rw[if_neg Bool.false_ne_true] at h1 ⊢;exact cl _ G1 h1 H1 x1 rg1
theorem qw_or(ha:QT X a t)(hb:QW X (.BoolOp .Or (b::rest) pos) u):QW X (.BoolOp .Or (a::b::rest) pos) (nOr t u):=(pw_or ha hb).imp fun σ H Q ⟨σD,G,Q',rs,rg,h,cl⟩=>by
 refine⟨σD,G,_,rs,rg,h,fun k G1 h1 H1 x1 rg1=>?_⟩
 cases k with
 |true=>rw[if_pos rfl] at h1 ⊢;exact cl _ G1 h1 H1 x1 rg1
 |false=>rw[if_neg Bool.false_ne_true] at h1 ⊢;exact⟨σD,G1,Q',rs.ext x1,rg1,h1,fun b G' q=>(cl b G' q).go x1⟩
theorem qt_of(h:QW X e t):QT X e t:=h.pt
theorem qt_not(ha:QT X a t):QT X (.UnaryOp .Not a pos) (Ex t):=(Ach ha).imp fun σ H Q ⟨σD,G,Q',rs,rg,h,cl⟩=>
 ⟨σD,G,_,rs,rg,h,fun k G1 h1 H1 x1 rg1=>cl _ G1 h1 H1 x1 rg1⟩
def Nw(ta tb:DTE):DTE:=fun σ G Q=>ta σ G fun x G1=>∃c,x=.bl c∧if c=true then tb σ G1 Q else Q (.bl false) G1
def U0(ta:DTE):DTE:=fun σ G Q=>ta σ G fun x G1=>∃c,x=.bl c∧Q (.bl (!c)) G1
theorem q_one{op}(h:QE X a ta):QE X (.BoolOp op [a] pos) ta:=Acu h
theorem q_and(ha:QE X a ta)(hb:QE X (.BoolOp .And (b::rest) pos) tb):QE X (.BoolOp .And (a::b::rest) pos) (Nw ta tb):=(Acz ha hb).imp fun σ H Q ⟨σD,G,Q',rs,rg,h,cl⟩=>by
 refine⟨σD,G,_,rs,rg,h,fun d G1 ⟨k,ek,h1⟩ H1 x1 rg1 v dv=>?_⟩
 subst ek;cases dv
 refine⟨k,rfl,?_⟩
 cases k with
 |true=>rw[if_pos rfl] at h1 ⊢;exact⟨σD,G1,Q',rs.ext x1,rg1,h1,fun b G' q=>(cl b G' q).go x1⟩
 |false=>rw[if_neg Bool.false_ne_true] at h1 ⊢;exact cl _ G1 h1 H1 x1 rg1 _ (.bl false)
theorem q_not(ha:QE X a ta):QE X (.UnaryOp .Not a pos) (U0 ta):=(Acv ha).imp fun σ H Q ⟨σD,G,Q',rs,rg,h,cl⟩=>by
 refine⟨σD,G,_,rs,rg,h,fun d G1 ⟨k,ek,h1⟩ H1 x1 rg1 v dv=>?_⟩
 subst ek;cases dv
 exact⟨k,rfl,cl _ G1 h1 H1 x1 rg1 _ (.bl _)⟩
def nIf(t:DTT)(ta tb:DTE):DTE:=fun σ G Q=>t σ G fun c G1=>if c=true then ta σ G1 Q else tb σ G1 Q
theorem Rn(hc:QT X c t)(ha:QE X a ta)(hb:QE X b tb):QE X (.IfExp c a b pos) (nIf t ta tb):=(W4 hc ha hb).imp fun σ H Q ⟨σD,G,Q',rs,rg,h,cl⟩=>by
 refine⟨σD,G,_,rs,rg,h,fun k G1 h1 H1 x1 rg1=>?_⟩
 cases k with
 |true=>rw[if_pos rfl] at h1 ⊢;exact⟨σD,G1,Q',rs.ext x1,rg1,h1,fun b G' q=>(cl b G' q).go x1⟩
 |false=>rw[if_neg Bool.false_ne_true] at h1 ⊢;exact⟨σD,G1,Q',rs.ext x1,rg1,h1,fun b G' q=>(cl b G' q).go x1⟩
def Kg(G:Gp):D→Option Bool
 |.non=>some false
 |.bl b=>some b
 |.int i=>some (i != 0)
 |.str y=>if y.length≤sizeLine then some ((y.length:Int) != 0) else none
 |.tup ds=>some (!ds.isEmpty)
 |.lint ns=>some (!ns.isEmpty)
 |.ref a=>match G a with
  |some (.lst ds)=>some (!ds.isEmpty)
  |some (.dkk kvs)=>some (!kvs.isEmpty)
  |_=>none
 |_=>none
theorem isE{K:W.Frag}{H:Hp}{ds:List D}{vs:List V}(r:DVs K H ds vs):ds.isEmpty=vs.isEmpty:=by cases r<;>rfl
theorem Rc{K:W.Frag}{H:Hp}{G:Gp}{d:D}{v:V}{k:Bool}(rg:RelG K H G)(h:Kg G d=some k)(r:DV K H d v):Yv K v H k:=by
 cases r with
 |non=>cases h;rfl
 |bl b=>cases h;rfl
 |int i=>cases h;rfl
 |str y=>
  simp only[Kg] at h
  split at h
  ·rename_i hy;cases h;exact⟨hy,rfl⟩
  ·cases h
 |tup e r=>
  cases h
  exact .inr (.inl ⟨_,.inl (.inl e),by rw[isE r]⟩)
 |@lint ns a e=>
  cases h
  exact .inl ⟨_,e.sq,by cases ns<;>rfl⟩
 |ref a=>
  simp only[Kg] at h
  split at h
  ·rename_i ds q
   obtain⟨xs,e,r⟩:=rg a _ q
   cases h
   exact .inl ⟨xs,.inl (.inl e),by rw[isE r]⟩
  ·rename_i kvs q
   obtain⟨xs,e,r⟩:=rg a _ q
   cases h
   exact .inr (.inr ⟨xs,e,by cases r<;>rfl⟩)
  ·cases h
 |ty n=>cases h
def D4(t:DTE):DTT:=fun σ G Q=>t σ G fun x G'=>∃k,Kg G' x=some k∧Q k G'
theorem qt_tru(ha:QE X a ta)(he:∀whole,isTrue a X.env whole=(do let v ←whole;standAt a.pos;holding [v] (truthy v)):=by intro _;rfl):QT X a (D4 ta):=(Wr ha he).imp fun σ H Q ⟨σD,G,Q',rs,rg,h,cl⟩=>by
 refine⟨σD,G,_,rs,rg,h,fun d G1 ⟨k,ek,h1⟩ H1 x1 rg1 v dv=>?_⟩
 exact⟨k,Rc rg1 ek dv,cl _ G1 h1 H1 x1 rg1⟩

variable{es:List Expr}{tA:DTA}
def As:DTA:=fun _ G Q=>Q [] G
def Ag(ta:DTE)(tr:DTA):DTA:=fun σ G Q=>ta σ G fun x G1=>tr σ G1 fun xs G2=>Q (x::xs) G2
theorem qa_nil:QA X [] As:=pa_nil.imp fun σ H Q ⟨σD,G,Q',rs,rg,h,cl⟩=>cl _ G h H (Ext.refl H) rg _ .nil
theorem Rm(ha:QE X e te)(hr:QA X es tA)(hs:starEach (e::es) X.env=(false,eval e X.env)::starEach es X.env:=by rfl):QA X (e::es) (Ag te tA):=(Fr ha hr hs).imp fun σ H Q ⟨σD,G,Q',rs,rg,h,cl⟩=>by
 refine⟨σD,G,_,rs,rg,h,fun x G1 h1 H1 x1 rg1 v1 d1=>?_⟩
 refine⟨σD,G1,_,rs.ext x1,rg1,h1,fun ys G2 h2 H2 x2 rg2 v2 d2=>?_⟩
 exact cl _ G2 h2 H2 (x1.trans x2) rg2 _ (.cons (d1.ext x2) d2)
def L0(t:DTA):DTE:=fun σ G Q=>t σ G fun xs G1=>xs.length≤sizeLine∧Q (.tup xs) G1
def Ez(t:DTA):DTE:=fun σ G Q=>t σ G fun xs G1=>xs.length≤sizeLine∧∀p,G1 p=none→Q (.ref p) (Ac G1 p (.lst xs))
theorem Cp{x1}(h:QA X es tA):QE X (.Tuple es x1 pos) (L0 tA):=(Act h).imp fun σ H Q ⟨σD,G,Q',rs,rg,h,cl⟩=>by
 refine⟨σD,G,_,rs,rg,h,fun ds G1 ⟨hl,q⟩ H1 x1 rg1 vs dv=>⟨by rw[←dv.length];exact hl,fun p hp=>?_⟩⟩
 exact cl _ G1 q _ (x1.trans (Ext.fresh hp)) (rg1.tup hp) _ (.tup Ar (dv.ext (Ext.fresh hp)))
theorem Dh(h:QA X es tA):QE X (.List es pos) (Ez tA):=(Acw h).imp fun σ H Q ⟨σD,G,Q',rs,rg,h,cl⟩=>by
 refine⟨σD,G,_,rs,rg,h,fun ds G1 ⟨hl,q⟩ H1 x1 rg1 vs dv=>⟨by rw[←dv.length];exact hl,fun p hp=>?_⟩⟩
 exact cl _ _ (q p (rg1.free hp)) _ (x1.trans (Ext.fresh hp)) (rg1.lst hp dv) _ (.ref p)

def B5(G:Gp)(x:D)(i:Int):Option D:=match x with
 |.tup ds=>atI ds i
 |.lint ns=>atI (ns.map D.int) i
 |.ref a=>match G a with
  |some (.lst ds)=>atI ds i
  |_=>none
 |_=>none
theorem My{K:W.Frag}{H:Hp}{ds:List D}{vs:List V}{i:Int}{d:D}(r:DVs K H ds vs)(h:atI ds i=some d):∃v,atI vs i=some v∧DV K H d v:=by
 unfold atI at h ⊢
 rw[←r.length]
 cases e:ixN ds.length i with
 |none=>rw[e] at h;cases h
 |some j=>rw[e] at h;exact r.get h
def dIx:DR2:=fun x y G Q=>∃i,y=.int i∧∃d,B5 G x i=some d∧Q d G
theorem _root_.L2.IxR.imp{r r':R2}(h:IxR X r)(g:∀x y H Q,r' x y H Q→r x y H Q):IxR X r':=fun va sl pins s σ H x y v u Q I rx ry q hs=>h va sl pins s σ H x y v u Q I rx ry (g x y H Q q) hs
theorem o_ix:IxR X (Kz X.K dIx):=ix_seq.imp fun x y H Q ⟨dx,dy,G,Q',hx,hy,rg,⟨i,ei,d,ed,q⟩,cl⟩=>by
 subst ei;cases hy
 cases hx with
 |@tup ds a xs e r=>
  obtain⟨v,ev,dv⟩:=My r (show atI ds i=some d from ed)
  exact .inr (.inl ⟨a,xs,i,v,rfl,rfl,.inl (.inl e),ev,cl _ G q H (Ext.refl H) rg _ dv⟩)
 |@lint ns a e=>
  obtain⟨v,ev,dv⟩:=My (K:=X.K) (H:=H) DVs.ints (show atI (ns.map D.int) i=some d from ed)
  exact .inl ⟨a,_,i,v,rfl,rfl,e.sq,ev,cl _ G q H (Ext.refl H) rg _ dv⟩
 |ref a=>
  simp only[B5] at ed
  split at ed
  ·rename_i ds g
   obtain⟨xs,e,r⟩:=rg a _ g
   obtain⟨v,ev,dv⟩:=My r ed
   exact .inl ⟨a,xs,i,v,rfl,rfl,.inl (.inl e),ev,cl _ G q H (Ext.refl H) rg _ dv⟩
  ·cases ed
 |_=>cases ed
theorem q_ix(ha:QE X a ta)(hb:QE X b tb)(hs:Sj b:=by intro _ _;rfl):QE X (.Subscript a b pos) (nOp dIx ta tb):=(pe_ix o_ix ha hb hs).imp fun _ _ _ h=>Hu h
end
end D3
namespace D3
open PySem PySem.Spec
open PyProof.Rows hiding St
open L2 hiding St
section
variable{X:Cx}{a b c e:Expr}{ta tb tc te:DTE}{pos:Pos}{st:Stmt}{rest body orelse:List Stmt}{t u:DTS}
def Bm:DTS:=fun D σ G=>D.nx σ G
def Bk(t u:DTS):DTS:=fun D σ G=>t { D with nx:=u D } σ G
theorem qss_nil:QSs X [] Bm:=pss_nil.imp fun E σ H ⟨σD,G,D,rs,rg,h,cl⟩=>cl.nx σD G h H (Ext.refl H) rg σ rs
theorem Xn{K:W.Frag}{E:Ends}{σ:St}{H:Hp}(h:Ec K (Bk t u) E σ H):tSeq (Ec K t) (Ec K u) E σ H:=by
 obtain⟨σD,G,D,rs,rg,h,cl⟩:=h
 refine⟨σD,G,_,rs,rg,h,⟨fun σ1 G1 h1 H1 x1 rg1 σ' rs1=>⟨σ1,G1,D,rs1,rg1,h1,cl.go x1⟩,cl.rt,cl.bk,cl.ct⟩⟩
theorem qss_cons(h1:QS X st t)(h2:QSs X rest u):QSs X (st::rest) (Bk t u):=(Wu h1 h2).imp fun _ _ _ h=>Xn h
theorem qss_one(h1:QS X st t):QSs X [st] t:=Zp h1
def C4(te:DTE):DTS:=fun D σ G=>te σ G fun _ G1=>D.nx σ G1
theorem qs_expr(he:QE X e te)(hs:swapsWith e none pos.line X.env=pure false:=by rfl):QS X (.Expr e pos) (C4 te):=(Zs he hs).imp fun E σ H ⟨σD,G,D,rs,rg,h,cl⟩=>
 ⟨σD,G,_,rs,rg,h,fun d G1 h1 H1 x1 rg1 v dv=>cl.nx σD G1 h1 H1 x1 rg1 σ (rs.ext x1)⟩
def Bc(te:DTE):DTS:=fun D σ G=>te σ G D.rt
theorem qs_ret(he:QE X e te):QS X (.Return (some e) pos) (Bc te):=(Acj he).imp fun E σ H ⟨σD,G,D,rs,rg,h,cl⟩=>⟨σD,G,_,rs,rg,h,cl.rt⟩
def C1(c:DTT)(t u:DTS):DTS:=fun D σ G=>c σ G fun b G1=>if b=true then t D σ G1 else u D σ G1
theorem qs_if{tc:DTT}(hc:QT X c tc)(ha:QSs X body t)(hb:QSs X orelse u):QS X (.If c body orelse pos) (C1 tc t u):=(Abb hc ha hb).imp fun E σ H ⟨σD,G,D,rs,rg,h,cl⟩=>by
 refine⟨σD,G,_,rs,rg,h,fun k G1 h1 H1 x1 rg1=>?_⟩
 cases k with
 |true=>rw[if_pos rfl] at h1 ⊢;exact⟨σD,G1,D,rs.ext x1,rg1,h1,cl.go x1⟩
 |false=>rw[if_neg Bool.false_ne_true] at h1 ⊢;exact⟨σD,G1,D,rs.ext x1,rg1,h1,cl.go x1⟩
def Adc:DTS:=fun _ _ _=>False
theorem Oe:QS X st Adc:=ps_never.imp fun E σ H ⟨σD,G,D,rs,rg,h,cl⟩=>h
abbrev DTG:=D→DSt→Gp→(DSt→Gp→Prop)→Prop
abbrev Nn:=List D→DSt→Gp→(DSt→Gp→Prop)→Prop
def Di(K:PySem.W.Frag)(t:DTG):TG:=fun v σ H Q=>∃d σD G Q',DV K H d v∧RelS K H σD σ∧RelG K H G∧t d σD G Q'∧∀σD' G',Q' σD' G'→Fwd K H G' fun H'=>∀σ',RelS K H' σD' σ'→Q σ' H'
def Ade(K:PySem.W.Frag)(t:Nn):TGs:=fun vs σ H Q=>∃ds σD G Q',DVs K H ds vs∧RelS K H σD σ∧RelG K H G∧t ds σD G Q'∧∀σD' G',Q' σD' G'→Fwd K H G' fun H'=>∀σ',RelS K H' σD' σ'→Q σ' H'
def QG(X:Cx)(e:Expr)(g:DTG):Prop:=PG X e (Di X.K g)
def QGs(X:Cx)(es:List Expr)(g:Nn):Prop:=PGs X es (Ade X.K g)
theorem _root_.L2.PG.imp{X:Cx}{e:Expr}{t t':TG}(h:PG X e t)(f:∀v σ H Q,t' v σ H Q→t v σ H Q):PG X e t':=fun pins s σ H v u Q I r q=>h pins s σ H v u Q I r (f v σ H Q q)
theorem _root_.L2.PGs.imp{X:Cx}{e:List Expr}{t t':TGs}(h:PGs X e t)(f:∀v σ H Q,t' v σ H Q→t v σ H Q):PGs X e t':=fun pins s σ H v u Q I r q=>h pins s σ H v u Q I r (f v σ H Q q)
def Ao(i:Nat):DTG:=fun d σ G Q=>Q (σ.set i (some d)) G
theorem qg_name{i:Nat}{x:Str}(hN:X.N.Nodup)(hi:X.N[i]? = some x:=by rfl)(hx:Loc X.env.scope x:=by first|exact Or.inl rfl|exact Or.inr rfl)(hf:X.fn x=true∨X.env.scope.names.lookup x=some .local:=by first|exact .inl rfl|exact .inr rfl|assumption):QG X (.Name x pos) (Ao i):=
 (Zx hN hi hx hf).imp fun v σ H Q ⟨d,σD,G,Q',dv,rs,rg,h,cl⟩=>cl _ G h H (Ext.refl H) rg _ (rs.set dv i)
def Gd:Nn:=fun ds σ G Q=>ds=[]∧Q σ G
def Dr(t:DTG)(u:Nn):Nn:=fun ds σ G Q=>∃v r,ds=v::r∧t v σ G fun σ' G'=>u r σ' G' Q
theorem qgs_nil:QGs X [] Gd:=pgs_nil.imp fun v σ H Q ⟨d,σD,G,Q',dv,rs,rg,⟨e,h⟩,cl⟩=>by
 subst e;cases dv
 exact⟨rfl,cl _ G h H (Ext.refl H) rg _ rs⟩
theorem qgs_cons{es:List Expr}{t:DTG}{u:Nn}(h1:QG X e t)(h2:QGs X es u)(hs:(assignEach (e::es) X.env).map (·.2)=assign e X.env::(assignEach es X.env).map (·.2):=by rfl):QGs X (e::es) (Dr t u):=(W0 h1 h2 hs).imp fun v σ H Q ⟨d,σD,G,Q',dv,rs,rg,⟨d1,r,e,h⟩,cl⟩=>by
 subst e
 cases dv with
 |@cons _ v1 _ vs h1 t1=>
  refine⟨v1,vs,rfl,d1,σD,G,_,h1,rs,rg,h,fun σ1 G1 q1 H1 x1 rg1 σ' rs1=>?_⟩
  exact⟨r,σ1,G1,Q',t1.ext x1,rs1,rg1,q1,fun σ2 G2 q=>(cl σ2 G2 q).go x1⟩
def Gc(n:Nat)(t:Nn):DTG:=fun d σ G Q=>∃ds,d=.tup ds∧ds.length=n∧t ds σ G Q
theorem qg_tup{es:List Expr}{k:Nat}{t:Nn}{n:Nat}(hc:X.calm=true)(h:QGs X es t)(hn:(assignEach es X.env).length=n:=by rfl)(hst:(assignEach es X.env).findIdx? (·.1)=none:=by rfl):QG X (.Tuple es k pos) (Gc n t):=(Acp hc h hn hst).imp fun v σ H Q ⟨d,σD,G,Q',dv,rs,rg,⟨ds,e,hl,h⟩,cl⟩=>by
 subst e
 cases dv with
 |@tup _ a xs e r=>exact⟨a,xs,rfl,.inl (.inl e),by rw[←r.length];exact hl,ds,σD,G,Q',r,rs,rg,h,cl⟩
abbrev K4:=D→D→D→Gp→(Gp→Prop)→Prop
def Aap(K:PySem.W.Frag)(t:K4):Uq:=fun o i v H Q=>∃d1 d2 d3 G Q',DV K H d1 o∧DV K H d2 i∧DV K H d3 v∧RelG K H G∧t d1 d2 d3 G Q'∧∀G',Q' G'→Fwd K H G' Q
def QSet(X:Cx)(t:K4):Prop:=PSet X (Aap X.K t)
theorem _root_.L2.PSet.imp{X:Cx}{t t':Uq}(h:PSet X t)(f:∀o i v H Q,t' o i v H Q→t o i v H Q):PSet X t':=fun pins s σ H o i v ov iv u Q I r1 r2 r3 q=>h pins s σ H o i v ov iv u Q I r1 r2 r3 (f o i v H Q q)
def U5:K4:=fun o i v G Q=>∃p,o=.ref p∧∃k,i=.int k∧∃ds,G p=some (.lst ds)∧∃j,ixN ds.length k=some j∧Q (Ac G p (.lst (ds.set j v)))
theorem Ve:QSet X U5:=set_list.imp fun o i v H Q ⟨d1,d2,d3,G,Q',h1,h2,h3,rg,⟨p,e1,k,e2,ds,eg,j,ej,q⟩,cl⟩=>by
 subst e1 e2
 cases h1;cases h2
 obtain⟨xs,ex,r⟩:=rg p _ eg
 exact⟨p,xs,k,j,rfl,rfl,ex,by rw[←r.length];exact ej,cl _ q _ (D6 ex) (rg.lstw ex (r.set h3 j))⟩
def Yt(to ti:DTE)(t:K4):DTG:=fun v σ G Q=>to σ G fun o G1=>ti σ G1 fun i G2=>t o i v G2 fun G3=>Q σ G3
theorem P5{o i:Expr}{to ti:DTE}{t:K4}(ho:QE X o to)(hi:QE X i ti)(hs:QSet X t)(ha:∀v,assign (.Subscript o i pos) X.env v=(do
   let ov ←holding [v] (eval o X.env)
   let iv ←holding [v,ov] (eval i X.env)
   standAt pos
   holding [v,ov,iv] (setItem ov iv v)
   release [v,ov,iv] []):=by intro _;rfl):QG X (.Subscript o i pos) (Yt to ti t):=(Acq ho hi hs ha).imp fun v σ H Q ⟨d,σD,G,Q',dv,rs,rg,h,cl⟩=>by
 refine⟨σD,G,_,rs,rg,h,fun x G1 h1 H1 x1 rg1 v1 d1=>?_⟩
 refine⟨σD,G1,_,rs.ext x1,rg1,h1,fun y G2 h2 H2 x2 rg2 v2 d2=>?_⟩
 exact⟨x,y,d,G2,_,d1.ext x2,d2,dv.ext (x1.trans x2),rg2,h2,fun G3 q H3 x3 rg3=>cl σD G3 q H3 (x1.trans (x2.trans x3)) rg3 σ (rs.ext (x1.trans (x2.trans x3)))⟩
def Cg(te:DTE)(g:DTG):DTS:=fun D σ G=>te σ G fun x G1=>g x σ G1 D.nx
theorem Xo{K:W.Frag}{g:DTG}{E:Ends}{σ:St}{H:Hp}(h:Ec K (Cg te g) E σ H):Yk (By K te) (Di K g) E σ H:=by
 obtain⟨σD,G,D,rs,rg,h,cl⟩:=h
 refine⟨σD,G,_,rs,rg,h,fun d G1 h1 H1 x1 rg1 v dv=>?_⟩
 exact⟨d,σD,G1,_,dv,rs.ext x1,rg1,h1,fun σ2 G2 q=>(cl.go x1).nx σ2 G2 q⟩
theorem E5{tg:Expr}{g:DTG}(he:QE X e te)(hg:QG X tg g)(hs:swapsWithSole [tg] e pos.line X.env=pure false:=by rfl)(hw:swappedStores [tg] e X.env=pure none:=by rfl)(h1:(assignEach [tg] X.env).map (·.2)=[assign tg X.env]:=by rfl):QS X (.Assign [tg] e pos) (Cg te g):=(Acm he hg hs hw h1).imp fun _ _ _ h=>Xo h
theorem qs_set{i:Nat}{x:Str}{pos':Pos}(hN:X.N.Nodup)(he:QE X e te)(hi:X.N[i]? = some x:=by rfl)(hx:Loc X.env.scope x:=by first|exact Or.inl rfl|exact Or.inr rfl)(hs:swapsWith e (some (.Name x pos')) pos.line X.env=pure false:=by rfl)(hf:X.fn x=true∨X.env.scope.names.lookup x=some .local:=by first|exact .inl rfl|exact .inr rfl|assumption) :
  QS X (.Assign [.Name x pos'] e pos) (Cg te (Ao i)):=(Aci hN hi hx he hs hf).imp fun E σ H ⟨σD,G,D,rs,rg,h,cl⟩=>
 ⟨σD,G,_,rs,rg,h,fun d G1 h1 H1 x1 rg1 v dv=>cl.nx _ G1 h1 H1 x1 rg1 _ ((rs.ext x1).set dv i)⟩
def nPar(i j:Nat)(ta:DTA):DTS:=fun D σ G=>ta σ G fun vs G1=>∃v w,vs=[v,w]∧D.nx ((σ.set i (some v)).set j (some w)) G1
theorem Vi{i j:Nat}{x y:Str}{tA:DTA}{px py pt:Pos}{kt k2 pt2}(hc:X.calm=true)(hN:X.N.Nodup)(ha:QA X [a,b] tA)(hi:X.N[i]? = some x:=by rfl)(hj:X.N[j]? = some y:=by rfl)(hij:i≠j:=by decide)(hx:X.env.scope.names.lookup x=some .local:=by rfl)(hy:X.env.scope.names.lookup y=some .local:=by rfl)(hw:swappedStores [.Tuple [.Name x px,.Name y py] kt pt] (.Tuple [a,b] k2 pt2) X.env=pure (some [x,y]):=by rfl)(hs:swapsWithSole [.Tuple [.Name x px,.Name y py] kt pt] (.Tuple [a,b] k2 pt2) pos.line X.env=pure false:=by rfl) :
  QS X (.Assign [.Tuple [.Name x px,.Name y py] kt pt] (.Tuple [a,b] k2 pt2) pos) (nPar i j tA):=(Ack hc hN hi hj hij hx hy ha hw hs).imp fun E σ H ⟨σD,G,D,rs,rg,h,cl⟩=>by
 refine⟨σD,G,_,rs,rg,h,fun ds G1 ⟨d1,d2,e,h1⟩ H1 x1 rg1 vs dv=>?_⟩
 subst e
 obtain⟨v,w,rfl,r1,r2⟩:=dv.two
 exact⟨v,w,rfl,cl.nx _ G1 h1 H1 x1 rg1 _ (((rs.ext x1).set r1 i).set r2 j)⟩
def nAug(i:Nat)(te:DTE)(r:DR2):DTS:=fun D σ G=>∃x,σ[i]? = some (some x)∧te σ G fun y G1=>r x y G1 fun z G2=>D.nx (σ.set i (some z)) G2
def QIp(X:Cx)(op:Operator)(r:DR2):Prop:=PIp X op (Kz X.K r)
theorem Vz{op:Operator}{f:Int→Int→Int}(h:PIp X op (ipI f)):QIp X op (dI0 fun i j=>.int (f i j)):=fun pins s σ H x y v u Q I rx ry ⟨dx,dy,G,Q',hx,hy,rg,⟨i,ei,j,ej,q⟩,cl⟩=>by
 subst ei ej;cases hx;cases hy
 exact h pins s σ H _ _ v u Q I rx ry ⟨i,j,rfl,rfl,cl _ G q H (Ext.refl H) rg _ (.int _)⟩
theorem Adt:QIp X .Add (dI0 fun i j=>.int (i+j)):=Vz Adr
theorem Ads:QIp X .Sub (dI0 fun i j=>.int (i-j)):=Vz Adq
theorem Vj{i:Nat}{x:Str}{op:Operator}{r:DR2}{pos':Pos}(hN:X.N.Nodup)(ho:QIp X op r)(he:QE X e te)(hi:X.N[i]? = some x:=by rfl)(hx:Loc X.env.scope x:=by first|exact Or.inl rfl|exact Or.inr rfl)(hf:X.fn x=true∨X.env.scope.names.lookup x=some .local:=by first|exact .inl rfl|exact .inr rfl|assumption) :
  QS X (.AugAssign (.Name x pos') op e pos) (nAug i te r):=(Acl hN hi hx he ho hf).imp fun E σ H ⟨σD,G,D,rs,rg,⟨d,ed,h⟩,cl⟩=>by
 obtain⟨v,ev,dv⟩:=rs.2 i d ed
 refine⟨v,ev,σD,G,_,rs,rg,h,fun y G1 h1 H1 x1 rg1 v1 d1=>?_⟩
 exact⟨d,y,G1,_,dv.ext x1,d1,rg1,h1,fun z G2 q H2 x2 rg2 v2 d2=>cl.nx _ G2 q H2 (x1.trans x2) rg2 _ ((rs.ext (x1.trans x2)).set d2 i)⟩

def Sub(G G':Gp):Prop:=∀a o,G a=some o→G' a=some o
theorem Sub.refl(G:Gp):Sub G G:=fun _ _ h=>h
theorem Sub.trans{G G1 G2:Gp}(a:Sub G G1)(b:Sub G1 G2):Sub G G2:=fun c o h=>b c o (a c o h)
theorem Sub.new{G:Gp}{p:Addr}{o:GO}(h:G p=none):Sub G (Ac G p o):=fun a u e=>by rw[Af (gne e h)];exact e
theorem Sub.upd{G G':Gp}(s:Sub G G')(a:Addr)(o:GO):Sub (Ac G a o) (Ac G' a o):=fun b u e=>by
 by_cases h:b=a
 ·subst h;rw[Aa] at e ⊢;exact e
 ·rw[Af h] at e ⊢;exact s b u e
theorem Sub.none{G G':Gp}(s:Sub G G'){p:Addr}(h:G' p=Option.none):G p=Option.none:=by
 cases e:G p with
 |none=>rfl
 |some o=>rw[s p o e] at h;cases h
theorem Sub.skip{G G':Gp}(s:Sub G G'){p:Addr}{o:GO}(h:G' p=Option.none):Sub G (Ac G' p o):=s.trans (Sub.new h)
def Fs(P:DSt→Gp→Prop)(σ:DSt)(G:Gp):Prop:=∃G',Sub G' G∧P σ G'
theorem Fs.of{P:DSt→Gp→Prop}{σ:DSt}{G:Gp}(h:P σ G):Fs P σ G:=⟨G,Sub.refl G,h⟩
def Adb(c:DTT)(tb:DTS):DTS:=fun D σ G=>∃W:Nat→DSt→Gp→Prop,(∃m,W m σ G)∧∀m σ G,W m σ G→
 c σ G fun b G1=>if b=true then ∃N:DSt→Gp→Prop,(∀σ' G',N σ' G'→∃m',m'<m∧W m' σ' G')∧tb { D with nx:=Fs N,ct:=Fs N,bk:=D.nx } σ G1 else D.nx σ G1
theorem Wp{tc:DTT}{tb:DTS}(hp:PassesOwn (model X.prog X.w) X.A X.env X.xe)(hc:QT X c tc)(hb:QSs X body tb):QS X (.While c body [] pos) (Adb tc tb):=(Wv hp hc hb).imp fun E σ H ⟨σD,G,D,rs,rg,⟨W,⟨m0,w0⟩,turn⟩,cl⟩=>by
 refine⟨fun m σ' H'=>∃σD' G',RelS X.K H' σD' σ'∧RelG X.K H' G'∧Ext H H'∧W m σD' G',⟨m0,σD,G,rs,rg,Ext.refl H,w0⟩,?_⟩
 rintro m σ1 H1 ⟨σD1,G1,rs1,rg1,x1,w1⟩
 refine⟨σD1,G1,_,rs1,rg1,turn m σD1 G1 w1,fun k G2 h2 H2 x2 rg2=>?_⟩
 cases k with
 |true=>
  rw[if_pos rfl] at h2 ⊢
  obtain⟨N,hN,h2⟩:=h2
  refine⟨fun σ' H'=>∃σD' G',RelS X.K H' σD' σ'∧RelG X.K H' G'∧Ext H H'∧N σD' G',fun σ' H' ⟨σD',G',r1,r2,r3,n⟩=>?_,?_⟩
  ·obtain⟨m',hm,w'⟩:=hN σD' G' n
   exact⟨m',hm,σD',G',r1,r2,r3,w'⟩
  ·have xx:=x1.trans x2
   exact⟨σD1,G2,_,rs1.ext x2,rg2,h2,⟨fun s3 G3 ⟨G4,sb,n⟩ H3 x3 rg3 σ3 rs3=>⟨s3,G4,rs3,rg3.ext' sb,xx.trans x3,n⟩,(cl.go xx).rt,(cl.go xx).nx,fun s3 G3 ⟨G4,sb,n⟩ H3 x3 rg3 σ3 rs3=>⟨s3,G4,rs3,rg3.ext' sb,xx.trans x3,n⟩⟩⟩
 |false=>
  rw[if_neg Bool.false_ne_true] at h2 ⊢
  exact cl.nx _ G2 h2 H2 (x1.trans x2) rg2 _ (rs1.ext x2)

def Aq(G:Gp):D→Option (List D)
 |.tup ds=>some ds
 |.lint ns=>some (ns.map .int)
 |.ref a=>match G a with
  |some (.lst ds)=>some ds
  |_=>none
 |_=>none
def iSeq(K:PySem.W.Frag)(tl:TE):TI:=fun σ H R=>tl σ H fun x H1=>∃a,x=.ref a∧(((∃xs,SqL K H1 a xs)∧R (Itl K a) H1)∨((∃xs,SqT K H1 a xs)∧R (Itt K a) H1))
theorem L9{tg l:Expr}{tl:TE}(hl:PE X l tl):PI X tg l (iSeq X.K tl):=by
 intro pins s σ H R I h
 refine thn (hl pins s σ H _ I h) fun v s1 ⟨x,H1,I1,r1,q1⟩=>?_
 obtain⟨a,e,q1⟩:=q1
 subst e
 cases r1
 have fin:∀(b:Addr),b∈[s1.heap.objs.size]→Eb X pins H1 b:=fun b hb=>by
  have e:b=s1.heap.objs.size:=by simpa using hb
  subst e
  exact I1.fpOk (Nat.le_refl _) (I1.hok.fresh (Nat.le_refl _))
 rcases q1 with ⟨⟨xs,hq⟩,q⟩|⟨⟨xs,hq⟩,q⟩
 ·obtain⟨its,rv,p,hz⟩:=I1.list hq
  refine wpAny_pyIter_list p.isList ?_
  exact⟨s1.heap.objs.size,[s1.heap.objs.size],_,_,H1,rfl,I1.kept (t':=s1.toks) fun b o e=>Heap.get?_push_of_some _ e,So a _,⟨_,Heap.get?_push_size _ rfl,rfl,rfl⟩,fin,q⟩
 ·obtain⟨its,rv,p,hz⟩:=I1.tuple hq
  refine wpAny_pyIter_tuple (show s1.heap.IsTuple a its.toArray from p) ?_
  exact⟨s1.heap.objs.size,[s1.heap.objs.size],_,_,H1,rfl,I1.kept (t':=s1.toks) fun b o e=>Heap.get?_push_of_some _ e,Qa a _,⟨_,Heap.get?_push_size _ rfl,rfl,rfl⟩,fin,q⟩
structure Items(K:PySem.W.Frag)(J:It)(G:Gp)(H:Hp)(ds:List D):Prop where
 go:∀i,i<ds.length→J.go i H
 yl:∀i x H',i<ds.length→J.yld i H x H'→H'=H∧∃d,ds[i]? = some d∧DV K H d x
 st:J.stop ds.length H
theorem Lm{K:W.Frag}{H:Hp}{G:Gp}{a:Addr}{ds:List D}{xs:List V}(e:SqL K H a xs)(r:DVs K H ds xs):Items K (Itl K a) G H ds:=by
 refine⟨fun i hi=>?_,fun i x H' hi y=>?_,⟨xs,e,by rw[←r.length];exact Nat.le_refl _⟩⟩
 ·rw[r.length] at hi
  exact⟨xs,xs[i],e,by simp[hi]⟩
 ·obtain⟨e1,e2⟩:=y
  exact⟨e1,r.get' (e2 xs e)⟩
theorem Tq{K:W.Frag}{H:Hp}{G:Gp}{a:Addr}{ds:List D}{xs:List V}(e:H a=some (.tup xs))(r:DVs K H ds xs):Items K (Itt K a) G H ds:=by
 refine⟨fun i hi=>?_,fun i x H' hi y=>?_,⟨xs,.inl (.inl e),by rw[←r.length];exact Nat.le_refl _⟩⟩
 ·rw[r.length] at hi
  exact⟨xs,xs[i],.inl (.inl e),by simp[hi]⟩
 ·obtain⟨e1,e2⟩:=y
  exact⟨e1,r.get' (e2 xs (.inl (.inl e)))⟩
end
end D3
namespace D3
open PySem PySem.Spec
open PyProof.Rows hiding St
open L2 hiding St
section
variable{X:Cx}{a b c e:Expr}{ta tb tc te:DTE}{pos:Pos}{st:Stmt}{rest body orelse:List Stmt}{t u:DTS}
def jOf(K:PySem.W.Frag)(d:D)(a:Addr):It:=match d with
 |.tup _=>Itt K a
 |_=>Itl K a
theorem Ej{K:W.Frag}{H:Hp}{G:Gp}{d:D}{ds:List D}{a:Addr}(rg:RelG K H G)(h:Aq G d=some ds)(dv:DV K H d (.ref a)):Items K (jOf K d a) G H ds:=by
 cases dv with
 |tup e r=>cases h;exact Tq e r
 |lint e=>cases h;exact Lm e.sq DVs.ints
 |ref=>
  simp only[Aq] at h
  split at h
  ·rename_i ds' q
   cases h
   obtain⟨xs,e,r⟩:=rg a _ q
   exact Lm (.inl (.inl e)) r
  ·cases h
theorem F1{K:W.Frag}{H:Hp}{G:Gp}{d:D}{ds:List D}{v:V}(h:Aq G d=some ds)(dv:DV K H d v):∃a,v=.ref a:=by
 cases dv<;>first|exact⟨_,rfl⟩|cases h
def L4(ds:List D)(same:Gp→Prop)(g:DTG)(tb:DTS)(D:DEnds)(σ:DSt)(G:Gp):Prop:=∃P:Nat→DSt→Gp→Prop,P 0 σ G∧(∀i σ G,i≤ds.length→P i σ G→same G)∧
 (∀i x σ G,ds[i]? = some x→P i σ G→g x σ G fun σ2 G2=>tb { D with nx:=Fs (P (i+1)),ct:=Fs (P (i+1)),bk:=D.nx } σ2 G2)∧∀σ G,P ds.length σ G→D.nx σ G
theorem Go{K:W.Frag}{J:It}{ds:List D}{same:Gp→Prop}{g:DTG}{tb:DTS}{D:DEnds}{E:Ends}{σD:DSt}{σ:St}{G:Gp}{H:Hp}(rs:RelS K H σD σ)(rg:RelG K H G)(cl:D.Reach K H E)(hJ:∀H' G',Ext H H'→RelG K H' G'→same G'→Items K J G' H' ds)(h:L4 ds same g tb D σD G) :
  ∃W:Nat→Nat→St→Hp→Prop,(∃m,W 0 m σ H)∧∀i m σ H,W i m σ H→
   (J.stop i H∧E.nx σ H)∨(J.go i H∧∃N:St→Hp→Prop,(∀σ' H',N σ' H'→∃m',m'<m∧W (i+1) m' σ' H')∧∀x H',J.yld i H x H'→Di K g x σ H' fun σ2 H2=>Ec K tb { E with nx:=N,ct:=N,bk:=E.nx } σ2 H2):=by
 obtain⟨P,p0,keep,step,fin⟩:=h
 refine⟨fun i m σ' H'=>m=ds.length-i∧i≤ds.length∧∃σD' G',RelS K H' σD' σ'∧RelG K H' G'∧Ext H H'∧P i σD' G',⟨ds.length,rfl,Nat.zero_le _,σD,G,rs,rg,Ext.refl H,p0⟩,?_⟩
 rintro i m σ1 H1 ⟨rfl,hi,σD1,G1,rs1,rg1,x1,p1⟩
 have I:=hJ H1 G1 x1 rg1 (keep i σD1 G1 hi p1)
 by_cases hlt:i<ds.length
 ·refine .inr ⟨I.go i hlt,fun σ' H'=>∃σD' G',RelS K H' σD' σ'∧RelG K H' G'∧Ext H H'∧P (i+1) σD' G',fun σ' H' ⟨s2,G2,r1,r2,r3,p⟩=>⟨ds.length-(i+1),by omega,rfl,hlt,s2,G2,r1,r2,r3,p⟩,fun x H' y=>?_⟩
  obtain⟨e,d,ed,dv⟩:=I.yl i x H' hlt y
  subst e
  refine⟨d,σD1,G1,_,dv,rs1,rg1,step i d σD1 G1 ed p1,fun σ2 G2 h2 H2 x2 rg2 σ' rs2=>?_⟩
  have xx:=x1.trans x2
  exact⟨σ2,G2,_,rs2,rg2,h2,⟨fun s3 G3 ⟨G4,sb,n⟩ H3 x3 rg3 σ3 rs3=>⟨s3,G4,rs3,rg3.ext' sb,xx.trans x3,n⟩,(cl.go xx).rt,(cl.go xx).nx,fun s3 G3 ⟨G4,sb,n⟩ H3 x3 rg3 σ3 rs3=>⟨s3,G4,rs3,rg3.ext' sb,xx.trans x3,n⟩⟩⟩
 ·have e:i=ds.length:=by omega
  subst e
  exact .inl ⟨I.st,cl.nx _ G1 (fin σD1 G1 p1) H1 x1 rg1 _ rs1⟩
def Pt(te:DTE)(g:DTG)(tb:DTS):DTS:=fun D σ G=>te σ G fun d G1=>∃ds,Aq G1 d=some ds∧L4 ds (fun G'=>Aq G' d=some ds) g tb D σ G1
theorem Gh{tg iter:Expr}{g:DTG}{tb:DTS}(hp:PassesOwn (model X.prog X.w) X.A X.env X.xe)(hc:X.calm=true)(hi:QE X iter te)(hg:QG X tg g)(hb:QSs X body tb)(hs:∀x,foldedSetIterable iter X.env x=pure x:=by intro _;rfl):QS X (.For tg iter body [] pos) (Pt te g tb):=(Gi hp hc (L9 hi) hg hb hs).imp fun E σ H ⟨σD,G,D,rs,rg,h,cl⟩=>by
 refine⟨σD,G,_,rs,rg,h,fun d G1 ⟨ds,ei,L⟩ H1 x1 rg1 v dv=>?_⟩
 obtain⟨a,rfl⟩:=F1 ei dv
 refine⟨a,rfl,?_⟩
 have lp:=Go (J:=jOf X.K d a) (rs.ext x1) rg1 (cl.go x1) (fun H' G' x' rg' s'=>Ej rg' s' (dv.ext x')) L
 have I0:=Ej rg1 ei dv
 cases dv with
 |tup e r=>exact .inr ⟨⟨_,.inl (.inl e)⟩,lp⟩
 |lint e=>exact .inl ⟨⟨_,e.sq⟩,lp⟩
 |ref=>
  simp only[Aq] at ei
  split at ei
  ·rename_i ds' q
   obtain⟨xs,e,r⟩:=rg1 a _ q
   exact .inl ⟨⟨_,.inl (.inl e)⟩,lp⟩
  ·cases ei
def Pp(n:Nat):List D:=(List.range n).map fun i=>D.int (i:Nat)
theorem Bs(n:Nat):(Pp n).length=n:=by simp[Pp]
theorem Ee{n i:Nat}(h:i<n):(Pp n)[i]? = some (.int (i:Nat)):=by simp[Pp,h]
def Nv(tA:DTA)(g:DTG)(tb:DTS):DTS:=fun D σ G=>tA σ G fun ds G1=>∃j,ds=[.int j]∧(-(2 ^ 62)≤j∧j<2 ^ 62)∧L4 (Pp j.toNat) (fun _=>True) g tb D σ G1
theorem Hs{tg:Expr}{g:DTG}{tb:DTS}{tA:DTA}{p p2:Pos}(hp:PassesOwn (model X.prog X.w) X.A X.env X.xe)(hc:X.calm=true)(hm:X.mg "range" = none)(ha:QA X [a] tA)(hg:QG X tg g)(hb:QSs X body tb)(hgl:Gl X "range":=by rfl)(hst:starEach [a] X.env=[(false,eval a X.env)]:=by rfl)(hs:∀x,foldedSetIterable (.Call (.Name "range" p) [a] [] p2) X.env x=pure x:=by intro _;rfl) :
  QS X (.For tg (.Call (.Name "range" p) [a] [] p2) body [] pos) (Nv tA g tb):=(Gi hp hc (Lh hgl hm ha hst) hg hb hs).imp fun E σ H ⟨σD,G,D,rs,rg,h,cl⟩=>by
 refine⟨σD,G,_,rs,rg,h,fun ds G1 ⟨j,ej,⟨j1,j2⟩,L⟩ H1 x1 rg1 vs dv=>?_⟩
 subst ej
 obtain⟨v,rfl,r⟩:=dv.one
 cases r
 refine⟨j,rfl,j1,j2,Go (J:=Itr 0 j.toNat) (rs.ext x1) rg1 (cl.go x1) (fun H' G' x' rg' _=>?_) L⟩
 refine⟨fun i hi=>by rw[Bs] at hi;exact hi,fun i x H2 hi y=>?_,by show j.toNat≤_;rw[Bs];exact Nat.le_refl _⟩
 rw[Bs] at hi
 obtain⟨e1,e2⟩:=y
 refine⟨e1,_,Ee hi,?_⟩
 rw[e2,Int.zero_add]
 exact .int _

abbrev DX:=Value→Gp→Prop
abbrev DSp:=List D→Gp→DK→DX→Prop
def U2(K:PySem.W.Frag)(E:DX):XK:=fun c _ H'=>∃G',RelG K H' G'∧E c G'
def Al(K:PySem.W.Frag)(sp:DSp):Sp:=fun vs H Q E=>∃ds G Q' E',DVs K H ds vs∧RelG K H G∧sp ds G Q' E'∧(∀d G',Q' d G'→Fwd K H G' fun H'=>∀v,DV K H' d v→Q v H')∧∀c G',E' c G'→Fwd K H G' fun H'=>∀ad,E c ad H'
structure Def(P:Program)(w:World)(K:PySem.W.Frag)(mg:Str→Option Value)(base:Heap)(CX:CXT)(k:Nat)(x:Str)(ps:List Str)(sp:DSp):Prop where
 ex:∃f fd,FnOk P w K mg base CX k f fd ps (Al K sp)∧mg x=some (.ref f)∧PySem.W.keepIn K (.ref f)=true∧Binds K fd ps []
def A0(sp:DSp)(E:DX)(t:DTA):DTE:=fun σ G Q=>t σ G fun ds G1=>sp ds G1 Q E
abbrev noX:DX:=fun _ _=>False
theorem q_call{CX:CXT}{k:Nat}{x:Str}{ps:List Str}{sp:DSp}{E:DX}{es:List Expr}{p:Pos}{tA:DTA}(F:Def X.prog X.w X.K X.mg X.base CX k x ps sp)(hr:Room k X.A)(hx:Mc CX X (U2 X.K E))(ha:QA X (e::es) tA)(hg:Gl X x:=by rfl)(hdb:(x == ("__debug__" : Str))=false:=by decide)(he:starEach (e::es) X.env=(false,eval e X.env)::starEach es X.env:=by rfl)(hpl:(backTo pos (starEach es X.env)).any (·.1)=false:=by rfl) :
  QE X (.Call (.Name x p) (e::es) [] pos) (A0 sp E tA):=by
 obtain⟨f,fd,F,hm,hk,hb⟩:=F.ex
 refine(Z1 (ds:=[]) (dvs:=[]) F hr hg hm hk hb .nil hx ha hdb he hpl).imp fun σ H Q ⟨σD,G,Q',rs,rg,h,cl⟩=>?_
 refine⟨σD,G,_,rs,rg,h,fun ds G1 h1 H1 x1 rg1 vs dv=>?_⟩
 show Al X.K sp (vs++[]) H1 Q (U2 X.K E)
 rw[List.append_nil]
 exact⟨ds,G1,Q',E,dv,rg1,h1,fun d G' q=>(cl d G' q).go x1,fun c G' q H2 x2 rg2 ad=>⟨G',rg2,q⟩⟩
theorem passN{E:DX}:Mc CX0 X (U2 X.K E):=fun _ _ _ _ _ _ _ h=>h.elim

def An(N:List Str)(ds:List D):DSt:=ds.map some++List.replicate (N.length-ds.length) none
def Fq(Q:DK)(d:D)(G:Gp):Prop:=∃G',Sub G' G∧Q d G'
theorem Fq.of{Q:DK}{d:D}{G:Gp}(h:Q d G):Fq Q d G:=⟨G,Sub.refl G,h⟩
theorem Su{K:W.Frag}{H:Hp}{N:List Str}{ds:List D}{vs:List V}(r:DVs K H ds vs):RelS K H (An N ds) (L2.start N vs):=by
 have hl:=r.length
 refine⟨by simp[An,L2.start,hl],fun i d e=>?_⟩
 unfold An at e
 unfold L2.start
 by_cases hi:i<ds.length
 ·rw[List.getElem?_append_left (by simpa using hi),List.getElem?_map] at e
  rw[List.getElem?_append_left (by simpa[←hl] using hi),List.getElem?_map]
  cases q:ds[i]? with
  |none=>rw[q] at e;cases e
  |some d'=>
   rw[q] at e;cases e
   obtain⟨v,ev,dv⟩:=r.get q
   exact⟨v,by rw[ev];rfl,dv⟩
 ·rw[List.getElem?_append_right (by simpa using hi),List.getElem?_replicate] at e
  split at e<;>cases e
section
variable{P:Program}{w:World}{K:W.Frag}{mg:Str→Option Value}{base:Heap}
theorem okD{x qual:Str}{st:Stmt}{f:Addr}{fd:FuncData}{N ps:List Str}{k:Nat}{sp:DSp}(F:Fun K x qual st f fd)(S:FnScope N ps (Ad st))(len:∀ds G Q E,sp ds G Q E→ds.length=ps.length)(hbody:∀(cdv:Value) (A:Around) (outer:List Env) (s:Shared) (H:Hp) (XE:XK) (ds:List D) (G:Gp) (Q:DK) (E:DX),Room k (A.deeper (envOfC qual (Ad st) s.heap.objs.size f cdv))→sp ds G Q E→
   ∃t,QSs (Pw CX0 P w K mg base N qual (Ad st) f cdv A outer s H XE).nox (D7 st) t∧t { nx:=fun _ G'=>Fq Q .non G',rt:=Fq Q } (An N ds) G):FnOk P w K mg base CX0 (k+1) f fd ps (Al K sp):=by
 refine F.ok S (fun vs H Q E ⟨ds,G,Q',E',dv,rg,h,_⟩=>by rw[←dv.length];exact len ds G Q' E' h) fun cdv A outer s H vs Q E hr ⟨ds,G,Q',E',dv,rg,h,cl,_⟩=>?_
 obtain⟨t,ht,hq⟩:=hbody cdv A outer s H E ds G Q' E' hr h
 refine⟨_,ht,An N ds,G,_,Su dv,rg,hq,⟨fun σD G1 ⟨G2,sb,q⟩ H1 x1 rg1 σ rs=>cl _ G2 q H1 x1 (rg1.ext' sb) _ .non,fun d G1 ⟨G2,sb,q⟩ H1 x1 rg1 v dv=>cl _ G2 q H1 x1 (rg1.ext' sb) _ dv,fun _ _ z=>z.elim,fun _ _ z=>z.elim⟩⟩
end
abbrev DRC:=List D→Gp→DK→Prop
def Abi(K:PySem.W.Frag)(r:DRC):List V→Hp→VK→Prop:=fun xs H Q=>∃ds G Q',DVs K H ds xs∧RelG K H G∧r ds G Q'∧∀d G',Q' d G'→Fwd K H G' fun H'=>∀v,DV K H' d v→Q v H'
def QC(X:Cx)(f:Value)(r:DRC):Prop:=CallR X f (Abi X.K r)
theorem _root_.L2.CallR.imp{f:Value}{r r':List V→Hp→VK→Prop}(h:CallR X f r)(g:∀xs H Q,r' xs H Q→r xs H Q):CallR X f r':=fun pins s σ H xs us Q I rx q=>h pins s σ H xs us Q I rx (g xs H Q q)
def nCB(r:DRC)(t:DTA):DTE:=fun σ G Q=>t σ G fun vs G1=>r vs G1 Q
theorem Rt{K:W.Frag}{r:DRC}{tA:DTA}{σ:St}{H:Hp}{Q:VK}(h:By K (nCB r tA) σ H Q):tCB (Abi K r) (U3 K tA) σ H Q:=by
 obtain⟨σD,G,Q',rs,rg,h,cl⟩:=h
 exact⟨σD,G,_,rs,rg,h,fun ds G1 h1 H1 x1 rg1 vs dv=>⟨ds,G1,Q',dv,rg1,h1,fun d G' q=>(cl d G' q).go x1⟩⟩
theorem q_callB{x:Str}{id:String}{r:DRC}{es:List Expr}{p:Pos}{tA:DTA}(hc:QC X (.builtin id) r)(hm:X.mg x=none)(hv:bootBuiltins x=some (.builtin id))(ha:QA X (e::es) tA)(hg:Gl X x:=by rfl)(hn:x≠"__name__":=by decide)(hdb:(x == ("__debug__" : Str))=false:=by decide)(he:starEach (e::es) X.env=(false,eval e X.env)::starEach es X.env:=by rfl)(hpl:(backTo pos (starEach es X.env)).any (·.1)=false:=by rfl):QE X (.Call (.Name x p) (e::es) [] pos) (nCB r tA):=(Iv hc hg hm hv ha hn hdb he hpl).imp fun _ _ _ h=>Rt h
theorem q_callTy{x:Str}{T:String}{r:DRC}{es:List Expr}{p:Pos}{tA:DTA}(hc:QC X (.type T) r)(hm:X.mg x=none)(hv:bootBuiltins x=some (.type T))(ha:QA X (e::es) tA)(hg:Gl X x:=by rfl)(hn:x≠"__name__":=by decide)(hdb:(x == ("__debug__" : Str))=false:=by decide)(he:starEach (e::es) X.env=(false,eval e X.env)::starEach es X.env:=by rfl)(hpl:(backTo pos (starEach es X.env)).any (·.1)=false:=by rfl):QE X (.Call (.Name x p) (e::es) [] pos) (nCB r tA):=(Li hc hg hm hv ha hn hdb he hpl).imp fun _ _ _ h=>Rt h
theorem U7:QC X (.builtin "abs") (fun ds G Q=>∃i,ds=[.int i]∧Q (.int (if i<0 then -i else i)) G):=call_abs.imp fun xs H Q ⟨ds,G,Q',dv,rg,⟨i,e,q⟩,cl⟩=>by
 subst e
 obtain⟨v,rfl,r⟩:=dv.one
 cases r
 exact⟨i,rfl,cl _ G q H (Ext.refl H) rg _ (.int _)⟩
theorem Ad1(hc:X.calm=true):QC X (.builtin "max") (fun ds G Q=>∃i j,ds=[.int i,.int j]∧Q (.int (if j>i then j else i)) G):=(T6 hc).imp fun xs H Q ⟨ds,G,Q',dv,rg,⟨i,j,e,q⟩,cl⟩=>by
 subst e
 obtain⟨v,w,rfl,r,r'⟩:=dv.two
 cases r;cases r'
 exact⟨i,j,rfl,cl _ G q H (Ext.refl H) rg _ (.int _)⟩
theorem Ad0(hc:X.calm=true):QC X (.builtin "min") (fun ds G Q=>∃i j,ds=[.int i,.int j]∧Q (.int (if j<i then j else i)) G):=(T5 hc).imp fun xs H Q ⟨ds,G,Q',dv,rg,⟨i,j,e,q⟩,cl⟩=>by
 subst e
 obtain⟨v,w,rfl,r,r'⟩:=dv.two
 cases r;cases r'
 exact⟨i,j,rfl,cl _ G q H (Ext.refl H) rg _ (.int _)⟩
theorem X6:QC X (.builtin "divmod") (fun ds G Q=>∃i j,ds=[.int i,.int j]∧Px i j∧Q (.tup [.int (i / j),.int (i % j)]) G):=call_divmod.imp fun xs H Q ⟨ds,G,Q',dv,rg,⟨i,j,e,hc,q⟩,cl⟩=>by
 subst e
 obtain⟨v,w,rfl,r,r'⟩:=dv.two
 cases r;cases r'
 refine⟨i,j,rfl,hc,fun p hp=>?_⟩
 exact cl _ G q _ (Ext.fresh hp) (rg.tup hp) _ (.tup Ar (.cons (.int _) (.cons (.int _) .nil)))
def Hi(G:Gp):D→Option Nat
 |.tup ds=>some ds.length
 |.lint ns=>some ns.length
 |.str y=>if y.length≤sizeLine then some y.length else none
 |.ref a=>match G a with
  |some (.lst ds)=>some ds.length
  |_=>none
 |_=>none
theorem c_len:QC X (.builtin "len") (fun ds G Q=>∃d,ds=[d]∧∃n,Hi G d=some n∧Q (.int (n:Nat)) G):=call_len.imp fun xs H Q ⟨ds,G,Q',dv,rg,⟨d,e,n,en,q⟩,cl⟩=>by
 subst e
 obtain⟨v,rfl,r⟩:=dv.one
 refine⟨v,n,rfl,?_,cl _ G q H (Ext.refl H) rg _ (.int _)⟩
 cases r with
 |tup e r=>cases en;exact .inr ⟨_,.inl (.inl e),r.length⟩
 |@lint ns a e=>cases en;exact .inl ⟨_,e.sq,by simp⟩
 |str y=>
  simp only[Hi] at en
  split at en
  ·rename_i hy;cases en;exact⟨hy,rfl⟩
  ·cases en
 |ref a=>
  simp only[Hi] at en
  split at en
  ·rename_i ds g
   cases en
   obtain⟨xs,e,r⟩:=rg a _ g
   exact .inl ⟨xs,.inl (.inl e),r.length⟩
  ·cases en
 |_=>cases en
theorem c_tuple:QC X (.type "tuple") (fun ds G Q=>∃d,ds=[d]∧∃es,Aq G d=some es∧Q (.tup es) G):=call_tuple_of.imp fun xs H Q ⟨ds,G,Q',dv,rg,⟨d,e,es,en,q⟩,cl⟩=>by
 subst e
 obtain⟨v,rfl,r⟩:=dv.one
 cases r with
 |tup e r=>cases en;exact⟨_,_,rfl,.inr ⟨.inl (.inl e),cl _ G q H (Ext.refl H) rg _ (.tup e r)⟩⟩
 |@lint ns a e=>cases en;exact⟨_,_,rfl,.inl ⟨e.sq,fun p hp=>cl _ G q _ (Ext.fresh hp) (rg.tup hp) _ (.tup Ar DVs.ints)⟩⟩
 |ref a=>
  simp only[Aq] at en
  split at en
  ·rename_i ds g
   cases en
   obtain⟨xs,e,r⟩:=rg a _ g
   exact⟨a,xs,rfl,.inl ⟨.inl (.inl e),fun p hp=>cl _ G q _ (Ext.fresh hp) (rg.tup hp) _ (.tup Ar (r.ext (Ext.fresh hp)))⟩⟩
  ·cases en
 |_=>cases en
def Nk(to:DTE)(ta:DTE):DTE:=fun σ G Q=>to σ G fun x G1=>∃p,x=.ref p∧(∃ds,G1 p=some (.lst ds))∧ta σ G1 fun y G2=>∃ds,G2 p=some (.lst ds)∧ds.length<sizeLine∧Q .non (Ac G2 p (.lst (ds++[y])))
theorem q_app{o:Expr}{to:DTE}{apos cpos:Pos}(ho:QE X o to)(ha:QE X e ta)(hbase:attributeBase o "append" X.env (eval o X.env)=eval o X.env:=by rfl)(hfew:((backTo cpos (starEach [e] X.env)).all (fun x=>!x.1)&&(backToKw cpos (keywordEach [] X.env)).all (fun x=>x.1.isSome)
   && decide (([e]:List Expr).length+([]:List Keyword).length+(if ([]:List Keyword).isEmpty then 0 else 1)<30))=true:=by rfl)(hline:(apos.endLine == cpos.line)=true:=by rfl)(hs:starEach [e] X.env=(false,eval e X.env)::starEach [] X.env:=by rfl)(hplain:(backTo cpos (starEach [] X.env)).any (·.1)=false:=by rfl) :
  QE X (.Call (.Attribute o "append" apos) [e] [] cpos) (Nk to ta):=
 (pe_bm PySem.F.plainAttrs_list PySem.F.slot_list_append PySem.F.type_list_append Gn ho (Rm ha qa_nil hs) hbase hfew hline hs hplain).imp fun σ H Q ⟨σD,G,Q',rs,rg,h,cl⟩=>by
 refine⟨σD,G,_,rs,rg,h,fun d G1 ⟨p,ep,⟨ds,eg⟩,h1⟩ H1 x1 rg1 v dv=>?_⟩
 subst ep;cases dv
 obtain⟨xs,ex,r⟩:=rg1 p _ eg
 refine⟨.inl ⟨rfl,xs,.inl (.inl ex)⟩,σD,G1,fun ds' G2=>∃y,ds'=[y]∧∃ds,G2 p=some (.lst ds)∧ds.length<sizeLine∧Q' .non (Ac G2 p (.lst (ds++[y]))),rs.ext x1,rg1,?_,?_⟩
 ·show ta σD G1 fun x G1=>As σD G1 fun xs G2=>_
  exact cast (by congr 1;funext y G2;simp[As]) h1
 ·rintro ds' G2 ⟨y,rfl,ds2,eg2,hl,q⟩ H2 x2 rg2 vs dvs
  obtain⟨v,rfl,dv⟩:=dvs.one
  obtain⟨xs2,ex2,r2⟩:=rg2 p _ eg2
  exact⟨p,xs2,v,rfl,rfl,ex2,by rw[←r2.length];exact hl,cl _ _ q _ ((x1.trans x2).trans (D6 ex2)) (rg2.lstw ex2 (r2.append (.cons dv .nil))) _ .non⟩
end
end D3
namespace D3
open PySem PySem.Spec
open PyProof.Rows hiding St
open L2 hiding St
theorem Df{n:Nat}{g:DTG}{tb:DTS}{D:DEnds}{σ:DSt}{G:Gp}(P:Nat→DSt→Gp→Prop)(h0:P 0 σ G)(hs:∀i σ G,i<n→P i σ G→g (.int (i:Nat)) σ G fun σ2 G2=>tb { D with nx:=Fs (P (i+1)),ct:=Fs (P (i+1)),bk:=D.nx } σ2 G2)(hd:∀σ G,P n σ G→D.nx σ G):L4 (Pp n) (fun _=>True) g tb D σ G:=by
 refine⟨P,h0,fun _ _ _ _ _=>trivial,fun i x σ G hx p=>?_,fun σ G p=>hd σ G (by rw[Bs] at p;exact p)⟩
 have hi:i<n:=by
  have:=(List.getElem?_eq_some_iff.mp hx).1
  rw[Bs] at this;exact this
 rw[Ee hi] at hx
 cases hx
 exact hs i σ G hi p
theorem q_globx{X:Cx}{x:Str}{i:Int}{pos:Pos}(hm:∃t,X.mg x=some (.int i t))(hg:Gl X x:=by rfl)(hd:(x == ("__debug__" : Str))=false:=by decide):QE X (.Name x pos) (nC (.int i)):=
 let ⟨_,h⟩:=hm;Acd h hg hd
theorem it0{P:Prop}[Decidable P]{A B:Prop}(h:P)(a:A):if P then A else B:=by rw[if_pos h];exact a
theorem it1{P:Prop}[Decidable P]{A B:Prop}(h:¬P)(b:B):if P then A else B:=by rw[if_neg h];exact b
theorem exI{p:Int→Prop}{j:Int}:(∃i,D.int j=D.int i∧p i)↔p j:=⟨fun⟨i,e,h⟩=>by cases e;exact h,fun h=>⟨j,rfl,h⟩⟩
theorem exB{p:Bool→Prop}{j:Bool}:(∃i,D.bl j=D.bl i∧p i)↔p j:=⟨fun⟨i,e,h⟩=>by cases e;exact h,fun h=>⟨j,rfl,h⟩⟩
theorem exR{p:Addr→Prop}{j:Addr}:(∃i,D.ref j=D.ref i∧p i)↔p j:=⟨fun⟨i,e,h⟩=>by cases e;exact h,fun h=>⟨j,rfl,h⟩⟩
theorem exT{p:List D→Prop}{j:List D}:(∃i,D.tup j=D.tup i∧p i)↔p j:=⟨fun⟨i,e,h⟩=>by cases e;exact h,fun h=>⟨j,rfl,h⟩⟩
theorem exS{α:Type}{p:α→Prop}{j:α}:(∃i,some j=some i∧p i)↔p j:=⟨fun⟨i,e,h⟩=>by cases e;exact h,fun h=>⟨j,rfl,h⟩⟩
theorem exSS{α:Type}{p:α→Prop}{j:α}:(∃i,some (some j)=some (some i)∧p i)↔p j:=⟨fun⟨i,e,h⟩=>by cases e;exact h,fun h=>⟨j,rfl,h⟩⟩
theorem ex1{p:D→Prop}{j:D}:(∃i,[j]=[i]∧p i)↔p j:=⟨fun⟨i,e,h⟩=>by cases e;exact h,fun h=>⟨j,rfl,h⟩⟩
theorem ex1I{p:Int→Prop}{j:Int}:(∃i,[D.int j]=[D.int i]∧p i)↔p j:=⟨fun⟨i,e,h⟩=>by cases e;exact h,fun h=>⟨j,rfl,h⟩⟩
theorem ex2{p:D→D→Prop}{j k:D}:(∃x y,[j,k]=[x,y]∧p x y)↔p j k:=⟨fun⟨_,_,e,h⟩=>by cases e;exact h,fun h=>⟨j,k,rfl,h⟩⟩
theorem ex2I{p:Int→Int→Prop}{j k:Int}:(∃x y,[D.int j,D.int k]=[D.int x,D.int y]∧p x y)↔p j k:=⟨fun⟨_,_,e,h⟩=>by cases e;exact h,fun h=>⟨j,k,rfl,h⟩⟩
theorem Bh{ds:List D}{same:Gp→Prop}{g:DTG}{tb:DTS}{D:DEnds}{σ:DSt}{G:Gp}(P:Nat→DSt→Gp→Prop)(h0:P 0 σ G)(hk:∀i σ G,i≤ds.length→P i σ G→same G)(hs:∀i x σ G,ds[i]? = some x→P i σ G→g x σ G fun σ2 G2=>tb { D with nx:=Fs (P (i+1)),ct:=Fs (P (i+1)),bk:=D.nx } σ2 G2)(hd:∀σ G,P ds.length σ G→D.nx σ G):L4 ds same g tb D σ G:=⟨P,h0,hk,hs,hd⟩
theorem exCons{p:D→List D→Prop}{j:D}{r:List D}:(∃x y,j::r=x::y∧p x y)↔p j r:=⟨fun⟨_,_,e,h⟩=>by cases e;exact h,fun h=>⟨j,r,rfl,h⟩⟩
theorem Sk{α:Type}{x:α}{r:List α}:atI (x::r) 0=some x:=C5 (j:=0) rfl
theorem Ja{G:Gp}{ds:List D}{i:Int}:B5 G (.tup ds) i=atI ds i:=rfl
theorem Lo{G:Gp}{ns:List Int}{i:Int}:B5 G (.lint ns) i=atI (ns.map D.int) i:=rfl
theorem Be{G:Gp}{a:Addr}{ds:List D}{i:Int}(h:G a=some (.lst ds)):B5 G (.ref a) i=atI ds i:=by simp only[B5,h]
theorem Aaq{G:Gp}{ds:List D}:Hi G (.tup ds)=some ds.length:=rfl
theorem Os{G:Gp}{ns:List Int}:Hi G (.lint ns)=some ns.length:=rfl
theorem Aar{G:Gp}{a:Addr}{ds:List D}(h:G a=some (.lst ds)):Hi G (.ref a)=some ds.length:=by simp only[Hi,h]
theorem Ah{G:Gp}{a:Addr}{ds:List D}(h:G a=some (.lst ds)):Aq G (.ref a)=some ds:=by simp only[Aq,h]
theorem F0{G:Gp}{ds:List D}:Aq G (.tup ds)=some ds:=rfl
theorem ix0{n:Nat}:ixN (n+1) 0=some 0:=by unfold ixN;rw[if_pos (by omega),if_pos (by omega)];rfl
def nIfM(c:DTT)(t u:DTS):DTS:=fun D σ G=>∃M:DSt→Gp→Prop,(c σ G fun b G1=>if b=true then t { D with nx:=Fs M } σ G1 else u { D with nx:=Fs M } σ G1)∧∀σ' G',M σ' G'→D.nx σ' G'
theorem Aca{X:Cx}{c:Expr}{body orelse:List Stmt}{pos:Pos}{tc:DTT}{t u:DTS}(hc:QT X c tc)(ha:QSs X body t)(hb:QSs X orelse u):QS X (.If c body orelse pos) (nIfM tc t u):=(Abb hc ha hb).imp fun E σ H ⟨σD,G,D,rs,rg,⟨M,h,hM⟩,cl⟩=>by
 refine⟨σD,G,_,rs,rg,h,fun k G1 h1 H1 x1 rg1=>?_⟩
 have cl':DEnds.Reach X.K H1 { D with nx:=Fs M } E:=⟨fun s2 G2 ⟨G3,sb,m⟩ H2 x2 rg2=>(cl.go x1).nx s2 G3 (hM s2 G3 m) H2 x2 (rg2.ext' sb),(cl.go x1).rt,(cl.go x1).bk,(cl.go x1).ct⟩
 dsimp only at h1 ⊢
 cases k with
 |true=>rw[if_pos rfl] at h1 ⊢;exact⟨σD,G1,_,rs.ext x1,rg1,h1,cl'⟩
 |false=>rw[if_neg Bool.false_ne_true] at h1 ⊢;exact⟨σD,G1,_,rs.ext x1,rg1,h1,cl'⟩
theorem Ad5{α:Type}{xs:List α}{k:Nat}{x:α}(h:xs[k]? = some x):atI xs (k:Int)=some x:=C5 h
theorem szl{n:Nat}(h:n≤1000):n≤sizeLine:=Nat.le_of_lt (Bv h)
theorem sz2:2≤sizeLine:=szl (by decide)
theorem Yz{G:Gp}{a p:Addr}{u v:GO}(h:a≠p):Ac (Ac G p u) a v=Ac (Ac G a v) p u:=Sn (Ne.symm h)
theorem Aah{G:Gp}{a p:Addr}{o:GO}(h:Ac G a o p=none):a≠p∧G p=none:=by
 by_cases e:p=a
 ·subst e;rw[Aa] at h;cases h
 ·exact⟨Ne.symm e,by rw[Af e] at h;exact h⟩
end D3
namespace D3
open PySem PySem.Spec
open PyProof.Rows hiding St
open L2 hiding St
def Pr(T:List Str)(σ:St):St:=List.replicate T.length none++σ

def Ih(ifs:List Expr)(env:Env):Sem Bool:=forIn ifs true fun c r=>if r=true then do let ok ←isTrue c env (eval c env);pure (ForInStep.yield ok) else pure (ForInStep.yield r)
def PF(X:Cx)(ifs:List Expr)(t:TT):Prop:=
 ∀(pins:List (Addr×Obj)) (s:Shared) (σ:St) (H:Hp) (Q:Bool→Hp→Prop),Inv X pins σ H s→t σ H Q→wpAny (model X.prog X.w) X.A (Ih ifs X.env) (TP X pins σ Q) X.xe s
theorem Acs{X:Cx}:PF X [] (fun _ H Q=>Q true H):=fun pins s σ H Q I h=>by
 unfold Ih
 rw[List.forIn_nil]
 exact wpAny_pure ⟨H,I,h⟩
theorem Acr{X:Cx}{c:Expr}{t:TT}(h:PT X c t):PF X [c] t:=fun pins s σ H Q I q=>by
 unfold Ih
 rw[List.forIn_cons]
 refine wpAny_bind ?_
 rw[if_pos rfl]
 refine wpAny_bind (thn (h pins s σ H Q I q) fun b s1 hb=>wpAny_pure ?_)
 show wpAny _ _ (forIn [] b _) _ _ s1
 rw[List.forIn_nil]
 exact wpAny_pure hb

def Bz(cells:List (Str×Addr)):List (Str×NameKind)→List (Str×Addr)→List (Str×Addr)
 |[],cs=>cs
 |(n,k)::r,cs=>if (k == .free)=true then match cells.lookup n with
   |some c=>Bz cells r ((n,c)::cs)
   |none=>Bz cells r cs
  else Bz cells r cs
theorem Aax{env:Env}:∀(names:List (Str×NameKind)) (cs:List (Str×Addr)),(names.all fun y=>!(y.2 == .free)||(env.cells.lookup y.1).isSome)=true→
  (forIn names cs fun(x:Str×NameKind) (r:List (Str×Addr))=>(if (x.2 == NameKind.free)=true then do let __do_lift ←cellOf env x.1;pure (ForInStep.yield ((x.1,__do_lift)::r)) else pure (ForInStep.yield r):Sem (ForInStep (List (Str×Addr)))))=pure (Bz env.cells names cs):=by
 intro names
 induction names with
 |nil=>intro cs _;rw[List.forIn_nil];rfl
 |cons y r ih=>
  intro cs h
  obtain⟨n,k⟩:=y
  rw[List.all_cons,Bool.and_eq_true] at h
  rw[List.forIn_cons]
  by_cases hk:(k == NameKind.free)=true
  ·have hs:(env.cells.lookup n).isSome=true:=by
    have h1:=h.1
    simp only[hk,Bool.not_true,Bool.false_or] at h1
    exact h1
   obtain⟨c,hc⟩:=Option.isSome_iff_exists.mp hs
   simp only[hk,if_true,Bz,hc,cellOf]
   exact ih _ h.2
  ·simp only[hk,Bz]
   exact ih _ h.2
theorem Ew{cells:List (Str×Addr)}:∀(names:List (Str×NameKind)) (cs:List (Str×Addr)),(∀x c,cs.lookup x=some c→cells.lookup x=some c)→∀x c,(Bz cells names cs).lookup x=some c→cells.lookup x=some c
 |[],cs,h,x,c,e=>h x c e
 |(n,k)::r,cs,h,x,c,e=>by
  unfold Bz at e
  split at e
  ·split at e
   ·rename_i c' hc
    refine Ew r _ (fun y d z=>?_) x c e
    by_cases hy:y=n
    ·subst hy
     rw[List.lookup_cons_self] at z
     cases z
     exact hc
    ·rw[List.lookup_cons,beq_false_of_ne hy] at z
     exact h y d z
   ·exact Ew r _ h x c e
  ·exact Ew r _ h x c e
theorem Gu{cells:List (Str×Addr)}:∀(names:List (Str×NameKind)) (cs:List (Str×Addr)) (x:Str),(names.all fun y=>!(y.2 == .free)||(cells.lookup y.1).isSome)=true→((x,NameKind.free)∈names∨∃c,cs.lookup x=some c)→∃c,(Bz cells names cs).lookup x=some c
 |[],cs,x,_,h=>h.elim (fun z=>nomatch z) id
 |(n,k)::r,cs,x,ha,h=>by
  rw[List.all_cons,Bool.and_eq_true] at ha
  unfold Bz
  by_cases hk:(k == NameKind.free)=true
  ·have hs:(cells.lookup n).isSome=true:=by
    have h1:=ha.1
    simp only[hk,Bool.not_true,Bool.false_or] at h1
    exact h1
   obtain⟨c,hc⟩:=Option.isSome_iff_exists.mp hs
   rw[if_pos hk,hc]
   refine Gu r _ x ha.2 ?_
   by_cases hx:x=n
   ·subst hx;exact .inr ⟨c,List.lookup_cons_self⟩
   ·rcases h with h|⟨d,h⟩
    ·rcases List.mem_cons.mp h with z|z
     ·cases z;exact absurd rfl hx
     ·exact .inl z
    ·exact .inr ⟨d,by rw[List.lookup_cons,beq_false_of_ne hx];exact h⟩
  ·rw[if_neg hk]
   refine Gu r _ x ha.2 (h.imp (fun z=>?_) id)
   rcases List.mem_cons.mp z with z|z
   ·cases z;exact absurd rfl hk
   ·exact z
def Fg(P:Gp→Prop)(G:Gp):Prop:=∃G',Sub G' G∧P G'
theorem Fg.of{P:Gp→Prop}{G:Gp}(h:P G):Fg P G:=⟨G,Sub.refl G,h⟩
def Q9(n:Nat)(σ σ2:DSt):Prop:=∃pre,pre.length=n∧σ2=pre++σ
def Fn(n:Nat)(p:Addr)(ds:List D)(same:Gp→Prop)(g:DTG)(tf:DTT)(te:DTE)(σ:DSt)(G:Gp)(Q:DK):Prop:=∃P:Nat→List D→Gp→Prop,P 0 [] G∧(∀i ys G,i≤ds.length→P i ys G→same G∧G p=some (.lst ys))∧
 (∀i x ys G,ds[i]? = some x→P i ys G→g x (List.replicate n none++σ) G fun σ2 G2=>Q9 n σ σ2∧tf σ2 G2 fun b G3=>if b=true then te σ2 G3 fun y G4=>G4 p=some (.lst ys)∧ys.length<sizeLine∧Fg (P (i+1) (ys++[y])) (Ac G4 p (.lst (ys++[y]))) else Fg (P (i+1) ys) G3)∧
 ∀ys G,P ds.length ys G→Q (.ref p) G
theorem Rq{K:W.Frag}{H:Hp}{σD:DSt}{σ:St}(n:Nat)(r:RelS K H σD σ):RelS K H (List.replicate n none++σD) (List.replicate n none++σ):=by
 refine⟨by simp[r.1],fun i d e=>?_⟩
 by_cases hi:i<n
 ·rw[List.getElem?_append_left (by simpa using hi),List.getElem?_replicate,if_pos hi] at e
  cases e
 ·rw[List.getElem?_append_right (by simpa using hi)] at e ⊢
  simp only[List.length_replicate] at e ⊢
  exact r.2 _ d e
section
variable{X:Cx}{elt iter:Expr}{x:Str}{px:Pos}{ifs:List Expr}{scope:Scope}{pos:Pos}{ti te:DTE}{tf:DTT}{T:List Str}
def QF(X:Cx)(ifs:List Expr)(t:DTT):Prop:=PF X ifs (Ds X.K t)
def C3:DTT:=fun _ G Q=>Q true G
theorem qf_nil:QF X [] C3:=fun pins s σ H Q I ⟨σD,G,Q',rs,rg,h,cl⟩=>Acs pins s σ H Q I (cl _ G h H (Ext.refl H) rg)
theorem E6{c:Expr}{t:DTT}(h:QT X c t):QF X [c] t:=Acr h
end
end D3
namespace D3
open PySem PySem.Spec
open PyProof.Rows hiding St
open L2 hiding St
def C9(G:Gp):D→Option String
 |.non=>some "NoneType"
 |.bl _=>some "bool"
 |.int _=>some "int"
 |.str _=>some "str"
 |.tup _=>some "tuple"
 |.ref a=>match G a with
  |some (.lst _)=>some "list"
  |some (.dct _)=>some "dict"
  |some (.dkk _)=>some "dict"
  |_=>none
 |_=>none
def pyIs(t c:String):Bool:=t == c||(t == "bool" && c == "int")
def Abj(t c:String):Option Bool:=if (Value.type t == Value.type c)=true then some true else if PySem.W.kitMeta c=true then (fastBuiltinMro t).map (·.contains (.type c)) else none
theorem Adj(K:PySem.W.Frag)(t c:String):PySem.W.kitOne K (.type t) (.type c)=Abj t c:=rfl
abbrev tNames:List String:=["NoneType", "bool", "int", "str", "tuple", "list", "dict"]
abbrev cNames:List String:=["int", "bool", "tuple", "list", "str", "dict"]
theorem Xu:(tNames.all fun t=>cNames.all fun c=>Abj t c == some (pyIs t c))=true:=by decide +kernel
theorem Jl{G:Gp}{d:D}{t:String}(h:C9 G d=some t):t∈tNames:=by
 cases d<;>simp only[C9] at h<;>first
  |(cases h;decide)
  |(split at h<;>first|(cases h;decide)|cases h)
  |cases h
theorem Y1{K:W.Frag}{H:Hp}{G:Gp}{d:D}{v:V}{t:String}(rg:RelG K H G)(h:C9 G d=some t)(dv:DV K H d v):TyOf K H v (.type t):=by
 cases dv with
 |non=>cases h;exact .non
 |bl b=>cases h;exact .bl b
 |int i=>cases h;exact .int i
 |str x=>cases h;exact .str x
 |tup e r=>cases h;exact .tup e
 |ty n=>cases h
 |lint e=>cases h
 |ref a=>
  simp only[C9] at h
  split at h
  ·rename_i ds q;cases h;obtain⟨xs,e,_⟩:=rg a _ q;exact .lst e
  ·rename_i ds q;cases h;obtain⟨xs,e,_⟩:=rg a _ q;exact .dT e
  ·rename_i ds q;cases h;obtain⟨xs,e,_⟩:=rg a _ q;exact .dK e
  ·cases h
theorem Ady:("int"∈cNames)=True:=by decide
theorem Aaw:("bool"∈cNames)=True:=by decide
theorem F4:("tuple"∈cNames)=True:=by decide
def Kn(G:Gp)(d:D):Prop:=∃t,C9 G d=some t
def KnT(G:Gp):Nat→D→Prop
 |0,d=>Kn G d
 |n+1,d=>Kn G d∧∀ds,d=.tup ds→∀x∈ds,KnT G n x
theorem KnT.kn{G:Gp}:∀{n:Nat} {d:D},KnT G n d→Kn G d
 |0,_,h=>h
 |_+1,_,h=>h.1
theorem Kn.new{G:Gp}{d:D}(h:Kn G d){p:Addr}{o:GO}(hp:G p=none):Kn (Ac G p o) d:=by
 obtain⟨t,h⟩:=h
 refine⟨t,?_⟩
 cases d<;>first|exact h|skip
 rename_i a
 simp only[C9] at h ⊢
 by_cases e:a=p
 ·subst e;rw[hp] at h;cases h
 ·rw[Af e];exact h
theorem KnT.new{G:Gp}{p:Addr}{o:GO}(hp:G p=none):∀{n:Nat} {d:D},KnT G n d→KnT (Ac G p o) n d
 |0,_,h=>Kn.new h hp
 |_+1,_,h=>⟨Kn.new h.1 hp,fun ds e x hx=>KnT.new hp (h.2 ds e x hx)⟩
theorem Pz{G:Gp}{d:D}(h:C9 G d=some "tuple"):∃ds,d=.tup ds:=by
 cases d<;>simp only[C9] at h<;>first|exact⟨_,rfl⟩|(exact absurd (Option.some.inj h) (by decide))|(split at h<;>first|(exact absurd (Option.some.inj h) (by decide))|cases h)|cases h
section
variable{X:Cx}
theorem c_isinst:QC X (.builtin "isinstance") (fun ds G Q=>∃x c,ds=[x,.ty c]∧c∈cNames∧∃t,C9 G x=some t∧Q (.bl (pyIs t c)) G):=by
 intro pins s σ H xs us Q I r ⟨ds,G,Q',dv,rg,⟨x,c,e,hc,t,ht,q⟩,cl⟩
 subst e
 obtain⟨v,w,rfl,d1,d2⟩:=dv.two
 cases d2
 obtain⟨u1,u2,rfl,r1,r2⟩:=No r
 cases r2
 have hk:PySem.W.kitOne X.K (.type t) (.type c)=some (pyIs t c):=by
  rw[Adj]
  have h1:=List.all_eq_true.mp Xu t (Jl ht)
  have h2:=List.all_eq_true.mp h1 c hc
  exact beq_iff_eq.mp h2
 refine Tr I r1 (Y1 rg ht d1) hk fun tk=>?_
 exact⟨.bl (pyIs t c),H,I.tok _,rfl,cl _ G q H (Ext.refl H) rg _ (.bl _)⟩

theorem T8(hc:X.calm=true):CallR X (.builtin "all") (fun xs H Q=>∃(a:Addr) (bs:List Bool),xs=[.ref a]∧SqL X.K H a (bs.map V.bl)∧Q (.bl (bs.all id)) H):=by
 intro pins s σ H xs us Q I r h
 obtain⟨a,bs,rfl,hq,q⟩:=h
 obtain⟨u,rfl,ru⟩:=Dg r
 cases ru
 obtain⟨its,rv,p,hz⟩:=I.list hq
 refine call_all_walk ?_
 refine wpAny_pyIter_list p.isList ?_
 have hlt:a<s.heap.objs.size:=by obtain⟨_,_,e,_⟩:=p;exact Heap.lt_size e
 refine⟨s.heap.objs.size,_,_,_,_,_,fun i=>(bs[i]?).getD true,rfl,Walks.list (A:=X.A.in1) (I.ok.hd hc) _ _ (Nat.ne_of_lt hlt) its.toArray,⟨⟨_,Heap.get?_push_size _ rfl,rfl,rfl⟩,p.isList.push _⟩,?_,?_⟩
 ·intro i v s' Q' E' hP hQ
  have hv:its[i]? = some v:=by simpa using hP
  have hb:∃b,bs[i]? = some b∧v=Value.bool b:=by
   have key:∀(bs:List Bool) (its:List Value),Vals (bs.map V.bl) its→∀(i:Nat) (v:Value),its[i]? = some v→∃b,bs[i]? = some b∧v=Value.bool b:=by
    intro bs
    induction bs with
    |nil=>intro its r i v e;cases r;simp at e
    |cons b bs ih=>
     intro its r i v e
     rw[List.map_cons] at r
     cases r with
     |cons r1 r2=>
      cases i with
      |zero=>simp at e;subst e;cases r1;exact⟨b,rfl,rfl⟩
      |succ i=>simpa using ih _ r2 i v (by simpa using e)
   exact key bs its rv i v hv
  obtain⟨b,eb,rfl⟩:=hb
  refine wpAny_truthy_bool ?_
  have:(bs[i]?).getD true=b:=by rw[eb];rfl
  dsimp only at hQ;rw[this] at hQ;exact hQ
 ·intro h' tk hk
  have hl:=rv.length
  rw[List.length_map] at hl
  have e:((List.range its.toArray.size).all fun i=>(bs[i]?).getD true)=bs.all id:=by
   rw[List.size_toArray,←hl,Bool.eq_iff_iff,List.all_eq_true,List.all_eq_true]
   constructor
   ·intro h b hb
    obtain⟨i,hi,e⟩:=List.getElem_of_mem hb
    have:=h i (List.mem_range.mpr hi)
    rw[List.getElem?_eq_getElem hi,e] at this
    exact this
   ·intro h i hi
    have hi:=List.mem_range.mp hi
    rw[List.getElem?_eq_getElem hi]
    exact h _ (List.getElem_mem hi)
  refine⟨.bl (bs.all id),H,I.kept (t':=tk) fun b o eb=>hk b o (fun z=>?_) (Heap.get?_push_of_some _ eb),by rw[e];rfl,q⟩
  have:b=s.heap.objs.size:=by simpa using z
  subst this
  exact absurd (Heap.lt_size eb) (Nat.lt_irrefl _)
theorem V4{K:W.Frag}{H:Hp}:∀{bs:List Bool} {vs:List V},DVs K H (bs.map D.bl) vs→vs=bs.map V.bl
 |[],_,r=>by cases r;rfl
 |b::bs,_,r=>by
  cases r with
  |cons h t=>cases h;rw[V4 t];rfl
theorem c_all(hc:X.calm=true):QC X (.builtin "all") (fun ds G Q=>∃a,ds=[.ref a]∧∃bs:List Bool,G a=some (.lst (bs.map D.bl))∧Q (.bl (bs.all id)) G):=(T8 hc).imp fun xs H Q ⟨ds,G,Q',dv,rg,⟨a,e,bs,eg,q⟩,cl⟩=>by
 subst e
 obtain⟨v,rfl,r⟩:=dv.one
 cases r
 obtain⟨ys,ey,ry⟩:=rg a _ eg
 have:=V4 ry
 subst this
 exact⟨a,bs,rfl,.inl (.inl ey),cl _ G q H (Ext.refl H) rg _ (.bl _)⟩
theorem B2{n i0:Nat}{p:Addr}{ds:List D}{same:Gp→Prop}{tf:DTT}{te:DTE}{σ:DSt}{G:Gp}{Q:DK}(f:D→D)(c:D→Bool)(hz:ds.length<sizeLine)(hsm:∀ys,same (Ac G p (.lst ys)))(h0:i0<n)(hs:∀x ys,x∈ds→ys.length<sizeLine→∀(R1:D→Gp→Prop) (R2:Gp→Prop),(c x=true→R1 (f x) (Ac G p (.lst (ys++[f x]))))→(c x=false→R2 (Ac G p (.lst ys)))→
   tf ((List.replicate n none++σ).set i0 (some x)) (Ac G p (.lst ys)) fun b G3=>if b=true then te ((List.replicate n none++σ).set i0 (some x)) G3 fun y G4=>G4 p=some (.lst ys)∧ys.length<sizeLine∧Fg (R1 y) (Ac G4 p (.lst (ys++[y]))) else Fg R2 G3)(hq:Q (.ref p) (Ac G p (.lst ((ds.filter c).map f)))):Fn n p ds same (Ao i0) tf te σ (Ac G p (.lst [])) Q:=by
 refine⟨fun i ys G'=>ys=((ds.take i).filter c).map f∧Ac G p (.lst ys)=G',⟨rfl,rfl⟩,?_,?_,?_⟩
 ·rintro i ys _ _ ⟨_,rfl⟩
  exact⟨hsm ys,Aa⟩
 ·rintro i x ys _ hx ⟨e,rfl⟩
  have hi:=(List.getElem?_eq_some_iff.mp hx).1
  have hl:ys.length<sizeLine:=by
   rw[e,List.length_map]
   refine Nat.lt_of_le_of_lt (List.length_filter_le _ _) ?_
   rw[List.length_take];omega
  have tk:ds.take (i+1)=ds.take i++[x]:=by rw[List.take_add_one,hx];rfl
  refine⟨⟨(List.replicate n none).set i0 (some x),by simp,by rw[List.set_append_left _ _ (by simpa using h0)]⟩,?_⟩
  refine hs x ys (List.mem_of_getElem? hx) hl (fun y G'=>ys++[y]=((ds.take (i+1)).filter c).map f∧Ac G p (.lst (ys++[y]))=G') (fun G'=>ys=((ds.take (i+1)).filter c).map f∧Ac G p (.lst ys)=G') (fun hc=>⟨?_,rfl⟩) (fun hc=>⟨?_,rfl⟩)
  ·rw[tk,List.filter_append,List.map_append,←e];simp[hc]
  ·rw[tk,List.filter_append,List.map_append,←e];simp[hc]
 ·rintro ys _ ⟨e,rfl⟩
  rw[List.take_length] at e
  rw[e];exact hq
end
end D3
namespace D3
open PySem PySem.Spec
open PyProof.Rows hiding St
open L2 hiding St
mutual
inductive RepD (G:Gp):D→PyData→Prop where
 |non:RepD G .non .none
 |bl (b:Bool):RepD G (.bl b) (.bool b)
 |int (i:Int):RepD G (.int i) (.int i)
 |str (x:Str):RepD G (.str x) (.str x)
 |tup {ds:List D} {ps:List PyData} (r:RepDs G ds ps):RepD G (.tup ds) (.tuple ps)
 |lst {a:Addr} {ds:List D} {ps:List PyData} (e:G a=some (.lst ds)) (r:RepDs G ds ps):RepD G (.ref a) (.list ps)
 |dct0 {a:Addr} (e:G a=some (.dkk [])):RepD G (.ref a) (.dict [])
inductive RepDs (G:Gp):List D→List PyData→Prop where
 |nil:RepDs G [] []
 |cons {d:D} {p:PyData} {ds:List D} {ps:List PyData} (h:RepD G d p) (t:RepDs G ds ps):RepDs G (d::ds) (p::ps)
end
section
variable{P:Program}{w:World}{K:W.Frag}{H:Hp}{G:Gp}{h:Heap}
mutual
theorem Du(rg:RelG K H G)(ok:HOk P w H h):∀{d:D} {p:PyData} {v:V} {u:Value},RepD G d p→DV K H d v→RelV v u→∃as,Reads h u p as∧∀b∈as,H b≠none
 |_,_,_,_,.non,dv,r=>by cases dv;cases r;exact⟨_,.none,by simp⟩
 |_,_,_,_,.bl b,dv,r=>by cases dv;cases r;exact⟨_,.bool b,by simp⟩
 |_,_,_,_,.int i,dv,r=>by cases dv;obtain⟨t,rfl⟩:=r;exact⟨_,.int i t,by simp⟩
 |_,_,_,_,.str x,dv,r=>by cases dv;obtain⟨t,rfl⟩:=r;exact⟨_,.str x t,by simp⟩
 |_,_,_,_,.tup rs,dv,r=>by
  cases dv with
  |@tup _ a xs e ds=>
   cases r
   obtain⟨_,its,rv,o,h1,h2,n,h3⟩:=(show ObjOk P w H h a (.tup xs) from ok a _ e)
   obtain⟨as,ra,hb⟩:=El rg ok rs ds rv
   exact⟨_,.tuple h1 h2 h3 (by simpa using ra),hb⟩
 |_,_,_,_,@RepD.lst _ a _ _ e rs,dv,r=>by
  cases dv with
  |ref=>
   cases r
   obtain⟨xs,ex,ds⟩:=rg _ _ e
   obtain⟨_,its,n,rv,h1⟩:=(show ObjOk P w H h a (.lst xs) from ok a _ ex)
   obtain⟨as,ra,hb⟩:=El rg ok rs ds rv
   refine⟨_,.list h1 rfl rfl (by simpa using ra),fun b hm=>?_⟩
   rcases List.mem_cons.mp hm with z|z
   ·subst z;rw[ex];simp
   ·exact hb b z
 |_,_,_,_,@RepD.dct0 _ a e,dv,r=>by
  cases dv with
  |ref=>
   cases r
   obtain⟨ks,ex,ds⟩:=rg _ _ e
   cases ds
   obtain⟨_,_,vs,rv,o,es,ep,h1,h2,h3,_,h4,_⟩:=(show ObjOk P w H h a (.dK []) from ok a _ ex)
   cases rv
   have he:es.toList=[]:=by
    revert h4
    cases es.toList with
    |nil=>intro _;rfl
    |cons x r=>intro h4;exact absurd h4 (by intro z;cases z)
   refine⟨_,.dict (kvs:=[]) h1 h2.1 h3 (by rw[he];exact .nil) (by rw[he];exact .nil),fun b hm=>?_⟩
   have:b=a:=by simpa using hm
   subst this
   rw[ex];simp
theorem El(rg:RelG K H G)(ok:HOk P w H h):∀{ds:List D} {ps:List PyData} {vs:List V} {us:List Value},RepDs G ds ps→DVs K H ds vs→Vals vs us→∃as,ReadsAll h us ps as∧∀b∈as,H b≠none
 |_,_,_,_,.nil,dv,r=>by cases dv;cases r;exact⟨_,.nil,by simp⟩
 |_,_,_,_,.cons hd tl,dv,r=>by
  cases dv with
  |cons d1 d2=>
   cases r with
   |cons r1 r2=>
    obtain⟨as,a,ha⟩:=Du rg ok hd d1 r1
    obtain⟨bs,b,hb⟩:=El rg ok tl d2 r2
    exact⟨_,.cons a b,fun x hx=>(List.mem_append.mp hx).elim (ha x) (hb x)⟩
end
end
section
variable{X:Cx}{k:Nat}
def dNeD:DR2:=fun x y G Q=>∃p q,RepD G x p∧RepD G y q∧p.canLay0=true∧q.canLay0=true∧min p.depth q.depth≤100∧Q (.bl (!PyData.eqv p q)) G
theorem Mh{A:Around}(hr:Room k A){n:Nat}(h:n≤100):A.units+n<cLine:=by have:=hr.un;omega
theorem o_neD(hr:Room k X.A):QOp X (compareOp .NotEq) dNeD:=by
 intro pins s σ H x y v u Q I rx ry ⟨dx,dy,G,Q',hx,hy,rg,⟨p,q,rp,rq,c1,c2,hd,h⟩,cl⟩
 obtain⟨as,ra,hfa⟩:=Du rg I.hok rp hx rx
 obtain⟨bs,rb,hfb⟩:=Du rg I.hok rq hy ry
 exact SeqAt.compareNe_reads ra rb c1 c2 (Mh hr hd) ⟨.bl _,H,I,rfl,cl _ G h H (Ext.refl H) rg _ (.bl _)⟩
def dInD(neg:Bool):DR2:=fun x y G Q=>∃p ps,RepD G x p∧(RepD G y (.list ps)∨RepD G y (.tuple ps))∧p.canLay0=true∧PyData.canLayAll0 ps=true∧1+min (PyData.depthAll ps) p.depth≤100∧Q (.bl (if neg then !(ps.any fun y=>PyData.eqv y p) else ps.any fun y=>PyData.eqv y p)) G
theorem o_inD(hr:Room k X.A):QOp X (compareOp .In) (dInD false):=by
 intro pins s σ H x y v u Q I rx ry ⟨dx,dy,G,Q',hx,hy,rg,⟨p,ps,rp,rq,c1,c2,hd,h⟩,cl⟩
 obtain⟨as,ra,hfa⟩:=Du rg I.hok rp hx rx
 have fin:EP X pins σ Q (.bool (ps.any fun y=>PyData.eqv y p)) s:=⟨.bl _,H,I,rfl,cl _ G h H (Ext.refl H) rg _ (.bl _)⟩
 rcases rq with rq|rq
 ·obtain⟨bs,rb,hfb⟩:=Du rg I.hok rq hy ry
  exact SeqAt.in_list_reads rb ra c2 c1 (by have:=Mh hr hd;omega) fin
 ·obtain⟨bs,rb,hfb⟩:=Du rg I.hok rq hy ry
  exact SeqAt.in_tuple_reads rb ra c2 c1 (by have:=Mh hr hd;omega) fin
end
end D3
namespace D3
open PySem PySem.Spec
open PyProof.Rows hiding St
open L2 hiding St
section
variable{prog:Program}{w:World}{A:Around}{E:Value→Shared→Prop}{s:Shared}
theorem F9{t sl:Addr}{items:Array Value}{vl vu:Value}{lo hi:Option Int}{Q:Value→Shared→Prop}(ht:IsTup s.heap t items)(hs:s.heap.IsSliceOf sl vl vu .none)(pl:IsPart vl lo)(pu:IsPart vu hi)(hw:HT.sIx items.size 0 lo=0∧HT.sIx items.size items.size hi=items.size)(h:Q (.ref t) s):wpAny (model prog w) A (getItem (.ref t) (.ref sl)) Q E s:=by
 obtain⟨os,hos,hcs,hds⟩:=id hs
 have hTs:s.TypeIs (.ref sl) "slice":=⟨os,hos,hcs⟩
 unfold getItem
 try with_reducible refine wpAny_holding ?_
 first|refine wpAny_bind (wpAny_pure ?_)|skip
 refine wpAny_bind (wpAny_sequenceKey ht.typeIs (by decide) ?_)
 refine wpAny_bind (wpAny_callSpecial?_slot (name:=Str.ofString "__getitem__") ht.typeIs PyProof.Rows.slot_tuple_getitem
  (wpAny_call_entry PyProof.Rows.slot_tuple_getitem ht.typeIs entry_tuple_getitem ?_ (args_tuple_getitem _ _)))
 show wpAny _ _ (Builtin.Tuple.tupleItemsOf (.ref t) >>= _) _ _ s
 refine wpAny_bind (tupleItemsOf_ ht ?_)
 refine wpAny_bind (wpAny_typeOf hTs ?_)
 rw[if_pos (by decide)]
 refine wpAny_bind (HT.sliceApplied_gen hs pl pu ?_)
 show wpAny _ _ (if (((HT.sIx items.size 0 lo:Nat):Int) == 0&&(1:Int) == 1&&(HT.sIx items.size items.size hi-HT.sIx items.size 0 lo) == items.size)=true then _ else _) _ _ s
 rw[if_pos (by rw[hw.1,hw.2];simp)]
 refine wpAny_bind ?_
 unfold Builtin.Tuple.tupleIsExact
 refine wpAny_bind (wpAny_typeOf ht.typeIs (wpAny_pure ?_))
 rw[if_pos (by decide)]
 refine wpAny_bind (wpAny_rule ?_)
 exact wpAny_pure ⟨_,rfl,wpAny_pure h⟩
end
section
variable{X:Cx}{a b c e:Expr}{ta tb tc te:DTE}{pos p2:Pos}{lo hi:Option Expr}
def Dq(xs:List D)(lo hi:Option Int):List D:=(xs.drop (HT.sIx xs.length 0 lo)).take (HT.sIx xs.length xs.length hi-HT.sIx xs.length 0 lo)
theorem V3{K:W.Frag}{H:Hp}{ds:List D}{vs:List V}(r:DVs K H ds vs)(lo hi:Option Int):DVs K H (Dq ds lo hi) (Nm vs lo hi):=by
 unfold Dq Nm;rw[r.length];exact(r.drop _).take _
theorem Ty{ds:List D}{lo hi:Option Int}(h:HT.sIx ds.length 0 lo=0∧HT.sIx ds.length ds.length hi=ds.length):Dq ds lo hi=ds:=by
 unfold Dq;rw[h.1,h.2];simp
abbrev DTO:=DSt→Gp→(Option Int→Gp→Prop)→Prop
def liftO(K:PySem.W.Frag)(t:DTO):TO:=fun σ H Q=>∃σD G Q',RelS K H σD σ∧RelG K H G∧t σD G Q'∧∀o G',Q' o G'→Fwd K H G' fun H'=>Q o H'
def QO(X:Cx)(e:Option Expr)(t:DTO):Prop:=PO X e (liftO X.K t)
def B7:DTO:=fun _ G Q=>Q none G
def D8(t:DTE):DTO:=fun σ G Q=>t σ G fun x G1=>∃i,x=.int i∧Q (some i) G1
theorem _root_.L2.PO.imp{X:Cx}{e:Option Expr}{t t':TO}(h:PO X e t)(f:∀σ H Q,t' σ H Q→t σ H Q):PO X e t':=fun pins s σ H Q I q=>h pins s σ H Q I (f σ H Q q)
theorem qo_none:QO X none B7:=po_none.imp fun σ H Q ⟨σD,G,Q',rs,rg,h,cl⟩=>cl _ G h H (Ext.refl H) rg
theorem qo_some(h:QE X e te):QO X (some e) (D8 te):=(Zt h).imp fun σ H Q ⟨σD,G,Q',rs,rg,h,cl⟩=>by
 refine⟨σD,G,_,rs,rg,h,fun d G1 ⟨i,ei,h1⟩ H1 x1 rg1 v dv=>?_⟩
 subst ei;cases dv
 exact⟨i,rfl,cl _ G1 h1 H1 x1 rg1⟩
def B4(G:Gp)(x:D)(lo hi:Option Int)(Q:DK):Prop:=match x with
 |.tup ds=>Q (.tup (Dq ds lo hi)) G
 |.ref a=>match G a with
  |some (.lst ds)=>∀p,G p=none→Q (.ref p) (Ac G p (.lst (Dq ds lo hi)))
  |_=>False
 |_=>False
def rSl(K:PySem.W.Frag):V→Option Int→Option Int→Hp→VK→Prop:=fun x lo hi H Q=>∃d G Q',DV K H d x∧RelG K H G∧B4 G d lo hi Q'∧∀d G',Q' d G'→Fwd K H G' fun H'=>∀v,DV K H' d v→Q v H'
theorem Ab2:SlR X (rSl X.K):=by
 intro pins s σ H x v vl vu lo hi sl Q I rx hs pl pu ⟨d,G,Q',dv,rg,h,cl⟩
 cases dv with
 |@tup ds a xs e r=>
  have h:Q' (.tup (Dq ds lo hi)) G:=h
  by_cases hw:HT.sIx xs.length 0 lo=0∧HT.sIx xs.length xs.length hi=xs.length
  ·cases rx
   obtain⟨its,rv,ht,hz⟩:=I.tuple (.inl (.inl e))
   have hlen:its.toArray.size=xs.length:=by rw[List.size_toArray];exact rv.length.symm
   refine⟨"tuple",_,PyProof.Rows.slot_tuple_getitem.lookup,ht.typeIs,F9 ht hs pl pu (by rw[hlen];exact hw) ⟨.ref a,H,I,rfl,?_⟩⟩
   rw[Ty (by rw[r.length];exact hw)] at h
   exact cl _ G h H (Ext.refl H) rg _ (.tup e r)
  ·exact Ab1 pins s σ H _ v vl vu lo hi sl Q I rx hs pl pu ⟨a,xs,rfl,.inl (.inl e),hw,fun p hp=>cl _ G h _ (Ext.fresh hp) (rg.tup hp) _ (.tup Ar ((V3 r lo hi).ext (Ext.fresh hp)))⟩
 |ref a=>
  simp only[B4] at h
  split at h
  ·rename_i ds g
   obtain⟨xs,e,r⟩:=rg a _ g
   exact Y6 pins s σ H _ v vl vu lo hi sl Q I rx hs pl pu ⟨a,xs,rfl,.inl (.inl e),fun p hp=>cl _ _ (h p (rg.free hp)) _ (Ext.fresh hp) (rg.lst hp (V3 r lo hi)) _ (.ref p)⟩
  ·exact h.elim
 |_=>exact h.elim
def nSl(te:DTE)(tl th:DTO):DTE:=fun σ G Q=>te σ G fun x G1=>tl σ G1 fun l G2=>th σ G2 fun u G3=>B4 G3 x l u Q
theorem q_slice{tl th:DTO}(he:QE X e te)(hl:QO X lo tl)(hu:QO X hi th):QE X (.Subscript e (.Slice lo hi none p2) pos) (nSl te tl th):=(W1 Ab2 he hl hu).imp fun σ H Q ⟨σD,G,Q',rs,rg,h,cl⟩=>by
 refine⟨σD,G,_,rs,rg,h,fun x G1 h1 H1 x1 rg1 v1 d1=>?_⟩
 refine⟨σD,G1,_,rs.ext x1,rg1,h1,fun l G2 h2 H2 x2 rg2=>?_⟩
 refine⟨σD,G2,_,rs.ext (x1.trans x2),rg2,h2,fun u G3 h3 H3 x3 rg3=>?_⟩
 exact⟨x,G3,Q',d1.ext (x2.trans x3),rg3,h3,fun d G' q=>(cl d G' q).go (x1.trans (x2.trans x3))⟩

theorem Ot{α:Type}(xs:List α):(List.range xs.length).filterMap (fun k=>xs[k]?)=xs:=by
 induction xs with
 |nil=>rfl
 |cons x r ih=>
  rw[List.length_cons,List.range_succ_eq_map,List.filterMap_cons]
  simp only[List.getElem?_cons_zero,List.filterMap_map]
  congr 1
theorem Fd{α β:Type}{f g:α→Option β}:∀{l:List α},(∀x∈l,f x=g x)→l.filterMap f=l.filterMap g
 |[],_=>rfl
 |x::r,h=>by
  rw[List.filterMap_cons,List.filterMap_cons,h x (by simp),Fd fun y hy=>h y (by simp[hy])]
theorem Ww(its:List Value):slicePick its.toArray none none (some (-1))=its.reverse.toArray:=by
 unfold slicePick
 have hb:sliceBounds none none (some (-1)) its.toArray.size=((its.length:Int)-1,-1,-1):=by
  simp[sliceBounds]
 rw[hb]
 congr 1
 show(sliceRange ((its.length:Int)-1) (-1) (-1)).filterMap (its.toArray[·]?)=its.reverse
 have hr:sliceRange ((its.length:Int)-1) (-1) (-1)=(List.range its.length).map fun k=>its.length-1-k:=by
  unfold sliceRange
  have hc:(if (-1:Int)>0 then (if (its.length:Int)-1 < -1 then (-1-((its.length:Int)-1) + -1-1) / -1 else 0) else (if (its.length:Int)-1 > -1 then ((its.length:Int)-1 - -1 - -1-1) / (- -1) else 0))=(its.length:Int):=by
   rw[if_neg (by decide)]
   by_cases h:(its.length:Int)-1 > -1
   ·rw[if_pos h];show(_:Int) / 1=_;rw[Int.ediv_one];omega
   ·rw[if_neg h];omega
  simp only[hc,Int.toNat_natCast]
  refine List.map_congr_left fun k hk=>?_
  have:=List.mem_range.mp hk
  omega
 rw[hr,List.filterMap_map]
 have e:=Ot its.reverse
 rw[List.length_reverse] at e
 rw[←e]
 refine Fd fun k hk=>?_
 have:=List.mem_range.mp hk
 simp only[Function.comp,List.getElem?_toArray]
 rw[List.getElem?_reverse this]

theorem F8{prog:Program}{w:World}{A:Around}{E:Value→Shared→Prop}{s:Shared}{t sl:Addr}{its:List Value}{vs:Value}{Q:Value→Shared→Prop}(ht:IsTup s.heap t its.toArray)(hs:s.heap.IsSliceOf sl .none .none vs)(ps:IsPart vs (some (-1)))(hz:its.length≤sizeLine)(h:Q (.ref s.heap.objs.size) { s with heap:=s.heap.push { cls:=.type "tuple",data:=.seq its.reverse.toArray } }):wpAny (model prog w) A (getItem (.ref t) (.ref sl)) Q E s:=by
 obtain⟨os,hos,hcs,hds⟩:=id hs
 have hTs:s.TypeIs (.ref sl) "slice":=⟨os,hos,hcs⟩
 unfold getItem
 try with_reducible refine wpAny_holding ?_
 first|refine wpAny_bind (wpAny_pure ?_)|skip
 refine wpAny_bind (wpAny_sequenceKey ht.typeIs (by decide) ?_)
 refine wpAny_bind (wpAny_callSpecial?_slot (name:=Str.ofString "__getitem__") ht.typeIs PyProof.Rows.slot_tuple_getitem
  (wpAny_call_entry PyProof.Rows.slot_tuple_getitem ht.typeIs entry_tuple_getitem ?_ (args_tuple_getitem _ _)))
 show wpAny _ _ (Builtin.Tuple.tupleItemsOf (.ref t) >>= _) _ _ s
 refine wpAny_bind (tupleItemsOf_ ht ?_)
 refine wpAny_bind (wpAny_typeOf hTs ?_)
 rw[if_pos (by decide)]
 refine wpAny_bind ?_
 unfold Builtin.Slice.sliceApplied Builtin.Slice.sliceFields
 refine wpAny_bind (wpAny_bind (wpAny_field hos hds (x:=.none) rfl (wpAny_bind (wpAny_field hos hds (x:=.none) rfl (wpAny_bind (wpAny_field hos hds (x:=vs) rfl (wpAny_pure ?_)))))))
 refine wpAny_bind (HT.slicePart_ ps ?_)
 show wpAny _ _ (if ((-1:Int) == 0)=true then _ else _) _ _ s
 rw[if_neg (by decide)]
 refine wpAny_bind (HT.slicePart_ .none (wpAny_bind (HT.slicePart_ .none (wpAny_bind (wpAny_pure ?_)))))
 have ha:Builtin.Slice.sliceAdjust none none (-1) ((its.toArray.size:Nat):Int)=((its.length:Int)-1,-1):=by simp[Builtin.Slice.sliceAdjust]
 show wpAny _ _ (match Builtin.Slice.sliceAdjust none none (-1) ((its.toArray.size:Nat):Int) with|(lo,hi)=>pure (lo,(-1:Int),Builtin.Slice.slicePlaces lo hi (-1))) _ _ s
 rw[ha]
 have hp:Builtin.Slice.slicePlaces ((its.length:Int)-1) (-1) (-1)=its.length:=by
  unfold Builtin.Slice.slicePlaces
  rw[if_neg (by decide)]
  by_cases h:(its.length:Int)-1 > -1
  ·rw[if_pos h];show((_:Int) / 1+1).toNat=_;rw[Int.ediv_one];omega
  ·rw[if_neg h];show(0:Int).toNat=_;simp;omega
 show wpAny _ _ (pure ((its.length:Int)-1,(-1:Int),Builtin.Slice.slicePlaces ((its.length:Int)-1) (-1) (-1))) _ _ s
 rw[hp]
 refine wpAny_pure ?_
 show wpAny _ _ (if (((its.length:Int)-1) == 0&&(-1:Int) == 1&&its.length == its.toArray.size)=true then _ else _) _ _ s
 rw[if_neg (by simp)]
 have hr:((List.range its.length).filterMap fun(k:Nat)=>its.toArray[(((its.length:Int)-1)+(k:Int)*(-1)).toNat]?)=its.reverse:=by
  have e:=Ot its.reverse
  rw[List.length_reverse] at e
  rw[←e]
  refine Fd fun k hk=>?_
  have:=List.mem_range.mp hk
  rw[List.getElem?_reverse this,List.getElem?_toArray]
  congr 1;omega
 rw[hr]
 have htake:sizeOk (.seq its.reverse.toArray):=by
  show its.reverse.toArray.size≤sizeLine
  rw[List.size_toArray,List.length_reverse];exact hz
 first
  |exact wpAny_bind (m:=Builtin.Tuple.tupleExact _) (wpAny_newObj_type (wpAny_pure ⟨_,rfl,wpAny_pure h⟩) htake)
  |exact wpAny_bind (m:=Builtin.Tuple.tupleExact _) (wpAny_newObj_type (wpAny_bind (wpAny_pure (wpAny_pure ⟨_,rfl,wpAny_pure h⟩))) htake)
  |exact wpAny_bind (wpAny_bind (m:=Builtin.Tuple.tupleExact _) (wpAny_newObj_type (wpAny_pure (wpAny_pure ⟨_,rfl,wpAny_pure h⟩)) htake))
  |exact wpAny_bind (wpAny_bind (m:=Builtin.Tuple.tupleExact _) (wpAny_newObj_type (wpAny_pure ⟨_,rfl,wpAny_pure h⟩) htake))
theorem DVs.rev{K:W.Frag}{H:Hp}:∀{ds:List D} {vs:List V},DVs K H ds vs→DVs K H ds.reverse vs.reverse
 |_,_,.nil=>.nil
 |_,_,.cons h t=>by rw[List.reverse_cons,List.reverse_cons];exact(DVs.rev t).append (.cons h .nil)
theorem Im:∀{xs:List V} {us:List Value},Vals xs us→Vals xs.reverse us.reverse
 |_,_,.nil=>.nil
 |_,_,.cons h t=>by rw[List.reverse_cons,List.reverse_cons];exact Vals.append (Im t) (.cons h .nil)
def Lz(G:Gp)(x:D)(Q:DK):Prop:=match x with
 |.tup ds=>Q (.tup ds.reverse) G
 |.ref a=>match G a with
  |some (.lst ds)=>∀p,G p=none→Q (.ref p) (Ac G p (.lst ds.reverse))
  |_=>False
 |_=>False
def Yr(te:DTE)(ts:DTE):DTE:=fun σ G Q=>te σ G fun x G1=>ts σ G1 fun y G2=>y=.int (-1)∧Lz G2 x Q
theorem Uv(he:QE X e te)(hb:QE X b tb):QE X (.Subscript e (.Slice none none (some b) p2) pos) (Yr te tb):=by
 intro pins s σ H Q I ⟨σD,G,Q',rs,rg,h,cl⟩
 refine Subscript_ (thn (he pins s σ H (fun xv H1=>∃x G1,DV X.K H1 x xv∧(tb σD G1 fun y G2=>y=.int (-1)∧Lz G2 x Q')∧RelG X.K H1 G1∧Ext H H1) I ⟨σD,G,_,rs,rg,h,fun x G1 h1 H1 x1 rg1 v1 d1=>⟨x,G1,d1,h1,rg1,x1⟩⟩) fun v s1 ⟨xv,H1,I1,r1,x,G1,d1,h1,rg1,x1⟩=>?_)
 refine wpAny_Slice ?_
 rw[evalPart_none]
 refine wpAny_pure (wpAny_pure ?_)
 rw[evalPart_some]
 refine thn (hb pins s1 σ H1 (fun yv H2=>∃y G2,DV X.K H2 y yv∧(y=.int (-1)∧Lz G2 x Q')∧RelG X.K H2 G2∧Ext H1 H2) I1 ⟨σD,G1,_,rs.ext x1,rg1,h1,fun y G2 h2 H2 x2 rg2 v2 d2=>⟨y,G2,d2,h2,rg2,x2⟩⟩) fun vst s3 ⟨yv,H3,I3,r3,y,G2,d2,⟨ey,h2⟩,rg2,x2⟩=>?_
 subst ey;cases d2
 obtain⟨tk,rfl⟩:=r3
 have I4:Inv X pins σ H3 { s3 with heap:=s3.heap.push { cls:=.type "slice",data:=.fields #[.none,.none,.int (-1) tk] } }:=I3.kept (t':=s3.toks) fun b ob q=>Heap.get?_push_of_some _ q
 have hsl:({ s3 with heap:=s3.heap.push { cls:=.type "slice",data:=.fields #[.none,.none,.int (-1) tk] } }:Shared).heap.IsSliceOf s3.heap.objs.size .none .none (.int (-1) tk):=Heap.IsSliceOf.new ..
 show wpAny (model X.prog X.w) X.A (subscriptTail e (.Slice none none (some b) p2) v (.ref s3.heap.objs.size)) (EP X pins σ Q) X.xe { s3 with heap:=s3.heap.push { cls:=.type "slice",data:=.fields #[.none,.none,.int (-1) tk] } }
 have cl2:=fun d G' q=>(cl d G' q).go (x1.trans x2)
 cases d1.ext x2 with
 |@tup ds a xs ea ra=>
  cases r1
  have h2:Q' (.tup ds.reverse) G2:=h2
  obtain⟨its,rv,ht,hz⟩:=I4.tuple (.inl (.inl ea))
  refine tail_any (ops:=[.ref a,.ref s3.heap.objs.size]) ht.typeIs PyProof.Rows.slot_tuple_getitem.lookup (F8 ht hsl (.int _ _) (by rw[←rv.length];exact hz) ?_) (by with_unfolding_all rfl)
  refine⟨.ref _,_,I4.laid (t':=s3.toks) (o:=.tup xs.reverse) (fun b ob q=>Heap.get?_push_of_some _ q) (Nat.le_refl _) ⟨by rw[List.length_reverse];exact hz,_,Im rv,IsTup.new _ _⟩,rfl,?_⟩
  have hp:=I4.hok.fresh (Nat.le_refl _)
  exact cl2 _ G2 h2 _ (Ext.fresh hp) (rg2.tup hp) _ (.tup Ar (ra.rev.ext (Ext.fresh hp)))
 |ref a=>
  cases r1
  simp only[Lz] at h2
  split at h2
  ·rename_i ds g
   obtain⟨xs,ea,ra⟩:=rg2 a _ g
   obtain⟨its,rv,ht,hz⟩:=I4.list (.inl (.inl ea))
   have hlen:=rv.length
   refine tail_any (ops:=[.ref a,.ref s3.heap.objs.size]) ht.isList.typeIs slot_list_getitem.lookup (wpAny_getItem_list_slice ht.isList hsl .none .none (.int _ _) (by simp) ?_ (by rw[List.size_toArray]<;>omega)) (by with_unfolding_all rfl)
   rw[Ww]
   refine⟨.ref _,_,I4.laid (t':=s3.toks) (o:=.lst xs.reverse) (fun b ob q=>Heap.get?_push_of_some _ q) (Nat.le_refl _) ⟨by rw[List.length_reverse];exact hz,_,0,Im rv,Heap.get?_push_size _ rfl⟩,rfl,?_⟩
   have hp:=I4.hok.fresh (Nat.le_refl _)
   exact cl2 _ _ (h2 _ (rg2.free hp)) _ (Ext.fresh hp) (rg2.lst hp ra.rev) _ (.ref _)
  ·exact h2.elim
 |_=>exact h2.elim
theorem Aa8{G:Gp}{ds:List D}{Q:DK}:Lz G (.tup ds) Q=Q (.tup ds.reverse) G:=rfl
theorem X4{prog:Program}{w:World}{A:Around}{E:Value→Shared→Prop}{s:Shared}{t b:Addr}{ws:List Value}{Q:Value→Shared→Prop}(ht:IsTup s.heap t #[])(hb:IsTup s.heap b ws.toArray)(h1:Q (.ref b) s) :
  wpAny (model prog w) A (binaryOp .Add (.ref t) (.ref b)) Q E s:=by
 obtain⟨⟨cls,dd,data,sl⟩,ho,hc,n,hd⟩:=id ht
 obtain⟨⟨cls2,dd2,data2,sl2⟩,ho2,hc2,n2,hd2⟩:=id hb
 simp only at hc hd hc2 hd2
 subst hc hd hc2 hd2
 exact concat_meets ⟨_,ho,rfl⟩ ⟨_,ho2,rfl⟩ noFill_tuple_add seq_tuple_add PySem.F.slot_tuple_add PySem.F.entry_tuple_add (PySem.F.args_tuple_add_2 _ _)
   (tuple_addW0 t b #[] ws.toArray n n2 dd dd2 sl sl2 rfl) ⟨ho,ho2,h1⟩
def E4:DR2:=fun x y G Q=>match x,y with
 |.int i,.int j=>Q (.int (i+j)) G
 |.tup xs,.tup ys=>xs.length+ys.length≤sizeLine∧Q (.tup (xs++ys)) G
 |.ref a,.ref b=>match G a,G b with
  |some (.lst xs),some (.lst ys)=>xs.length+ys.length≤sizeLine∧∀p,G p=none→Q (.ref p) (Ac G p (.lst (xs++ys)))
  |_,_=>False
 |_,_=>False
theorem A5:QOp X (binaryOp .Add) E4:=by
 intro pins s σ H x y v u Q I rx ry ⟨dx,dy,G,Q',hx,hy,rg,h,cl⟩
 cases hx with
 |int i=>
  cases hy with
  |int j=>exact Ac5 pins s σ H _ _ v u Q I rx ry ⟨i,j,rfl,rfl,cl _ G h H (Ext.refl H) rg _ (.int _)⟩
  |_=>exact h.elim
 |@tup xs a vs ea ra=>
  cases hy with
  |@tup ys b ws eb rb=>
   obtain⟨hl,h⟩:=h
   by_cases hne:vs=[]
   ·subst hne
    cases ra
    cases rx;cases ry
    obtain⟨its,r1,p1,_⟩:=I.tuple (.inl (.inl ea))
    obtain⟨its2,r2,p2,_⟩:=I.tuple (.inl (.inl eb))
    cases r1
    exact X4 p1 p2 ⟨.ref b,H,I,rfl,cl _ G h H (Ext.refl H) rg _ (.tup eb rb)⟩
   ·refine Z5 pins s σ H _ _ v u Q I rx ry ⟨a,b,vs,ws,rfl,rfl,.inl (.inl ea),.inl (.inl eb),hne,by rw[←ra.length,←rb.length];exact hl,?_,fun _ p hp=>cl _ G h _ (Ext.fresh hp) (rg.tup hp) _ (.tup Ar ((ra.append rb).ext (Ext.fresh hp)))⟩
    intro z
    subst z;cases rb
    rw[List.append_nil] at h
    exact cl _ G h H (Ext.refl H) rg _ (.tup ea ra)
  |_=>exact h.elim
 |ref a=>
  cases hy with
  |ref b=>
   simp only[E4] at h
   split at h
   ·rename_i xs ys ga gb
    obtain⟨hl,h⟩:=h
    obtain⟨vs,ea,ra⟩:=rg a _ ga
    obtain⟨ws,eb,rb⟩:=rg b _ gb
    exact Ac4 pins s σ H _ _ v u Q I rx ry ⟨a,b,vs,ws,rfl,rfl,ea,eb,by rw[←ra.length,←rb.length];exact hl,fun p hp=>cl _ _ (h p (rg.free hp)) _ (Ext.fresh hp) (rg.lst hp (ra.append rb)) _ (.ref p)⟩
   ·exact h.elim
  |_=>exact h.elim
 |_=>exact h.elim
theorem Dc{i j:Int}{G:Gp}{Q:DK}:E4 (.int i) (.int j) G Q=Q (.int (i+j)) G:=rfl
theorem V5{i j:List D}{G:Gp}{Q:DK}:E4 (.tup i) (.tup j) G Q=(i.length+j.length≤sizeLine∧Q (.tup (i++j)) G):=rfl
theorem add_ll{a b:Addr}{xs ys:List D}{G:Gp}{Q:DK}(ha:G a=some (.lst xs))(hb:G b=some (.lst ys)):E4 (.ref a) (.ref b) G Q=(xs.length+ys.length≤sizeLine∧∀p,G p=none→Q (.ref p) (Ac G p (.lst (xs++ys)))):=by
 simp only[E4,ha,hb]
theorem Cj{G:Gp}{ds:List D}{lo hi:Option Int}{Q:DK}:B4 G (.tup ds) lo hi Q=Q (.tup (Dq ds lo hi)) G:=rfl
def Abh:DTE:=fun _ G Q=>∀p,G p=none→Q (.ref p) (Ac G p (.dkk []))
theorem RelG.new{K:W.Frag}{H:Hp}{G:Gp}(r:RelG K H G){p:Addr}{u:HO}{o:GO}(h:H p=none)(n:GOk K (upd H p u) p o):RelG K (upd H p u) (Ac G p o):=fun a q e=>by
 by_cases z:a=p
 ·subst z
  rw[Aa] at e;cases e
  exact n
 ·rw[Af z] at e
  exact(r a q e).upd (Ext.fresh h) (.inr z)
theorem Ace:QE X (.Dict [] [] pos) Abh:=pe_dnewK.imp fun σ H Q ⟨σD,G,Q',rs,rg,h,cl⟩=>fun p hp=>
 cl _ _ (h p (rg.free hp)) _ (Ext.fresh hp) (rg.new hp ⟨[],Ar,.nil⟩) _ (.ref p)
end
end D3
namespace D3
open PySem PySem.Spec
open PyProof.Rows hiding St
open L2 hiding St
structure Src where
 it:Addr
 l:Addr
 tp:Bool
def Src.At(h:Heap)(c:Src)(i:Nat):Prop:=if c.tp=true then h.IsTupleIter c.it c.l i else h.IsListIter c.it c.l i
def Src.Sq(h:Heap)(c:Src)(xs:Array Value):Prop:=if c.tp=true then h.IsTuple c.l xs else h.IsList c.l xs
theorem Src.At.keep{h h':Heap}{c:Src}{i:Nat}(x:c.At h i)(k:∀o,h.get? c.it=some o→h'.get? c.it=some o):c.At h' i:=by
 unfold Src.At at x ⊢
 split at x
 ·rename_i e;rw[if_pos e];exact x.at k
 ·rename_i e;rw[if_neg e];exact x.at k
theorem Src.Sq.keep{h h':Heap}{c:Src}{xs:Array Value}(x:c.Sq h xs)(k:∀o,h.get? c.l=some o→h'.get? c.l=some o):c.Sq h' xs:=by
 unfold Src.Sq at x ⊢
 split at x
 ·rename_i e;rw[if_pos e];exact x.at k
 ·rename_i e;rw[if_neg e];exact x.at k
theorem Src.At.obj{h:Heap}{c:Src}{i:Nat}(x:c.At h i):∃o,h.get? c.it=some o∧∀v,o.data≠.cell v:=by
 unfold Src.At at x
 split at x
 ·obtain⟨o,e,_,d⟩:=x;exact⟨o,e,fun v z=>by rw[d] at z;cases z⟩
 ·obtain⟨o,e,_,d⟩:=x;exact⟨o,e,fun v z=>by rw[d] at z;cases z⟩
section
variable{prog:Program}{w:World}{A:Around}{E:Value→Shared→Prop}{s:Shared}
theorem Js{p q:Addr}{n:Nat}{vals:Array Value}{R:Value→Shared→Prop}(calm:A.handled=none)(at_:s.heap.IsTupleIter p q n)(tp:s.heap.IsTuple q vals)(more:∀v,vals[n]? = some v→∀g,g.IsTupleIter p q (n+1)→Heap.SameBut p s.heap g→R v { s with heap:=g })(last:vals[n]? = none→∀g x,Heap.ExtBut p s.heap g→(∃ob,g.get? x=some ob∧ob.cls=.type "StopIteration")→E (.ref x) { s with heap:=g }):wpAny (model prog w) A (Builtin.SmallTypes.nextOf (.ref p)) R E s:=by
 obtain⟨ob,eo,co,fo⟩:=id at_;obtain⟨ot,et,_,m,ft⟩:=tp
 unfold Builtin.SmallTypes.nextOf;refine wpAny_bind (wpAny_callSpecial?_slot (name:=Str.ofString "__next__") at_.typeIs F.slot_tuple_iterator_next (wpAny_call_entry F.slot_tuple_iterator_next at_.typeIs F.entry_tuple_iterator_next ?_ (F.args_tuple_iterator_next_1 _)))
 show wpAny _ _ (field (.ref p) 0 >>= _) _ _ s;refine wpAny_bind (wpAny_field eo fo (x:=.ref q) rfl ?_)
 show wpAny _ _ (if (Value.ref q == Value.none)=true then _ else _) _ _ s;rw[if_neg (by intro z;cases z)]
 show wpAny _ _ (field (.ref p) 1 >>= _) _ _ s;refine wpAny_bind (wpAny_field eo fo (x:=.int n 0) rfl ?_)
 show wpAny _ _ (seqItems? (.ref q) >>= _) _ _ s;refine wpAny_bind (wpAny_seqItems et ft ?_)
 simp only[Int.toNat_natCast]
 cases hv:vals[n]? with
 |some v=>
  refine wpAny_bind (wpAny_setField eo fo (by simp) (wpAny_pure ⟨v,rfl,wpAny_pure (more v hv _ ⟨_,Heap.get?_update_self _ eo (Obj.isFreed_of_fields (Obj.data_mapFields fo _)),(Obj.cls_mapFields ..).trans co,?_⟩ (Heap.SameBut.update ..))⟩))
  rw[Obj.data_mapFields fo];simp[rawInt]
 |none=>
  refine wpAny_bind (wpAny_rule (wpAny_bind (wpAny_setField eo fo (by simp) (show wpAny _ _ (newExc (.type "StopIteration") [] >>= _) _ _ _ from wpAny_bind ?_))))
  simp only[newExc,newTuple];refine wpAny_bind (wpAny_newObj_type (wpAny_bind (m:=firstArgMember _ _) (wpAny_of_eq (a:=Value.none) (by first|rfl|(simp only[firstArgMember];rfl)) (wpAny_newObj_type ?_ (by size_fits)))) (by size_fits))
  simp only[raiseNew];refine wpAny_bind (wpAny_handled ?_);first|rw[show A.in1.handled=none from calm]|rw[calm]
  exact wpAny_bind (wpAny_pure (wpAny_throw (last hv _ _ (((Heap.SameBut.update ..).extBut.push _).push _) ⟨_,Heap.get?_push_size _ rfl,rfl⟩)))
theorem Wh{c:Src}{i:Nat}{xs:Array Value}{x:Value}{Q:Value→Shared→Prop}(hh:A.handled=none)(hit:c.At s.heap i)(ht:c.Sq s.heap xs)(hx:xs[i]? = some x)(hQ:∀h',c.At h' (i+1)→Heap.SameBut c.it s.heap h'→Q x { s with heap:=h' }):wpAny (model prog w) A (Builtin.SmallTypes.nextOf (.ref c.it)) Q E s:=by
 unfold Src.At at hit hQ
 unfold Src.Sq at ht
 by_cases e:c.tp=true
 ·rw[if_pos e] at hit ht;exact Js hh hit ht (fun v ev h' a b=>by rw[hx] at ev;cases ev;exact hQ h' (by rw[if_pos e];exact a) b) (fun z=>by rw[hx] at z;cases z)
 ·rw[if_neg e] at hit ht;exact wpAny_nextOf_list_item hit ht hx fun h' a=>hQ h' (by rw[if_neg e];exact a)
theorem Y5{c:Src}{i:Nat}{xs:Array Value}{Q:Value→Shared→Prop}(hh:A.handled=none)(hit:c.At s.heap i)(ht:c.Sq s.heap xs)(hx:xs[i]? = none)(hE:∀h' e,Heap.ExtBut c.it s.heap h'→(∃o,h'.get? e=some o∧o.cls=.type "StopIteration")→E (.ref e) { s with heap:=h' }):wpAny (model prog w) A (Builtin.SmallTypes.nextOf (.ref c.it)) Q E s:=by
 unfold Src.At at hit
 unfold Src.Sq at ht
 by_cases e:c.tp=true
 ·rw[if_pos e] at hit ht;exact Js hh hit ht (fun v ev=>by rw[hx] at ev;cases ev) (fun _=>hE)
 ·rw[if_neg e] at hit ht;exact wpAny_nextOf_list_end hh hit ht hx hE
theorem N0{M:Model}{α β:Type}{f:α→β→Sem (ForInStep β)}{Q:β→Shared→Prop}(I:List α→β→Shared→Prop)(step:∀x r b s,I (x::r) b s→wpAny M A (f x b) (fun y s'=>match y with|.yield b'=>I r b' s'|.done b'=>Q b' s') E s)(fin:∀b s,I [] b s→Q b s) :
  ∀(l:List α) (b:β) (s:Shared),I l b s→wpAny M A (forIn l b f) Q E s
 |[],b,s,h=>by rw[List.forIn_nil];exact wpAny_pure (fin b s h)
 |x::r,b,s,h=>by
  rw[List.forIn_cons]
  refine wpAny_bind (wpAny_mono (step x r b s h) (fun y s' h'=>?_) fun _ _ z=>z)
  cases y with
  |yield b'=>exact N0 I step fin r b' s' h'
  |done b'=>exact wpAny_pure h'
abbrev D5(h:Heap)(T:Addr)(vs:List Value):Prop:=h.get? T=some { cls:=.type "tuple",data:=.seq vs.toArray }
abbrev zfp(z TO:Addr)(cs:List Src):List Addr:=z::TO::cs.map (·.it)
structure ZApart(z TI TO:Addr)(cs:List Src):Prop where
 nd:(z::TO::cs.map (·.it)).Nodup
 ti:TI ∉ zfp z TO cs
 ls:∀c∈cs,c.l ∉ zfp z TO cs
theorem V6{z TI TO:Addr}{cs:List Src}{i:Nat}{old:List Value}{X:Src→Array Value}{Q:Value→Shared→Prop}(hh:A.handled=none)(hne:cs≠[])(hs16:cs.length≤16)(D:ZApart z TI TO cs)(hz:IsZip s.heap z TI TO .none)(hTI:D5 s.heap TI (cs.map fun c=>.ref c.it))(hTO:D5 s.heap TO old)(hol:old.length=cs.length)(hA:∀c∈cs,c.At s.heap i)(hX:∀c∈cs,c.Sq s.heap (X c))(hQ:(∀c∈cs,i<(X c).size)→∀h',IsZip h' z TI TO (rawInt s.heap.objs.size)→(∃vs,D5 h' TO vs∧vs.length=cs.length)→(∀c∈cs,c.At h' (i+1))→D5 h' s.heap.objs.size (cs.map fun c=>(X c).getD i .none)→
   (∀b o,b ∉ zfp z TO cs→s.heap.get? b=some o→h'.get? b=some o)→Q (.ref s.heap.objs.size) { s with heap:=h' })(hE:(∃c∈cs,(X c).size≤i)→∀h' e,(∀b o,b ∉ zfp z TO cs→s.heap.get? b=some o→h'.get? b=some o)→(∃o,h'.get? e=some o∧o.cls=.type "StopIteration")→E (.ref e) { s with heap:=h' }) :
  wpAny (model prog w) A (Builtin.«zip.__next__» ⟨[.ref z],[]⟩) (fun fin s'=>∃v,fin=.done (.ret v)∧Q v s') E s:=by
 show wpAny _ _ (field (.ref z) 2 >>= _) _ _ _;refine wpAny_bind (wpAny_field hz rfl (x:=.bool false) rfl ?_)
 show wpAny _ _ (field (.ref z) 3 >>= _) _ _ _;refine wpAny_bind (wpAny_field hz rfl (x:=.ref TI) rfl (wpAny_bind (wpAny_seqItems hTI rfl ?_)))
 have hemp:¬((cs.map fun c=>Value.ref c.it).toArray.isEmpty=true):=by
  cases cs with
  |nil=>exact absurd rfl hne
  |cons c r=>simp
 simp only[hemp]
 show wpAny _ _ (Builtin.SmallTypes.ownedTupleIsFree (.ref z) >>= _) _ _ _;refine wpAny_bind ?_;unfold Builtin.SmallTypes.ownedTupleIsFree
 refine wpAny_bind (wpAny_field hz rfl (x:=.none) rfl (wpAny_pure ?_));simp only[if_true]
 refine wpAny_bind (wpAny_rule (wpAny_bind (wpAny_field hz rfl (x:=.ref TO) rfl (wpAny_bind (wpAny_setField_rec hz (by simp) fun h₁ hz₁ hs₁=>?_)))))
 have hz₁:IsZip h₁ z TI TO .ellipsis:=hz₁
 refine wpAny_bind ?_
 have ne:=D.nd
 have TOz:TO≠z:=fun e=>(List.nodup_cons.mp ne).1 (by simp[e])
 have itz:∀c∈cs,c.it≠z:=fun c hc e=>(List.nodup_cons.mp ne).1 (by rw[←e];exact List.mem_cons_of_mem _ (List.mem_map_of_mem hc))
 have itT:∀c∈cs,c.it≠TO:=fun c hc e=>(List.nodup_cons.mp (List.nodup_cons.mp ne).2).1 (by rw[←e];exact List.mem_map_of_mem hc)
 have sq:∀{h':Heap},(∀b o,b ∉ zfp z TO cs→s.heap.get? b=some o→h'.get? b=some o)→∀c∈cs,c.Sq h' (X c):=fun k c hc=>(hX c hc).keep fun o e=>k _ o (D.ls c hc) e
 have nfp:∀{b:Addr},b ∉ zfp z TO cs→b≠z∧b≠TO∧∀c∈cs,b≠c.it:=fun {b} hb=>⟨fun e=>hb (by simp[e]),fun e=>hb (by simp[e]),fun c hc e=>hb (by rw[e];exact List.mem_cons_of_mem _ (List.mem_cons_of_mem _ (List.mem_map_of_mem hc)))⟩
 have sz16:∀{n:Nat},n≤16→n≤sizeLine:=fun h=>szl (by omega)
 refine N0 (fun rest b s'=>b=(none,())∧∃pre post h',s'={ s with heap:=h' }∧cs=pre++post∧rest=(post.map fun c=>Value.ref c.it).zipIdx pre.length∧IsZip h' z TI TO .ellipsis∧D5 h' TO (pre.map (fun c=>(X c).getD i .none)++old.drop pre.length)∧
  (∀c∈pre,i<(X c).size∧c.At h' (i+1))∧(∀c∈post,c.At h' i)∧h'.objs.size=s.heap.objs.size∧∀b o,b ∉ zfp z TO cs→s.heap.get? b=some o→h'.get? b=some o) ?_ ?_ _ _ _
  ⟨rfl,[],cs,h₁,rfl,rfl,rfl,hz₁,hs₁.extBut _ _ TOz hTO,fun c hc=>absurd hc (by simp),fun c hc=>(hA c hc).keep fun o e=>hs₁.extBut _ _ (itz c hc) e,hs₁.1,fun b o hb e=>hs₁.extBut _ _ (nfp hb).1 e⟩
 ·rintro⟨itv,k⟩ r b s' ⟨rfl,pre,post,h',rfl,hcs,hr,hz',hTO',hpre,hpost,hsz,hk⟩
  cases post with
  |nil=>simp at hr
  |cons c post=>
   rw[List.map_cons,List.zipIdx_cons] at hr
   injection hr with hr1 hr2
   cases hr1
   have hc:c∈cs:=by rw[hcs];simp
   have nd2:((pre++c::post).map (·.it)).Nodup:=by rw[←hcs];exact(List.nodup_cons.mp (List.nodup_cons.mp ne).2).2
   rw[List.map_append,List.map_cons] at nd2
   have npre:∀d∈pre,d.it≠c.it:=fun d hd e=>(List.nodup_append.mp nd2).2.2 d.it (List.mem_map_of_mem hd) c.it (by simp) e
   have npost:∀d∈post,d.it≠c.it:=fun d hd e=>(List.nodup_cons.mp (List.nodup_append.mp nd2).2.1).1 (by rw[←e];exact List.mem_map_of_mem hd)
   refine wpAny_bind (wpAny_onRaise ?_)
   show wpAny _ _ (Builtin.SmallTypes.nextOf (.ref c.it) >>= _) _ _ _
   by_cases hi:i<(X c).size
   ·refine wpAny_bind (Wh hh (hpost c (by simp)) (sq hk c hc) (Array.getElem?_eq_getElem hi) fun h2 at2 sb2=>wpAny_pure ?_)
    have hTO2:=sb2.extBut _ _ (itT c hc).symm hTO'
    refine wpAny_bind (wpAny_seqItems hTO2 rfl ?_)
    have hlt:pre.length<old.length:=by rw[hol,hcs];simp
    have hlen:(pre.map (fun c=>(X c).getD i .none)++old.drop pre.length).length=cs.length:=by
     rw[List.length_append,List.length_map,List.length_drop,hol,hcs];simp
    refine wpAny_bind (wpAny_updateSeq hTO2 rfl ?_ (by rw[List.size_toArray,hlen];exact sz16 hs16) (by rw[Array.size_setIfInBounds,List.size_toArray,hlen];exact Nat.le_succ_of_le (sz16 hs16)))
    refine wpAny_bind (wpAny_letGo (wpAny_pure ?_))
    have sb3:Heap.SameBut TO h2 (h2.update TO (Obj.mapSeq fun x_2=>x_2.setIfInBounds pre.length (X c)[i])):=Heap.SameBut.update ..
    have hTO3:D5 (h2.update TO (Obj.mapSeq fun x_2=>x_2.setIfInBounds pre.length (X c)[i])) TO ((pre++[c]).map (fun c=>(X c).getD i .none)++old.drop (pre++[c]).length):=by
     show Heap.get? _ _=_
     rw[Heap.get?_update_self _ hTO2 rfl]
     have e1:old.drop pre.length=old[pre.length]::old.drop (pre.length+1):=List.drop_eq_getElem_cons hlt
     have e2:(X c).getD i Value.none=(X c)[i]:=by simp[Array.getD,hi]
     simp only[Obj.mapSeq]
     rw[e1]
     congr 2
     simp only[List.map_append,List.map_cons,List.map_nil,e2,List.setIfInBounds_toArray,List.length_append,List.length_cons,List.length_nil]
     rw[List.set_append_right _ _ (by simp)]
     simp only[List.length_map,Nat.sub_self,List.set_cons_zero,List.append_assoc,List.cons_append,List.nil_append]
     rw[if_pos (by simp;omega)]
    refine⟨rfl,pre++[c],post,_,rfl,by rw[hcs];simp,by rw[hr2];simp,sb3.extBut _ _ TOz.symm (sb2.extBut _ _ (itz c hc).symm hz'),hTO3,fun d hd=>?_,fun d hd=>?_,by rw[sb3.1,sb2.1];exact hsz,fun b o hb e=>sb3.extBut _ _ (nfp hb).2.1 (sb2.extBut _ _ ((nfp hb).2.2 c hc) (hk b o hb e))⟩
    ·rcases List.mem_append.mp hd with hd|hd
     ·have hd2:d∈cs:=by rw[hcs];simp[hd]
      exact⟨(hpre d hd).1,(hpre d hd).2.keep fun o e=>sb3.extBut _ _ (itT d hd2) (sb2.extBut _ _ (npre d hd) e)⟩
     ·have:d=c:=by simpa using hd
      subst this
      exact⟨hi,at2.keep fun o e=>sb3.extBut _ _ (itT d hc) e⟩
    ·have hd2:d∈cs:=by rw[hcs];simp[hd]
     exact(hpost d (by simp[hd])).keep fun o e=>sb3.extBut _ _ (itT d hd2) (sb2.extBut _ _ (npost d hd) e)
   ·refine wpAny_bind (Y5 hh (hpost c (by simp)) (sq hk c hc) (Array.getElem?_eq_none (by omega)) fun h2 e eb st=>?_)
    obtain⟨oe,hoe,hce⟩:=st
    have hz2:IsZip h2 z TI TO .ellipsis:=eb _ _ (itz c hc).symm hz'
    have hez:e≠z:=fun x=>by subst x;rw[hz2] at hoe;cases hoe;simp at hce
    exact wpAny_setField_rec hz2 (by simp) fun h3 _ hs3=>hE ⟨c,hc,by omega⟩ h3 e (fun b o hb x=>hs3.extBut _ _ (nfp hb).1 (eb _ _ ((nfp hb).2.2 c hc) (hk b o hb x))) ⟨oe,hs3.extBut _ _ hez hoe,hce⟩
 ·rintro b s' ⟨rfl,pre,post,h5,rfl,hcs,hr,hz5,hTO5,hpre,hpost,hsz,hk⟩
  have hp:post=[]:=by
   cases post with
   |nil=>rfl
   |cons c r=>simp at hr
  subst hp
  rw[List.append_nil] at hcs
  subst hcs
  rw[←hol,List.drop_length,List.append_nil] at hTO5
  refine wpAny_bind (wpAny_seqItems hTO5 rfl ?_)
  refine wpAny_bind (wpAny_newTuple ?_)
  have hzlt:z<h5.objs.size:=Heap.lt_size hz5
  show wpAny _ _ (Builtin.SmallTypes.ownedTupleHandOut (.ref z) (.ref h5.objs.size) >>= _) _ _ _
  refine wpAny_bind ?_
  unfold Builtin.SmallTypes.ownedTupleHandOut
  have hz6:=Heap.get?_push_of_some { cls:=.type "tuple",data:=.seq (cs.map fun c=>(X c).getD i .none).toArray } hz5
  refine wpAny_bind (wpAny_setField_rec hz6 (by simp) fun h7 hz7 hs7=>?_)
  replace hz7:IsZip h7 z TI TO (rawInt h5.objs.size):=hz7
  refine wpAny_setField_rec hz7 (by simp) fun h8 hz8 hs8=>?_
  replace hz8:IsZip h8 z TI TO (rawInt h5.objs.size):=hz8
  have up:∀c o,c≠z→h5.get? c=some o→h8.get? c=some o:=fun c o c1 e=>hs8.extBut _ _ c1 (hs7.extBut _ _ c1 (Heap.get?_push_of_some _ e))
  have hT8:D5 h8 h5.objs.size (cs.map fun c=>(X c).getD i .none):=hs8.extBut _ _ (Nat.ne_of_gt hzlt) (hs7.extBut _ _ (Nat.ne_of_gt hzlt) (Heap.get?_push_size _ rfl))
  rw[hsz] at hz8 hT8
  refine wpAny_pure ⟨_,rfl,?_⟩
  show Q (.ref h5.objs.size) _
  rw[hsz]
  exact hQ (fun c hc=>(hpre c hc).1) h8 hz8 ⟨_,up _ _ TOz hTO5,by simp⟩ (fun c hc=>(hpre c hc).2.keep fun o e=>up _ o (itz c hc) e) hT8 fun b o hb e=>up b o (nfp hb).1 (hk b o hb e)

theorem Jp{z TI TO:Addr}{cs:List Src}{i:Nat}{old:List Value}{X:Src→Array Value}{Q:Option Value→Shared→Prop}(hh:A.handled=none)(hne:cs≠[])(hs16:cs.length≤16)(D:ZApart z TI TO cs)(hz:IsZip s.heap z TI TO .none)(hTI:D5 s.heap TI (cs.map fun c=>.ref c.it))(hTO:D5 s.heap TO old)(hol:old.length=cs.length)(hA:∀c∈cs,c.At s.heap i)(hX:∀c∈cs,c.Sq s.heap (X c))(hQ:(∀c∈cs,i<(X c).size)→∀h',IsZip h' z TI TO (rawInt s.heap.objs.size)→(∃vs,D5 h' TO vs∧vs.length=cs.length)→(∀c∈cs,c.At h' (i+1))→D5 h' s.heap.objs.size (cs.map fun c=>(X c).getD i .none)→
   (∀b o,b ∉ zfp z TO cs→s.heap.get? b=some o→h'.get? b=some o)→Q (some (.ref s.heap.objs.size)) { s with heap:=h' })(hE:(∃c∈cs,(X c).size≤i)→∀h',(∀b o,b ∉ zfp z TO cs→s.heap.get? b=some o→h'.get? b=some o)→Q none { s with heap:=h' }) :
  wpAny (model prog w) A (pyNext (.ref z)) Q E s:=by
 have ty:s.TypeIs (.ref z) "zip":=⟨_,hz,rfl⟩
 unfold pyNext;refine wpAny_bind (wpAny_attempt (wpAny_callSpecial?_slot (name:=Str.ofString "__next__") ty F.slot_zip_next (wpAny_call_entry F.slot_zip_next ty F.entry_zip_next (V6 hh hne hs16 D hz hTI hTO hol hA hX (fun a h' a1 a2 a3 a4 a5=>wpAny_pure (hQ a h' a1 a2 a3 a4 a5)) fun a h' e hk ⟨o,ho,co⟩=>?_) (F.args_zip_next_1 _))))
 exact wpAny_bind (wpAny_isInstance (T:="StopIteration") (b:=true) ⟨o,ho,co⟩ isSubtype_stop (wpAny_pure (hE a _ hk)))
abbrev Ia(l:Addr)(tp:Bool):Obj:={ cls:=.type (if tp then "tuple_iterator" else "list_iterator"),data:=.fields #[.ref l,.int 0 0] }
theorem De{l:Addr}{tp:Bool}{xs:Array Value}{Q:Value→Shared→Prop}(h:if tp=true then s.heap.IsTuple l xs else s.heap.IsList l xs)(hQ:Q (.ref s.heap.objs.size) { s with heap:=s.heap.push (Ia l tp) }) :
  wpAny (model prog w) A (pyIter (.ref l)) Q E s:=by
 cases tp with
 |true=>exact wpAny_pyIter_tuple h hQ
 |false=>exact wpAny_pyIter_list h hQ
end
abbrev SqOf(h:Heap)(l:Addr)(tp:Bool)(xs:Array Value):Prop:=if tp=true then h.IsTuple l xs else h.IsList l xs
theorem SqOf.push{h:Heap}{l:Addr}{tp:Bool}{xs:Array Value}(x:SqOf h l tp xs)(o:Obj):SqOf (h.push o) l tp xs:=by
 unfold SqOf at x ⊢
 split at x
 ·rename_i e;rw[if_pos e];exact x.push o
 ·rename_i e;rw[if_neg e];exact x.push o
abbrev zh1(h:Heap)(a:Addr×Bool):Heap:=h.push (Ia a.1 a.2)
abbrev D1(h:Heap)(ts:List Value)(k:Nat):Heap:=((h.push { cls:=.type "tuple",data:=.seq ts.toArray }).push { cls:=.type "tuple",data:=.seq (List.replicate k Value.none).toArray }).push
 { cls:=.type "zip",data:=.fields #[.none,.bool false,.bool false,.ref h.objs.size,.ref (h.objs.size+1)] }
theorem V8(a b:Addr×Bool)(xs ys:Array Value) :
  Meets (Builtin.«zip.__new__» ⟨[.type "zip",.ref a.1,.ref b.1],[]⟩) (fun _ R s=>SqOf s.heap a.1 a.2 xs∧SqOf s.heap b.1 b.2 ys∧
   R (.ok (.ret (.ref (s.heap.objs.size+4)))) { s with heap:=D1 (zh1 (zh1 s.heap a) b) [.ref s.heap.objs.size,.ref (s.heap.objs.size+1)] 2 }):=
 .of_wp fun prog w A R s h=>by
  obtain⟨hp,g,d,tk,os⟩:=s;obtain⟨hl1,hl2,h⟩:=h
  have hsub:=sub_zip
  have hL1:SqOf (Shared.heap ⟨hp,g,d,tk,os⟩) a.1 a.2 xs:=hl1
  have hL2:SqOf (Shared.heap ⟨hp.push (Ia a.1 a.2),g,d,tk,os⟩) b.1 b.2 ys:=SqOf.push hl2 _
  wp_walk using De hL1,De hL2
  refine⟨_,rfl,?_⟩
  simp only[D1,zh1,Heap.size_push] at h ⊢
  exact h
set_option maxHeartbeats 2000000 in
set_option maxRecDepth 100000 in
theorem V7(a b c:Addr×Bool)(xs ys zs:Array Value) :
  Meets (Builtin.«zip.__new__» ⟨[.type "zip",.ref a.1,.ref b.1,.ref c.1],[]⟩) (fun _ R s=>SqOf s.heap a.1 a.2 xs∧SqOf s.heap b.1 b.2 ys∧SqOf s.heap c.1 c.2 zs∧
   R (.ok (.ret (.ref (s.heap.objs.size+5)))) { s with heap:=D1 (zh1 (zh1 (zh1 s.heap a) b) c) [.ref s.heap.objs.size,.ref (s.heap.objs.size+1),.ref (s.heap.objs.size+2)] 3 }):=
 .of_wp fun prog w A R s h=>by
  obtain⟨hp,g,d,tk,os⟩:=s;obtain⟨hl1,hl2,hl3,h⟩:=h
  have hsub:=sub_zip
  have hL1:SqOf (Shared.heap ⟨hp,g,d,tk,os⟩) a.1 a.2 xs:=hl1
  have hL2:SqOf (Shared.heap ⟨hp.push (Ia a.1 a.2),g,d,tk,os⟩) b.1 b.2 ys:=SqOf.push hl2 _
  have hL3:SqOf (Shared.heap ⟨(hp.push (Ia a.1 a.2)).push (Ia b.1 b.2),g,d,tk,os⟩) c.1 c.2 zs:=(SqOf.push hl3 _).push _
  wp_walk using De hL1,De hL2,De hL3
  refine⟨_,rfl,?_⟩
  simp only[D1,zh1,Heap.size_push] at h ⊢
  exact h
end D3
namespace D3
open PySem PySem.Spec
open PyProof.Rows hiding St
open L2 hiding St
theorem Src.Sq.inj{h:Heap}{c:Src}{xs ys:Array Value}(x:c.Sq h xs)(y:c.Sq h ys):xs=ys:=by
 unfold Src.Sq at x y
 split at x
 ·rename_i e
  rw[if_pos e] at y
  obtain⟨o,h1,_,n,d⟩:=x
  obtain⟨o',h1',_,n',d'⟩:=y
  rw[h1] at h1';cases h1'
  rw[d] at d';cases d';rfl
 ·rename_i e
  rw[if_neg e] at y
  obtain⟨o,h1,_,n,d⟩:=x
  obtain⟨o',h1',_,n',d'⟩:=y
  rw[h1] at h1';cases h1'
  rw[d] at d';cases d';rfl
def SqC(K:PySem.W.Frag)(H:Hp)(c:Addr×Bool)(xs:List V):Prop:=if c.2=true then SqT K H c.1 xs else SqL K H c.1 xs
def Itz (K:PySem.W.Frag) (cs:List (Addr×Bool)):It:=
  ⟨fun i H=>∀c∈cs,∃xs,SqC K H c xs∧i<xs.length,
   fun i H x H'=>∃p vs,H p=none∧x=.ref p∧H'=upd H p (.tup vs)∧Paired (fun (c:Addr×Bool) v=>∀xs,SqC K H c xs→xs[i]? = some v) cs vs,
   fun i H=>(∀c∈cs,∃xs,SqC K H c xs)∧∃c∈cs,∃xs,SqC K H c xs∧xs.length≤i⟩
section
variable{X:Cx}{pins:List (Addr×Obj)}{σ:St}{H:Hp}{s:Shared}
theorem P3(I:Inv X pins σ H s){c:Src}{xs:List V}(h:SqC X.K H (c.l,c.tp) xs):∃its:List Value,Vals xs its∧c.Sq s.heap its.toArray:=by
 unfold SqC at h
 unfold Src.Sq
 by_cases e:c.tp=true
 ·rw[if_pos e] at h
  obtain⟨its,r,p,_⟩:=I.tuple h
  exact⟨its,r,by rw[if_pos e];exact p⟩
 ·rw[if_neg e] at h
  obtain⟨its,r,p,_⟩:=I.list h
  exact⟨its,r,by rw[if_neg e];exact p.isList⟩
theorem Re(I:Inv X pins σ H s){c:Addr×Bool}{xs ys:List V}(h:SqC X.K H c xs)(h':SqC X.K H c ys):xs=ys:=by
 unfold SqC at h h'
 split at h
 ·rename_i e;rw[if_pos e] at h';exact I.tuple_inj h h'
 ·rename_i e;rw[if_neg e] at h';exact I.list_inj h h'
theorem Md{t':Nat}{h':Heap}{fp:List Addr}(I:Inv X pins σ H s)(k:∀b o,b ∉ fp→s.heap.get? b=some o→h'.get? b=some o)(hf:∀b∈fp,Eb X pins H b):Inv X pins σ H { s with heap:=h',toks:=t' }:=by
 have nit:∀b u,H b=some u→b ∉ fp:=fun b u e z=>by rw[(hf b z).1] at e;cases e
 refine I.step (g':=s.gens) (d':=s.drawn) (ch:=fp) (fun b hb=>⟨(hf b hb).2.2.2.1,(hf b hb).2.1,(hf b hb).2.2.2.2.1,(hf b hb).2.2.2.2.2⟩) (fun b o _ _ hc e _=>k b o hc e) (fun b o _ _ hc e _=>⟨o.slots,k b o hc e⟩) (fun _ _ _ _ n=>n)
  (fun b o hc e=>⟨o,k b o hc e⟩) (fun _ _ e=>e) (fun _ _ _ e=>e) (fun b ps e=>⟨#[],by rw[e];simp⟩) (fun m hm=>?_) (fun b u e=>?_) I.bare
 ·obtain⟨o,es,ep,ho,r⟩:=hm
  exact⟨o,es,ep,k _ o (fun z=>(hf _ z).2.1 rfl) ho,r⟩
 ·refine(I.hok b u e).stay (fun c v hc q=>k c v ?_ q) (fun _ q=>q) fun _ _ q=>q
  rcases hc with z|z
  ·rw[z];exact nit b u e
  ·exact nit c _ z
theorem Va{K:W.Frag}{i:Nat}{Y:Src→Array Value}:∀(cs:List Src),(∀c∈cs,∃v,RelV v ((Y c).getD i .none)∧∀xs,SqC K H (c.l,c.tp) xs→xs[i]? = some v)→
  ∃vs,Vals vs (cs.map fun c=>(Y c).getD i .none)∧Paired (fun(c:Addr×Bool) v=>∀xs,SqC K H c xs→xs[i]? = some v) (cs.map fun c=>(c.l,c.tp)) vs
 |[],_=>⟨[],.nil,.nil⟩
 |c::cs,h=>by
  obtain⟨v,r,q⟩:=h c (by simp)
  obtain⟨vs,a,b⟩:=Va cs fun d hd=>h d (by simp[hd])
  exact⟨v::vs,.cons r a,.cons q b⟩
end
theorem Wc{P:Program}{w:World}{K:W.Frag}{elts:List Expr}{kk:Nat}{pos:Pos}(z TI TO:Addr)(cs:List Src)(hne:cs≠[])(h16:cs.length≤16)(D:ZApart z TI TO cs) :
  Turn P w K (.Tuple elts kk pos) (Itz K (cs.map fun c=>(c.l,c.tp))) (TI::zfp z TO cs) z
   (fun i h=>IsZip h z TI TO .none∧D5 h TI (cs.map fun c=>.ref c.it)∧(∃vs,D5 h TO vs∧vs.length=cs.length)∧∀c∈cs,c.At h i) where
 mem:=by simp
 obj:=fun i h ⟨hz,hTI,⟨vs,hTO,_⟩,hA⟩ b hb=>by
  have hb':b=TI∨b=z∨b=TO∨∃c∈cs,c.it=b:=by simpa[zfp] using hb
  rcases hb' with rfl|rfl|rfl|⟨c,hc,rfl⟩
  ·exact⟨_,hTI,fun v e=>by cases(show Data.seq _ _=Data.cell v from e)⟩
  ·exact⟨_,hz,fun v e=>by cases(show Data.fields _=Data.cell v from e)⟩
  ·exact⟨_,hTO,fun v e=>by cases(show Data.seq _ _=Data.cell v from e)⟩
  ·exact(hA c hc).obj
 keep:=fun i h h' ⟨hz,hTI,⟨vs,hTO,hl⟩,hA⟩ k=>⟨k z (by simp) _ hz,k TI (by simp) _ hTI,⟨vs,k TO (by simp) _ hTO,hl⟩,fun c hc=>(hA c hc).keep fun o e=>k c.it (List.mem_cons_of_mem _ (List.mem_cons_of_mem _ (List.mem_cons_of_mem _ (List.mem_map_of_mem hc)))) o e⟩
 item:=by
  intro X hP hw hK hc i pins s σ H E I hf st hg
  subst hP hw hK
  obtain⟨hz,hTI,⟨old,hTO,hol⟩,hA⟩:=st
  have hex:∀c∈cs,∃(xs:List V) (its:List Value),SqC X.K H (c.l,c.tp) xs∧i<xs.length∧Vals xs its∧c.Sq s.heap its.toArray:=fun c hc=>by
   obtain⟨xs,h1,h2⟩:=hg (c.l,c.tp) (List.mem_map_of_mem (f:=fun c:Src=>(c.l,c.tp)) hc)
   obtain⟨its,r,p⟩:=P3 I h1
   exact⟨xs,its,h1,h2,r,p⟩
  open Classical in
  let Y:Src→Array Value:=fun c=>if h:∃ys,c.Sq s.heap ys then Classical.choose h else #[]
  have hY:∀c∈cs,c.Sq s.heap (Y c):=fun c hc=>by
   obtain⟨xs,its,_,_,_,p⟩:=hex c hc
   have h:∃ys,c.Sq s.heap ys:=⟨_,p⟩
   show c.Sq s.heap (if h:∃ys,c.Sq s.heap ys then Classical.choose h else #[])
   rw[dif_pos h];exact Classical.choose_spec h
  obtain⟨vs,rv,pv⟩:=Va (H:=H) (K:=X.K) (i:=i) (Y:=Y) cs fun c hc=>by
   obtain⟨xs,its,h1,h2,r,p⟩:=hex c hc
   have e:=(hY c hc).inj p
   have hx:xs[i]? = some xs[i]:=List.getElem?_eq_getElem h2
   obtain⟨u,hu,ru⟩:=r.get hx
   refine⟨xs[i],?_,fun ys hy=>by rw[Re I hy h1];exact hx⟩
   rw[e]
   have:its.toArray.getD i Value.none=u:=by simp[Array.getD_eq_getD_getElem?,hu]
   rw[this];exact ru
  refine Jp (X:=Y) (I.ok.hd hc) hne h16 D hz hTI hTO hol hA hY (fun _ h' a1 a2 a3 a4 a5=>?_) fun⟨c,hc,hl⟩=>?_
  ·refine⟨_,rfl,wpAny_letOwnedTupleGo_zip (s:={ s with heap:=h' }) a1 fun h2 hz2 sb2=>?_⟩
   have TIne:TI≠z:=fun e=>D.ti (by simp[e])
   have TOz:TO≠z:=fun e=>(List.nodup_cons.mp D.nd).1 (by simp[e])
   have itz:∀c∈cs,c.it≠z:=fun c hc e=>(List.nodup_cons.mp D.nd).1 (by rw[←e];exact List.mem_cons_of_mem _ (List.mem_map_of_mem hc))
   have hTne:s.heap.objs.size≠z:=Nat.ne_of_gt (Heap.lt_size hz)
   have I1:Inv X pins σ (upd H s.heap.objs.size (.tup vs)) { s with heap:=s.heap.push { cls:=.type "tuple",data:=.seq (cs.map fun c=>(Y c).getD i .none).toArray } }:=
    I.laid (t':=s.toks) (fun b u e=>Heap.get?_push_of_some _ e) (Nat.le_refl _) ⟨by rw[rv.length,List.length_map];exact szl (by omega),_,rv,⟨_,Heap.get?_push_size _ rfl,rfl,_,rfl⟩⟩
   have hfl:∀b∈TI::zfp z TO cs,b<s.heap.objs.size:=fun b hb=>by
    have hb':b=TI∨b=z∨b=TO∨∃c∈cs,c.it=b:=by simpa[zfp] using hb
    rcases hb' with rfl|rfl|rfl|⟨c,hc,rfl⟩
    ·exact Heap.lt_size hTI
    ·exact Heap.lt_size hz
    ·exact Heap.lt_size hTO
    ·obtain⟨o,e,_⟩:=(hA c hc).obj;exact Heap.lt_size e
   have hf1:∀b∈TI::zfp z TO cs,Eb X pins (upd H s.heap.objs.size (.tup vs)) b:=fun b hb=>⟨by rw[Am (Nat.ne_of_lt (hfl b hb))];exact(hf b hb).1,(hf b hb).2⟩
   have I2:=Md (t':=s.toks) (h':=h2) I1 (fp:=TI::zfp z TO cs) (fun b o hb e=>?_) hf1
   ·refine⟨.ref s.heap.objs.size,_,I2,rfl,⟨s.heap.objs.size,vs,I.hok.fresh (Nat.le_refl _),rfl,rfl,pv⟩,⟨hz2,sb2.extBut _ _ TIne (a5 _ _ D.ti hTI),?_,fun c hc=>(a3 c hc).keep fun o e=>sb2.extBut _ _ (itz c hc) e⟩,fun b hb=>(hf1 b hb).1⟩
    obtain⟨ws,b1,b2⟩:=a2
    exact⟨ws,sb2.extBut _ _ TOz b1,b2⟩
   ·have hbz:b≠z:=fun e=>hb (by simp[e])
    refine sb2.extBut _ _ hbz ?_
    rcases Heap.get?_push_cases e with ⟨rfl,rfl⟩|e
    ·exact a4
    ·exact a5 _ _ (fun q=>hb (List.mem_cons_of_mem _ q)) e
  ·intro h' hk
   obtain⟨xs,its,h1,h2,r,p⟩:=hex c hc
   have e:=(hY c hc).inj p
   rw[e,List.size_toArray,←r.length] at hl
   omega
 done:=by
  intro X hP hw hK hc i pins s σ H E I hf st hg
  subst hP hw hK
  obtain⟨hz,hTI,⟨old,hTO,hol⟩,hA⟩:=st
  obtain⟨hall,c0,hc0,xs0,hx0,hl0⟩:=hg
  obtain⟨c1,hc1,rfl⟩:=List.mem_map.mp hc0
  have hex:∀c∈cs,∃(xs:List V) (its:List Value),SqC X.K H (c.l,c.tp) xs∧Vals xs its∧c.Sq s.heap its.toArray:=fun c hc=>by
   obtain⟨xs,h1⟩:=hall (c.l,c.tp) (List.mem_map_of_mem (f:=fun c:Src=>(c.l,c.tp)) hc)
   obtain⟨its,r,p⟩:=P3 I h1
   exact⟨xs,its,h1,r,p⟩
  open Classical in
  let Y:Src→Array Value:=fun c=>if h:∃ys,c.Sq s.heap ys then Classical.choose h else #[]
  have hY:∀c∈cs,c.Sq s.heap (Y c):=fun c hc=>by
   obtain⟨xs,its,_,_,p⟩:=hex c hc
   have h:∃ys,c.Sq s.heap ys:=⟨_,p⟩
   show c.Sq s.heap (if h:∃ys,c.Sq s.heap ys then Classical.choose h else #[])
   rw[dif_pos h];exact Classical.choose_spec h
  refine Jp (X:=Y) (I.ok.hd hc) hne h16 D hz hTI hTO hol hA hY (fun hlt=>?_) fun _ h' hk=>⟨rfl,Md (t':=s.toks) (h':=h') (fp:=TI::zfp z TO cs) I (fun b o hb e=>hk b o (fun q=>hb (List.mem_cons_of_mem _ q)) e) hf⟩
  have h1:=hlt c1 hc1
  obtain⟨xs,its,h2,r,p⟩:=hex c1 hc1
  rw[(hY c1 hc1).inj p,List.size_toArray,←r.length,Re I h2 hx0] at h1
  omega
 self:=fun _ _ _ _ _ st h=>wpAny_pyIter_zip st.1 h
end D3
namespace D3
open PySem PySem.Spec
open PyProof.Rows hiding St
open L2 hiding St
theorem J2(a b c:Value):checkTypeCall "zip" ⟨[a,b,c],[]⟩=pure ():=by kernel_rfl
theorem Ko(a b c:Value):checkBuiltinCall "zip.__new__" ⟨[.type "zip",a,b,c],[]⟩=pure ():=by kernel_rfl
theorem Fk(a b c d:Value):argsOk "object.__init__" ⟨[a,b,c,d],[]⟩:=by
 unfold argsOk;rw[signature?_of (id:="object.__init__") (n:=['_','_','t','i','n','i','_','_']) (o:=['t','c','e','j','b','o']) (by kernel_rfl) PySem.F.owner_object];kernel_rfl
theorem Aa4:bootBuiltins "zip" = some (.type "zip"):=by decide +kernel
section
variable{X:Cx}{pins:List (Addr×Obj)}{σ:St}{H:Hp}{s:Shared}{E:Value→Shared→Prop}
theorem Fp(I:Inv X pins σ H s){c:Addr×Bool}(h:∃xs,SqC X.K H c xs):∃xs,SqOf s.heap c.1 c.2 xs∧c.1<s.heap.objs.size:=by
 obtain⟨xs,h⟩:=h
 obtain⟨its,_,p⟩:=P3 (c:=⟨0,c.1,c.2⟩) I h
 refine⟨_,p,?_⟩
 unfold Src.Sq at p
 split at p
 ·obtain⟨o,e,_⟩:=p;exact Heap.lt_size e
 ·obtain⟨o,e,_⟩:=p;exact Heap.lt_size e
theorem Ij{h h':Heap}{l:Addr}{tp:Bool}(e:h'.get? h.objs.size=some (Ia l tp)):Src.At h' ⟨h.objs.size,l,tp⟩ 0:=by
 unfold Src.At
 cases tp with
 |true=>exact⟨_,e,rfl,rfl⟩
 |false=>exact⟨_,e,rfl,rfl⟩
theorem Hc{elts:List Expr}{kk:Nat}{tp:Pos}{R:It→Hp→Prop}(I:Inv X pins σ H s){z TI TO:Addr}{cs:List Src}{h':Heap}(hne:cs≠[])(h16:cs.length≤16)(hk:∀b o,s.heap.get? b=some o→h'.get? b=some o)(hz:IsZip h' z TI TO .none)(hTI:D5 h' TI (cs.map fun c=>.ref c.it))(hTO:D5 h' TO (List.replicate cs.length .none))(hA:∀c∈cs,c.At h' 0)(nd:(z::TO::cs.map (·.it)).Nodup)(ti:TI ∉ zfp z TO cs)(new:∀b∈TI::zfp z TO cs,s.heap.objs.size≤b)(old:∀c∈cs,c.l<s.heap.objs.size)(q:R (Itz X.K (cs.map fun c=>(c.l,c.tp))) H) :
  wpAny (model X.prog X.w) X.A (pyIter (.ref z)) (PIE X pins σ (.Tuple elts kk tp) R) E { s with heap:=h' }:=by
 refine wpAny_pyIter_zip (s:={ s with heap:=h' }) hz ?_
 have D:ZApart z TI TO cs:=⟨nd,ti,fun c hc hb=>absurd (Nat.lt_of_lt_of_le (old c hc) (new _ (List.mem_cons_of_mem _ hb))) (Nat.lt_irrefl _)⟩
 refine⟨z,TI::zfp z TO cs,_,_,H,rfl,I.kept (t':=s.toks) hk,Wc z TI TO cs hne h16 D,⟨hz,hTI,⟨_,hTO,by simp⟩,hA⟩,fun b hb=>I.fpOk (new b hb) (I.hok.fresh (new b hb)),q⟩
theorem Yx{elts:List Expr}{kk:Nat}{tp:Pos}{R:It→Hp→Prop}(I:Inv X pins σ H s){a b:Addr×Bool}(ha:∃xs,SqC X.K H a xs)(hb:∃xs,SqC X.K H b xs)(q:R (Itz X.K [a,b]) H) :
  wpAny (model X.prog X.w) X.A (call (.type "zip") [.ref a.1,.ref b.1]) (fun v s1=>wpAny (model X.prog X.w) X.A (pyIter v) (PIE X pins σ (.Tuple elts kk tp) R) E s1) E s:=by
 obtain⟨xs,sa,la⟩:=Fp I ha
 obtain⟨ys,sb,lb⟩:=Fp I hb
 refine callType_new F.called_zip (by decide) (F.typeCall_zip_2 _ _) (F.newCall_zip_2 _ _) (fun obj=>F.args_object_init_3 obj _ _) F.entry_zip_new (V8 a b xs ys) ⟨sa,sb,?_⟩
 generalize hh:s.heap=h at *
 have z1:(zh1 h a).objs.size=h.objs.size+1:=Heap.size_push ..
 have z2:(zh1 (zh1 h a) b).objs.size=h.objs.size+2:=by rw[Heap.size_push,z1]
 have g0:∀c o,(zh1 (zh1 h a) b).get? c=some o→(D1 (zh1 (zh1 h a) b) [.ref h.objs.size,.ref (h.objs.size+1)] 2).get? c=some o:=fun c o e=>Heap.get?_push_of_some _ (Heap.get?_push_of_some _ (Heap.get?_push_of_some _ e))
 have gz:(D1 (zh1 (zh1 h a) b) [.ref h.objs.size,.ref (h.objs.size+1)] 2).get? (h.objs.size+4)=some { cls:=.type "zip",data:=.fields #[.none,.bool false,.bool false,.ref (h.objs.size+2),.ref (h.objs.size+3)] }:=by
  have e:h.objs.size+4=(((zh1 (zh1 h a) b).push { cls:=.type "tuple",data:=.seq [Value.ref h.objs.size,.ref (h.objs.size+1)].toArray }).push { cls:=.type "tuple",data:=.seq (List.replicate 2 Value.none).toArray }).objs.size:=by rw[Heap.size_push,Heap.size_push,z2]
  rw[e];unfold D1;rw[z2];exact Heap.get?_push_size _ rfl
 have gTI:D5 (D1 (zh1 (zh1 h a) b) [.ref h.objs.size,.ref (h.objs.size+1)] 2) (h.objs.size+2) [.ref h.objs.size,.ref (h.objs.size+1)]:=by
  rw[←z2];exact Heap.get?_push_of_some _ (Heap.get?_push_of_some _ (Heap.get?_push_size _ rfl))
 have gTO:D5 (D1 (zh1 (zh1 h a) b) [.ref h.objs.size,.ref (h.objs.size+1)] 2) (h.objs.size+3) (List.replicate 2 Value.none):=by
  have e:h.objs.size+3=((zh1 (zh1 h a) b).push { cls:=.type "tuple",data:=.seq [Value.ref h.objs.size,.ref (h.objs.size+1)].toArray }).objs.size:=by rw[Heap.size_push,z2]
  rw[e];exact Heap.get?_push_of_some _ (Heap.get?_push_size _ rfl)
 have A1:Src.At (D1 (zh1 (zh1 h a) b) [.ref h.objs.size,.ref (h.objs.size+1)] 2) ⟨h.objs.size,a.1,a.2⟩ 0:=Ij (g0 _ _ (Heap.get?_push_of_some _ (Heap.get?_push_size _ rfl)))
 have A2:Src.At (D1 (zh1 (zh1 h a) b) [.ref h.objs.size,.ref (h.objs.size+1)] 2) ⟨h.objs.size+1,b.1,b.2⟩ 0:=by
  have:=Ij (h:=zh1 h a) (l:=b.1) (tp:=b.2) (g0 _ _ (Heap.get?_push_size _ rfl))
  rw[z1] at this;exact this
 refine⟨⟨_,gz,rfl⟩,Hc (s:=s) (cs:=[⟨h.objs.size,a.1,a.2⟩,⟨h.objs.size+1,b.1,b.2⟩]) I (by simp) (by simp) (fun c o e=>?_) gz gTI gTO (fun c hc=>?_) (by simp) (by simp[zfp]) (fun c hc=>?_) (fun c hc=>?_) q⟩
 ·rw[hh] at e;exact g0 _ _ (Heap.get?_push_of_some _ (Heap.get?_push_of_some _ e))
 ·simp only[List.mem_cons,List.not_mem_nil,or_false] at hc
  rcases hc with rfl|rfl
  ·exact A1
  ·exact A2
 ·rw[hh]
  simp only[zfp,List.map_cons,List.map_nil,List.mem_cons,List.not_mem_nil,or_false] at hc
  rcases hc with rfl|rfl|rfl|rfl|rfl<;>first|exact Nat.le_refl _|exact Nat.le_add_right _ _
 ·rw[hh]
  simp only[List.mem_cons,List.not_mem_nil,or_false] at hc
  rcases hc with rfl|rfl
  ·exact la
  ·exact lb
theorem Yw{elts:List Expr}{kk:Nat}{tp:Pos}{R:It→Hp→Prop}(I:Inv X pins σ H s){a b c3:Addr×Bool}(ha:∃xs,SqC X.K H a xs)(hb:∃xs,SqC X.K H b xs)(hc3:∃xs,SqC X.K H c3 xs)(q:R (Itz X.K [a,b,c3]) H) :
  wpAny (model X.prog X.w) X.A (call (.type "zip") [.ref a.1,.ref b.1,.ref c3.1]) (fun v s1=>wpAny (model X.prog X.w) X.A (pyIter v) (PIE X pins σ (.Tuple elts kk tp) R) E s1) E s:=by
 obtain⟨xs,sa,la⟩:=Fp I ha
 obtain⟨ys,sb,lb⟩:=Fp I hb
 obtain⟨zs,sc,lc⟩:=Fp I hc3
 refine callType_new F.called_zip (by decide) (J2 _ _ _) (Ko _ _ _) (fun obj=>Fk obj _ _ _) F.entry_zip_new (V7 a b c3 xs ys zs) ⟨sa,sb,sc,?_⟩
 generalize hh:s.heap=h at *
 have z1:(zh1 h a).objs.size=h.objs.size+1:=Heap.size_push ..
 have z2:(zh1 (zh1 h a) b).objs.size=h.objs.size+2:=by rw[Heap.size_push,z1]
 have z3:(zh1 (zh1 (zh1 h a) b) c3).objs.size=h.objs.size+3:=by rw[Heap.size_push,z2]
 have g0:∀c o,(zh1 (zh1 (zh1 h a) b) c3).get? c=some o→(D1 (zh1 (zh1 (zh1 h a) b) c3) [.ref h.objs.size,.ref (h.objs.size+1),.ref (h.objs.size+2)] 3).get? c=some o:=fun c o e=>Heap.get?_push_of_some _ (Heap.get?_push_of_some _ (Heap.get?_push_of_some _ e))
 have gz:(D1 (zh1 (zh1 (zh1 h a) b) c3) [.ref h.objs.size,.ref (h.objs.size+1),.ref (h.objs.size+2)] 3).get? (h.objs.size+5)=some { cls:=.type "zip",data:=.fields #[.none,.bool false,.bool false,.ref (h.objs.size+3),.ref (h.objs.size+4)] }:=by
  have e:h.objs.size+5=(((zh1 (zh1 (zh1 h a) b) c3).push { cls:=.type "tuple",data:=.seq [Value.ref h.objs.size,.ref (h.objs.size+1),.ref (h.objs.size+2)].toArray }).push { cls:=.type "tuple",data:=.seq (List.replicate 3 Value.none).toArray }).objs.size:=by rw[Heap.size_push,Heap.size_push,z3]
  rw[e];unfold D1;rw[z3];exact Heap.get?_push_size _ rfl
 have gTI:D5 (D1 (zh1 (zh1 (zh1 h a) b) c3) [.ref h.objs.size,.ref (h.objs.size+1),.ref (h.objs.size+2)] 3) (h.objs.size+3) [.ref h.objs.size,.ref (h.objs.size+1),.ref (h.objs.size+2)]:=by
  rw[←z3];exact Heap.get?_push_of_some _ (Heap.get?_push_of_some _ (Heap.get?_push_size _ rfl))
 have gTO:D5 (D1 (zh1 (zh1 (zh1 h a) b) c3) [.ref h.objs.size,.ref (h.objs.size+1),.ref (h.objs.size+2)] 3) (h.objs.size+4) (List.replicate 3 Value.none):=by
  have e:h.objs.size+4=((zh1 (zh1 (zh1 h a) b) c3).push { cls:=.type "tuple",data:=.seq [Value.ref h.objs.size,.ref (h.objs.size+1),.ref (h.objs.size+2)].toArray }).objs.size:=by rw[Heap.size_push,z3]
  rw[e];exact Heap.get?_push_of_some _ (Heap.get?_push_size _ rfl)
 have A1:Src.At (D1 (zh1 (zh1 (zh1 h a) b) c3) [.ref h.objs.size,.ref (h.objs.size+1),.ref (h.objs.size+2)] 3) ⟨h.objs.size,a.1,a.2⟩ 0:=Ij (g0 _ _ (Heap.get?_push_of_some _ (Heap.get?_push_of_some _ (Heap.get?_push_size _ rfl))))
 have A2:Src.At (D1 (zh1 (zh1 (zh1 h a) b) c3) [.ref h.objs.size,.ref (h.objs.size+1),.ref (h.objs.size+2)] 3) ⟨h.objs.size+1,b.1,b.2⟩ 0:=by
  have:=Ij (h:=zh1 h a) (l:=b.1) (tp:=b.2) (g0 _ _ (Heap.get?_push_of_some _ (Heap.get?_push_size _ rfl)))
  rw[z1] at this;exact this
 have A3:Src.At (D1 (zh1 (zh1 (zh1 h a) b) c3) [.ref h.objs.size,.ref (h.objs.size+1),.ref (h.objs.size+2)] 3) ⟨h.objs.size+2,c3.1,c3.2⟩ 0:=by
  have:=Ij (h:=zh1 (zh1 h a) b) (l:=c3.1) (tp:=c3.2) (g0 _ _ (Heap.get?_push_size _ rfl))
  rw[z2] at this;exact this
 refine⟨⟨_,gz,rfl⟩,Hc (s:=s) (cs:=[⟨h.objs.size,a.1,a.2⟩,⟨h.objs.size+1,b.1,b.2⟩,⟨h.objs.size+2,c3.1,c3.2⟩]) I (by simp) (by simp) (fun c o e=>?_) gz gTI gTO (fun c hc=>?_) (by simp) (by simp[zfp]) (fun c hc=>?_) (fun c hc=>?_) q⟩
 ·rw[hh] at e;exact g0 _ _ (Heap.get?_push_of_some _ (Heap.get?_push_of_some _ (Heap.get?_push_of_some _ e)))
 ·simp only[List.mem_cons,List.not_mem_nil,or_false] at hc
  rcases hc with rfl|rfl|rfl
  ·exact A1
  ·exact A2
  ·exact A3
 ·rw[hh]
  simp only[zfp,List.map_cons,List.map_nil,List.mem_cons,List.not_mem_nil,or_false] at hc
  rcases hc with rfl|rfl|rfl|rfl|rfl|rfl<;>first|exact Nat.le_refl _|exact Nat.le_add_right _ _
 ·rw[hh]
  simp only[List.mem_cons,List.not_mem_nil,or_false] at hc
  rcases hc with rfl|rfl|rfl
  ·exact la
  ·exact lb
  ·exact lc
end
end D3
namespace D3
open PySem PySem.Spec
open PyProof.Rows hiding St
open L2 hiding St
def Ym(ls:List (List D))(i:Nat):List D:=ls.map fun l=>l.getD i .non
def Cq:List (List D)→Nat
 |[]=>0
 |[l]=>l.length
 |l::m::r=>min l.length (Cq (m::r))
def Bx(ls:List (List D)):List D:=(List.range (Cq ls)).map fun i=>.tup (Ym ls i)
theorem B6(ls:List (List D)):(Bx ls).length=Cq ls:=by simp[Bx]
theorem Nz{ls:List (List D)}{i:Nat}(h:i<Cq ls):(Bx ls)[i]? = some (.tup (Ym ls i)):=by simp[Bx,h]
theorem Fu:∀{ls:List (List D)} {i:Nat},i<Cq ls→∀l∈ls,i<l.length
 |[],_,h,_,_=>by simp[Cq] at h
 |[l],i,h,m,hm=>by
  have:m=l:=by simpa using hm
  subst this;exact h
 |l::k::r,i,h,m,hm=>by
  have h1:i<min l.length (Cq (k::r)):=h
  rcases List.mem_cons.mp hm with e|e
  ·subst e;omega
  ·exact Fu (by omega) m e
theorem Rs:∀{ls:List (List D)},ls≠[]→∃l∈ls,l.length≤Cq ls
 |[],h=>absurd rfl h
 |[l],_=>⟨l,by simp,Nat.le_refl _⟩
 |l::k::r,_=>by
  obtain⟨m,hm,h1⟩:=Rs (ls:=k::r) (by simp)
  show ∃m∈l::k::r,m.length≤min l.length (Cq (k::r))
  by_cases h:l.length≤Cq (k::r)
  ·exact⟨l,by simp,by omega⟩
  ·exact⟨m,by simp[List.mem_cons.mp hm],by omega⟩
abbrev Il(K:PySem.W.Frag)(H:Hp)(cs:List (Addr×Bool))(ls:List (List D)):Prop:=Paired (fun(c:Addr×Bool) l=>∃xs,SqC K H c xs∧DVs K H l xs) cs ls
structure ItemsX(K:PySem.W.Frag)(J:It)(H:Hp)(ds:List D):Prop where
 go:∀i,i<ds.length→J.go i H
 yl:∀i x H',i<ds.length→J.yld i H x H'→Ext H H'∧(∀G,RelG K H G→RelG K H' G)∧∃d,ds[i]? = some d∧DV K H' d x
 st:J.stop ds.length H
theorem Ef{K:W.Frag}{H:Hp}:∀{cs:List (Addr×Bool)} {ls:List (List D)},Il K H cs ls→∀c∈cs,∃l∈ls,∃xs,SqC K H c xs∧DVs K H l xs
 |_,_,.cons h t,c,hc=>by
  rcases List.mem_cons.mp hc with e|e
  ·subst e;exact⟨_,by simp,h⟩
  ·obtain⟨l,hl,q⟩:=Ef t c e;exact⟨l,by simp[hl],q⟩
theorem Lb{K:W.Frag}{H:Hp}:∀{cs:List (Addr×Bool)} {ls:List (List D)},Il K H cs ls→∀l∈ls,∃c∈cs,∃xs,SqC K H c xs∧DVs K H l xs
 |_,_,.cons h t,c,hc=>by
  rcases List.mem_cons.mp hc with e|e
  ·subst e;exact⟨_,by simp,h⟩
  ·obtain⟨l,hl,q⟩:=Lb t c e;exact⟨l,by simp[hl],q⟩
theorem Vf{K:W.Frag}{H:Hp}{i:Nat}:∀{cs:List (Addr×Bool)} {ls:List (List D)} {vs:List V},Il K H cs ls→(∀l∈ls,i<l.length)→Paired (fun(c:Addr×Bool) v=>∀xs,SqC K H c xs→xs[i]? = some v) cs vs→DVs K H (Ym ls i) vs
 |_,_,_,.nil,_,.nil=>.nil
 |_,_,_,.cons (b:=l) h t,hl,.cons q r=>by
  obtain⟨xs,h1,h2⟩:=h
  have hi:i<l.length:=hl l (by simp)
  obtain⟨v,hv,dv⟩:=h2.get (List.getElem?_eq_getElem hi)
  rw[q xs h1] at hv
  cases hv
  show DVs K H (l.getD i .non::Ym _ i) _
  have e:l.getD i .non=l[i]:=by simp[List.getD,hi]
  rw[e]
  exact .cons dv (Vf t (fun m hm=>hl m (by simp[hm])) r)
theorem Ll{K:W.Frag}{H:Hp}{cs:List (Addr×Bool)}{ls:List (List D)}(h:Il K H cs ls)(hne:ls≠[]):ItemsX K (Itz K cs) H (Bx ls):=by
 refine⟨fun i hi c hc=>?_,fun i x H' hi y=>?_,⟨fun c hc=>?_,?_⟩⟩
 ·rw[B6] at hi
  obtain⟨l,hl,xs,h1,h2⟩:=Ef h c hc
  exact⟨xs,h1,by rw[←h2.length];exact Fu hi l hl⟩
 ·rw[B6] at hi
  obtain⟨p,vs,hp,rfl,rfl,pv⟩:=y
  refine⟨Ext.fresh hp,fun G r=>r.tup hp,_,Nz hi,.tup Ar ((Vf h (Fu hi) pv).ext (Ext.fresh hp))⟩
 ·obtain⟨l,_,xs,h1,_⟩:=Ef h c hc
  exact⟨xs,h1⟩
 ·obtain⟨l,hl,hle⟩:=Rs hne
  obtain⟨c,hc,xs,h1,h2⟩:=Lb h l hl
  exact⟨c,hc,xs,h1,by rw[B6,←h2.length];exact hle⟩
def Bd(G:Gp):List D→Option (List (List D))
 |[]=>some []
 |d::r=>match Aq G d,Bd G r with
  |some l,some ls=>some (l::ls)
  |_,_=>none
def Hy:D→V→Addr×Bool
 |.tup _,.ref a=>(a,true)
 |_,.ref a=>(a,false)
 |_,_=>(0,false)
theorem Ab0{K:W.Frag}{H:Hp}{G:Gp}{d:D}{v:V}{l:List D}(rg:RelG K H G)(h:Aq G d=some l)(dv:DV K H d v):v=.ref (Hy d v).1∧∃xs,SqC K H (Hy d v) xs∧DVs K H l xs:=by
 cases dv with
 |tup e r=>cases h;exact⟨rfl,_,.inl (.inl e),r⟩
 |lint e=>cases h;exact⟨rfl,_,e.sq,DVs.ints⟩
 |ref a=>
  simp only[Aq] at h
  split at h
  ·rename_i ds' q
   cases h
   obtain⟨xs,e,r⟩:=rg a _ q
   exact⟨rfl,xs,.inl (.inl e),r⟩
  ·cases h
 |_=>cases h
theorem Fo{K:W.Frag}{H:Hp}{G:Gp}(rg:RelG K H G):∀{ds:List D} {vs:List V} {ls:List (List D)},Bd G ds=some ls→DVs K H ds vs→vs=(List.zipWith Hy ds vs).map (fun c=>V.ref c.1)∧Il K H (List.zipWith Hy ds vs) ls
 |[],_,_,h,.nil=>by cases h;exact⟨rfl,.nil⟩
 |d::ds,_,_,h,.cons (v:=v) (vs:=vs) dv t=>by
  simp only[Bd] at h
  split at h
  ·rename_i l ls e1 e2
   cases h
   obtain⟨a1,a2⟩:=Ab0 rg e1 dv
   obtain⟨b1,b2⟩:=Fo rg e2 t
   refine⟨?_,.cons a2 b2⟩
   show v::vs=V.ref (Hy d v).1::_
   rw[←a1,←b1]
  ·cases h
def iZip(K:PySem.W.Frag)(n:Nat)(ta:TA):TI:=fun σ H R=>ta σ H fun vs H1=>∃cs:List (Addr×Bool),vs=cs.map (fun c=>V.ref c.1)∧cs.length=n∧(∀c∈cs,∃xs,SqC K H1 c xs)∧R (Itz K cs) H1
section
variable{X:Cx}{a b c e:Expr}{elts:List Expr}{kk:Nat}{tp p pos:Pos}{body:List Stmt}
theorem Rp{ta:TA}(hg:Gl X "zip")(hm:X.mg "zip" = none)(ha:PA X [a,b] ta)(hs:starEach [a,b] X.env=(false,eval a X.env)::starEach [b] X.env:=by rfl)(hpl:(backTo pos (starEach [b] X.env)).any (·.1)=false:=by rfl) :
  PI X (.Tuple elts kk tp) (.Call (.Name "zip" p) [a,b] [] pos) (iZip X.K 2 ta):=by
 intro pins s σ H R I h
 refine Call_ (Do I hg hm Aa4 (PyProof.Rows.callWith_type1 (thn (ha pos pins s σ H _ I h) fun us s1 ⟨vs,H1,I1,r1,q1⟩=>?_) hs hpl))
 obtain⟨cs,e,hl,hq,q⟩:=q1
 match cs,hl with
 |[x,y],_=>
  subst e
  obtain⟨u1,u2,rfl,r1,r2⟩:=No r1
  cases r1;cases r2
  exact Yx I1 (hq x (by simp)) (hq y (by simp)) q
theorem Aa5{x y z:V}{us:List Value}(r:Vals [x,y,z] us):∃u v w,us=[u,v,w]∧RelV x u∧RelV y v∧RelV z w:=by
 cases r with|cons a t=>cases t with|cons b t=>cases t with|cons c t=>cases t;exact⟨_,_,_,rfl,a,b,c⟩
theorem Zv{ta:TA}(hg:Gl X "zip")(hm:X.mg "zip" = none)(ha:PA X [a,b,c] ta)(hs:starEach [a,b,c] X.env=(false,eval a X.env)::starEach [b,c] X.env:=by rfl)(hpl:(backTo pos (starEach [b,c] X.env)).any (·.1)=false:=by rfl) :
  PI X (.Tuple elts kk tp) (.Call (.Name "zip" p) [a,b,c] [] pos) (iZip X.K 3 ta):=by
 intro pins s σ H R I h
 refine Call_ (Do I hg hm Aa4 (PyProof.Rows.callWith_type1 (thn (ha pos pins s σ H _ I h) fun us s1 ⟨vs,H1,I1,r1,q1⟩=>?_) hs hpl))
 obtain⟨cs,e,hl,hq,q⟩:=q1
 match cs,hl with
 |[x,y,z],_=>
  subst e
  obtain⟨u1,u2,u3,rfl,r1,r2,r3⟩:=Aa5 r1
  cases r1;cases r2;cases r3
  exact Yw I1 (hq x (by simp)) (hq y (by simp)) (hq z (by simp)) q
theorem Jt{K:W.Frag}{J:It}{ds:List D}{same:Gp→Prop}{g:DTG}{tb:DTS}{D:DEnds}{E:Ends}{σD:DSt}{σ:St}{G:Gp}{H:Hp}(rs:RelS K H σD σ)(rg:RelG K H G)(cl:D.Reach K H E)(hJ:∀H' G',Ext H H'→RelG K H' G'→same G'→ItemsX K J H' ds)(h:L4 ds same g tb D σD G) :
  ∃W:Nat→Nat→St→Hp→Prop,(∃m,W 0 m σ H)∧∀i m σ H,W i m σ H→
   (J.stop i H∧E.nx σ H)∨(J.go i H∧∃N:St→Hp→Prop,(∀σ' H',N σ' H'→∃m',m'<m∧W (i+1) m' σ' H')∧∀x H',J.yld i H x H'→Di K g x σ H' fun σ2 H2=>Ec K tb { E with nx:=N,ct:=N,bk:=E.nx } σ2 H2):=by
 obtain⟨P,p0,keep,step,fin⟩:=h
 refine⟨fun i m σ' H'=>m=ds.length-i∧i≤ds.length∧∃σD' G',RelS K H' σD' σ'∧RelG K H' G'∧Ext H H'∧P i σD' G',⟨ds.length,rfl,Nat.zero_le _,σD,G,rs,rg,Ext.refl H,p0⟩,?_⟩
 rintro i m σ1 H1 ⟨rfl,hi,σD1,G1,rs1,rg1,x1,p1⟩
 have I:=hJ H1 G1 x1 rg1 (keep i σD1 G1 hi p1)
 by_cases hlt:i<ds.length
 ·refine .inr ⟨I.go i hlt,fun σ' H'=>∃σD' G',RelS K H' σD' σ'∧RelG K H' G'∧Ext H H'∧P (i+1) σD' G',fun σ' H' ⟨s2,G2,r1,r2,r3,p⟩=>⟨ds.length-(i+1),by omega,rfl,hlt,s2,G2,r1,r2,r3,p⟩,fun x H' y=>?_⟩
  obtain⟨xe,rge,d,ed,dv⟩:=I.yl i x H' hlt y
  refine⟨d,σD1,G1,_,dv,rs1.ext xe,rge _ rg1,step i d σD1 G1 ed p1,fun σ2 G2 h2 H2 x2 rg2 σ' rs2=>?_⟩
  have xx:=x1.trans (xe.trans x2)
  exact⟨σ2,G2,_,rs2,rg2,h2,⟨fun s3 G3 ⟨G4,sb,n⟩ H3 x3 rg3 σ3 rs3=>⟨s3,G4,rs3,rg3.ext' sb,xx.trans x3,n⟩,(cl.go xx).rt,(cl.go xx).nx,fun s3 G3 ⟨G4,sb,n⟩ H3 x3 rg3 σ3 rs3=>⟨s3,G4,rs3,rg3.ext' sb,xx.trans x3,n⟩⟩⟩
 ·have e:i=ds.length:=by omega
  subst e
  exact .inl ⟨I.st,cl.nx _ G1 (fin σD1 G1 p1) H1 x1 rg1 _ rs1⟩
def Ky(n:Nat)(tA:DTA)(g:DTG)(tb:DTS):DTS:=fun D σ G=>tA σ G fun ds G1=>ds.length=n∧∃ls,Bd G1 ds=some ls∧L4 (Bx ls) (fun G'=>Bd G' ds=some ls) g tb D σ G1
theorem Mz{G:Gp}:∀{ds:List D} {ls:List (List D)},Bd G ds=some ls→ls.length=ds.length
 |[],_,h=>by cases h;rfl
 |d::ds,_,h=>by
  simp only[Bd] at h
  split at h
  ·rename_i l ls e1 e2
   cases h
   simp[Mz e2]
  ·cases h
theorem Oq{n:Nat}(hn:n≠0){g:DTG}{tb:DTS}{tA:DTA}{E:Ends}{σ:St}{H:Hp}(h:Ec X.K (Ky n tA g tb) E σ H):tFor (iZip X.K n (U3 X.K tA)) (Di X.K g) (Ec X.K tb) E σ H:=by
 obtain⟨σD,G,D,rs,rg,h,cl⟩:=h
 refine⟨σD,G,_,rs,rg,h,fun ds G1 ⟨hn2,ls,ei,L⟩ H1 x1 rg1 vs dv=>?_⟩
 obtain⟨e1,ok⟩:=Fo rg1 ei dv
 refine⟨List.zipWith Hy ds vs,e1,by rw[List.length_zipWith,←dv.length,Nat.min_self];exact hn2,fun c hc=>?_,?_⟩
 ·obtain⟨l,_,xs,h1,_⟩:=Ef ok c hc
  exact⟨xs,h1⟩
 ·refine Jt (rs.ext x1) rg1 (cl.go x1) (fun H' G' x' rg' s'=>?_) L
  obtain⟨_,ok'⟩:=Fo rg' s' (dv.ext x')
  refine Ll ok' fun z=>?_
  have:=Mz ei
  rw[z] at this
  simp at this
  omega
theorem Of{g:DTG}{tb:DTS}{tA:DTA}(hp:PassesOwn (model X.prog X.w) X.A X.env X.xe)(hc:X.calm=true)(hm:X.mg "zip" = none)(ha:QA X [a,b] tA)(hg:QG X (.Tuple elts kk tp) g)(hb:QSs X body tb)(hgl:Gl X "zip":=by rfl)(hst:starEach [a,b] X.env=(false,eval a X.env)::starEach [b] X.env:=by rfl)(hpl:(backTo pos (starEach [b] X.env)).any (·.1)=false:=by rfl)(hs:∀x,foldedSetIterable (.Call (.Name "zip" p) [a,b] [] pos) X.env x=pure x:=by intro _;rfl){pos2:Pos} :
  QS X (.For (.Tuple elts kk tp) (.Call (.Name "zip" p) [a,b] [] pos) body [] pos2) (Ky 2 tA g tb):=(Gi hp hc (Rp hgl hm ha hst hpl) hg hb hs).imp fun E σ H h=>Oq (by decide) h
theorem Wq{g:DTG}{tb:DTS}{tA:DTA}(hp:PassesOwn (model X.prog X.w) X.A X.env X.xe)(hc:X.calm=true)(hm:X.mg "zip" = none)(ha:QA X [a,b,c] tA)(hg:QG X (.Tuple elts kk tp) g)(hb:QSs X body tb)(hgl:Gl X "zip":=by rfl)(hst:starEach [a,b,c] X.env=(false,eval a X.env)::starEach [b,c] X.env:=by rfl)(hpl:(backTo pos (starEach [b,c] X.env)).any (·.1)=false:=by rfl)(hs:∀x,foldedSetIterable (.Call (.Name "zip" p) [a,b,c] [] pos) X.env x=pure x:=by intro _;rfl){pos2:Pos} :
  QS X (.For (.Tuple elts kk tp) (.Call (.Name "zip" p) [a,b,c] [] pos) body [] pos2) (Ky 3 tA g tb):=(Gi hp hc (Zv hgl hm ha hst hpl) hg hb hs).imp fun E σ H h=>Oq (by decide) h
end
end D3
namespace D3
open PySem PySem.Spec
open PyProof.Rows hiding St
open L2 hiding St
def Ba(scope:Scope)(cl:List (Str×Addr))(C:Addr):List (Str×Addr):=cellsFrom (C+1) scope.names cl
def Aj(X:Cx)(scope:Scope)(cl:List (Str×Addr))(T M:List Str)(s:Shared)(H:Hp)(fp:List Addr):Cx where
 prog:=X.prog
 w:=X.w
 K:=X.K
 mg:=X.mg
 base:=X.base
 A:=X.A
 N:=T++M
 s₀:=s
 H₀:=H
 env:=compEnvC scope (Ba scope cl s.heap.objs.size) s.heap.objs.size X.env
 outer:=X.stack
 stack:=X.stack
 ex:=fp
 fn:=fun x=>scope.names.lookup x == some .cell
 calm:=X.calm
 pn:=[]
 xe:=fun _ _=>False
structure CompOz(X:Cx)(scope:Scope)(cl:List (Str×Addr))(T M:List Str):Prop where
 clos:closureFor scope X.env=pure cl
 kind:scope.kind=.function
 names:∀y∈scope.names,y.2=.local→scope.names.lookup y.1=some .local
 nocl:∀y∈scope.names,y.2=.cell→scope.names.lookup y.1=some .cell
 sub:∀x c,cl.lookup x=some c→X.env.cells.lookup x=some c∧scope.names.lookup x=some .free
 has:∀x,scope.names.lookup x=some .free→∃c,cl.lookup x=some c
 len:M.length=X.N.length
 vis:∀(i:Nat) (x:Str),M[i]? = some x→∀k,scope.names.lookup x=some k→k≠.local∧k≠.cell∧(k=.free→X.N[i]? = some x∧(X.env.kindOf x=some .cell∨X.env.kindOf x=some .free))
theorem Cm{scope:Scope}{env:Env}{x:Str}:(relabel scope env).names.lookup x=(scope.names.lookup x).map fun k=>if (k == NameKind.free&&env.scope.kind == .function&&env.kindOf x == some .cell)=true then NameKind.cell else k:=by
 show(scope.names.map fun(n,k)=>if (k == NameKind.free&&env.scope.kind == .function&&env.kindOf n == some .cell) then (n,NameKind.cell) else (n,k)).lookup x=_
 generalize scope.names=names
 induction names with
 |nil=>rfl
 |cons y r ih=>
  obtain⟨n,k⟩:=y
  rw[List.map_cons]
  by_cases hx:x=n
  ·subst hx
   by_cases hc:(k == NameKind.free&&env.scope.kind == .function&&env.kindOf x == some .cell)=true
   ·simp only[hc,if_true,List.lookup_cons_self,Option.map_some]
   ·simp only[hc,Bool.false_eq_true,if_false,List.lookup_cons_self,Option.map_some]
  ·have e:∀k',List.lookup x ((n,k')::r)=List.lookup x r:=fun k'=>by rw[List.lookup_cons,beq_false_of_ne hx]
   rw[e,←ih]
   by_cases hc:(k == NameKind.free&&env.scope.kind == .function&&env.kindOf n == some .cell)=true
   ·simp only[hc,if_true];rw[List.lookup_cons,beq_false_of_ne hx]
   ·simp only[hc];rw[show(if false=true then (n,NameKind.cell) else (n,k))=(n,k) from rfl,List.lookup_cons,beq_false_of_ne hx]
theorem Bu:∀(names:List (Str×NameKind)) (n:Nat) (acc:List (Str×Addr)),∃own,cellsFrom n names acc=own++acc∧(∀p∈own,(p.1,NameKind.cell)∈names∧n≤p.2)∧∀x,(x,NameKind.cell)∈names→∃c,own.lookup x=some c
 |[],n,acc=>⟨[],rfl,by simp,by simp⟩
 |(y,k)::r,n,acc=>by
  unfold cellsFrom
  by_cases hk:(k == NameKind.cell)=true
  ·rw[if_pos hk]
   obtain⟨own,e,h1,h2⟩:=Bu r (n+1) ((y,n)::acc)
   have hk':k=.cell:=by simpa using hk
   subst hk'
   refine⟨own++[(y,n)],by rw[e];simp,fun p hp=>?_,fun x hx=>?_⟩
   ·rcases List.mem_append.mp hp with hp|hp
    ·exact⟨List.mem_cons_of_mem _ (h1 p hp).1,by have:=(h1 p hp).2;omega⟩
    ·have:p=(y,n):=by simpa using hp
     subst this
     exact⟨by simp,Nat.le_refl _⟩
   ·rcases List.mem_cons.mp hx with z|z
    ·cases z
     rw[List.lookup_append]
     cases q:own.lookup y with
     |some c=>exact⟨c,rfl⟩
     |none=>exact⟨n,by simp⟩
    ·obtain⟨c,hc⟩:=h2 x z
     exact⟨c,by rw[List.lookup_append,hc];rfl⟩
  ·rw[if_neg hk]
   obtain⟨own,e,h1,h2⟩:=Bu r n acc
   refine⟨own,e,fun p hp=>⟨List.mem_cons_of_mem _ (h1 p hp).1,(h1 p hp).2⟩,fun x hx=>?_⟩
   rcases List.mem_cons.mp hx with z|z
   ·cases z;exact absurd rfl hk
   ·exact h2 x z
theorem Ct{X:Cx}{scope:Scope}{cl:List (Str×Addr)}{T M:List Str}(ok:CompOz X scope cl T M)(C:Addr):∀x c,(Ba scope cl C).lookup x=some c→(scope.names.lookup x=some .cell∧C+1≤c)∨(cl.lookup x=some c∧scope.names.lookup x=some .free):=by
 intro x c h
 obtain⟨own,e,h1,h2⟩:=Bu scope.names (C+1) cl
 unfold Ba at h
 rw[e,List.lookup_append] at h
 cases q:own.lookup x with
 |some c'=>
  rw[q] at h
  have h:some c'=some c:=h
  cases h
  have:=h1 _ (PySem.mem_of_lookup q)
  exact .inl ⟨ok.nocl _ this.1 rfl,this.2⟩
 |none=>
  rw[q] at h
  have h:cl.lookup x=some c:=h
  exact .inr ⟨h,(ok.sub x c h).2⟩
theorem E3{X:Cx}{scope:Scope}{cl:List (Str×Addr)}{T M:List Str}(ok:CompOz X scope cl T M)(C:Addr){x:Str}(hx:scope.names.lookup x=some .free):(Ba scope cl C).lookup x=cl.lookup x:=by
 obtain⟨own,e,h1,h2⟩:=Bu scope.names (C+1) cl
 unfold Ba
 rw[e,List.lookup_append]
 cases q:own.lookup x with
 |some c'=>
  have:=ok.nocl _ (h1 _ (PySem.mem_of_lookup q)).1 rfl
  rw[hx] at this;cases this
 |none=>rfl
theorem Gs{X:Cx}{scope:Scope}{cl:List (Str×Addr)}{T M:List Str}{pins:List (Addr×Obj)}{σ:St}{H:Hp}{s s4:Shared}{fp:List Addr}{m:Str→Option Value}(ok:CompOz X scope cl T M)(I:Inv X pins σ H s)(hfp:∀b∈fp,Eb X pins H b∧b<s.heap.objs.size)(hn:s4.heap.Ns s.heap.objs.size m)(hk:∀b o,s.heap.get? b=some o→s4.heap.get? b=some o)(hos:s4.os=s.os)(hg:s4.gens=s.gens)(hc1:∀x c,(Ba scope cl s.heap.objs.size).lookup x=some c→scope.names.lookup x=some .cell→∃v,s4.heap.IsCell c v)(hc2:∀x y c,(Ba scope cl s.heap.objs.size).lookup x=some c→(Ba scope cl s.heap.objs.size).lookup y=some c→scope.names.lookup x=some .cell→x=y) :
  Inv (Aj X scope cl T M s H fp) [] (Pr T σ) H s4:=by
 have fr:∀{b:Addr},s.heap.objs.size≤b→H b=none:=fun h=>I.hok.fresh h
 have old:∀x c,cl.lookup x=some c→c<s.heap.objs.size:=fun x c e=>by
  obtain⟨v,o,ho,_⟩:=I.cell x c (ok.sub x c e).1
  exact Heap.lt_size ho
 have lk:=Ct ok s.heap.objs.size
 have inj:∀x y c,(Ba scope cl s.heap.objs.size).lookup x=some c→(Ba scope cl s.heap.objs.size).lookup y=some c→x=y:=fun x y c h1 h2=>by
  rcases lk x c h1 with ⟨a1,a2⟩|⟨a1,a2⟩
  ·exact hc2 x y c h1 h2 a1
  ·rcases lk y c h2 with ⟨b1,b2⟩|⟨b1,b2⟩
   ·exact absurd (Nat.lt_of_lt_of_le (old x c a1) (Nat.le_of_succ_le b2)) (Nat.lt_irrefl _)
   ·exact I.ok.inj x y c (ok.sub x c a1).1 (ok.sub y c b1).1
 have has:∀x,((relabel scope X.env).names.lookup x=some .cell∨(relabel scope X.env).names.lookup x=some .free)→∃c,(Ba scope cl s.heap.objs.size).lookup x=some c:=fun x hx=>by
  rw[Cm] at hx
  cases q:scope.names.lookup x with
  |none=>rw[q] at hx;simp at hx
  |some k=>
   rw[q] at hx
   simp only[Option.map_some] at hx
   by_cases hkf:k=.free
   ·subst hkf
    obtain⟨c,hc⟩:=ok.has x q
    exact⟨c,by rw[E3 ok _ q];exact hc⟩
   ·have:k=.cell:=by
     have hb:(k == NameKind.free)=false:=by simpa using hkf
     simp only[hb,Bool.false_and,Bool.false_eq_true,if_false,Option.some.injEq] at hx
     exact hx.elim id fun z=>absurd z hkf
    subst this
    obtain⟨own,e,h1,h2⟩:=Bu scope.names (s.heap.objs.size+1) cl
    obtain⟨c,hc⟩:=h2 x (PySem.mem_of_lookup q)
    exact⟨c,by unfold Ba;rw[e,List.lookup_append,hc];rfl⟩
 refine⟨⟨I.ok.mod,ok.kind,I.ok.glob,I.ok.blt,Nat.le_refl _,inj,has,fun x c h h1=>?_,I.ok.hd,I.ok.frames,.inl rfl,fun b hb=>⟨Nat.ne_of_lt (hfp b hb).2,fun x c e=>?_⟩,I.bs,Nat.le_trans I.ok.bsz I.sz,fun b o e hb=>?_,fun b hb z=>?_,I.stack,I.stkFree⟩,
  hos,by rw[hg];exact I.bare,Un.kept hk,⟨m,hn,fun i x v e1 e2 e3=>?_⟩,fun x c e=>?_,fr (Nat.le_refl _),fun x c e=>?_,fun p hp=>absurd (show p∈([]:List (Addr×Obj)) from hp) (by simp),I.hok.kept hk,?_⟩
 ·have h:(scope.names.lookup x == some .cell)=true:=h
  have h:scope.names.lookup x=some .cell:=by simpa using h
  rcases lk x c h1 with ⟨_,a2⟩|⟨_,a2⟩
  ·exact Nat.le_of_succ_le a2
  ·rw[h] at a2;cases a2
 ·rcases lk x c e with ⟨_,a2⟩|⟨a1,a2⟩
  ·exact Nat.ne_of_gt (Nat.lt_of_lt_of_le (hfp b hb).2 (Nat.le_of_succ_le a2))
  ·exact(hfp b hb).1.2.2.2.2.1 x c (ok.sub x c a1).1
 ·rcases(hfp b hb).1.2.2.2.1 with z|z
  ·exact I.ok.noex b o e z
  ·exact absurd (Nat.lt_of_lt_of_le (Heap.lt_size e) (Nat.le_trans I.ok.bsz z)) (Nat.lt_irrefl _)
 ·rcases List.mem_cons.mp (I.stkSub b z) with e|e
  ·exact(hfp b hb).1.2.1 e
  ·exact(hfp b hb).1.2.2.1 e
 ·have e1:(T++M)[i]? = some x:=e1
  have e2:(List.replicate T.length none++σ)[i]? = some (some v):=e2
  by_cases hi:i<T.length
  ·rw[List.getElem?_append_left (by simpa using hi),List.getElem?_replicate,if_pos hi] at e2
   cases e2
  ·rw[List.getElem?_append_right (by omega)] at e1
   rw[List.getElem?_append_right (by simpa using hi),List.length_replicate] at e2
   have e3:Vis (relabel scope X.env) x:=e3
   have hq:∃k,scope.names.lookup x=some k∧k=.free:=by
    cases q:scope.names.lookup x with
    |none=>unfold Vis at e3;rw[Cm,q] at e3;simp at e3
    |some k=>
     obtain⟨v1,v2,_⟩:=ok.vis _ x e1 k q
     refine⟨k,rfl,?_⟩
     unfold Vis at e3
     rw[Cm,q] at e3
     by_cases hkf:k=.free
     ·exact hkf
     ·have hb:(k == NameKind.free)=false:=by simpa using hkf
      simp only[Option.map_some,hb,Bool.false_and,Bool.false_eq_true,if_false,Option.some.injEq] at e3
      rcases e3 with z|z|z
      ·exact absurd z v1
      ·exact absurd z v2
      ·exact z
   obtain⟨k,hq,rfl⟩:=hq
   obtain⟨e1,k2⟩:=(ok.vis _ x e1 _ hq).2.2 rfl
   obtain⟨m0,hn0,hl0⟩:=I.loc
   have v0:Vis X.env.scope x:=k2.elim (fun z=>.inr (.inl z)) fun z=>.inr (.inr z)
   obtain⟨u,r,l⟩:=hl0 _ x v e1 e2 v0
   have k1:(relabel scope X.env).names.lookup x=some .cell∨(relabel scope X.env).names.lookup x=some .free:=by
    rw[Cm,hq]
    simp only[Option.map_some]
    split
    ·exact .inl rfl
    ·exact .inr rfl
   refine⟨u,r,.inr ⟨k1,?_⟩⟩
   obtain⟨c,hc⟩:=ok.has x hq
   refine⟨c,(E3 ok _ hq).trans hc,?_⟩
   rcases l with ⟨l,_⟩|⟨_,c',hc',hv'⟩
   ·rcases k2 with z|z
    ·rw[l] at z;cases z
    ·rw[l] at z;cases z
   ·rw[(ok.sub x c hc).1] at hc'
    cases hc'
    obtain⟨o,ho,hd⟩:=hv'
    exact⟨o,hk _ _ ho,hd⟩
 ·rcases lk x c e with ⟨a1,a2⟩|⟨a1,a2⟩
  ·exact hc1 x c e a1
  ·obtain⟨v,o,ho,hd⟩:=I.cell x c (ok.sub x c a1).1
   exact⟨v,o,hk _ _ ho,hd⟩
 ·rcases lk x c e with ⟨a1,a2⟩|⟨a1,a2⟩
  ·exact fr (Nat.le_of_succ_le a2)
  ·exact I.freeC x c (ok.sub x c a1).1
 ·show(List.replicate T.length none++σ).length=(T++M).length
  rw[List.length_append,List.length_append,List.length_replicate,I.len,ok.len]

def Ny(P:Program)(w:World)(A:Around)(env:Env)(tg elt:Expr)(ifs:List Expr)(it acc:Value)(X:Value→Shared→Prop)(nxt:Shared→Prop)(v:Value)(t:Shared):Prop:=
 wpAny (model P w) A (letOwnedTupleGo tg it v) (fun _ a=>wpAny (model P w) A (assign tg env v) (fun _ b=>wpAny (model P w) A (Ih ifs env) (fun y c=>
  if y=true then wpAny (model P w) A (eval elt env) (fun e d=>wpAny (model P w) A (call (.builtin "list.append") [acc,e]) (fun _ f=>nxt f) X d) X c else nxt c) X b) X a) X t
theorem Hg{P:Program}{w:World}{A:Around}{R:Result→Shared→Prop}{s:Shared}{elt tg src:Expr}{ifs:List Expr}{sc:Scope}{pl:Pos}{it acc:Value}{env:Env}(V:Nat→Shared→Prop)(go:∀k t,V k t→wpAny (model P w) A (pyNext it) (fun r u=>match r with
   |none=>R (.ok .next) u
   |some v=>Ny P w A env tg elt ifs it acc (notedBy (model P w) A env fun e z=>R (.error e) z) (fun z=>∃m,m<k∧V m z) v u) (notedBy (model P w) A env fun e z=>R (.error e) z) t)(k:Nat)(h0:V k s):codeAny (model P w) A (.compLoop (.ListComp elt [⟨tg,src,ifs,0⟩] sc pl) 0 it acc env) R s:=by
 refine codeAny_loop rfl V (fun k t hv=>(show wpAny _ A ((compTurn (.ListComp elt [⟨tg,src,ifs,0⟩] sc pl) 0 it acc env).onRaise (fun x=>do noteFrame x env;theTreesLotGoes x)) _ _ t from wpAny_noted ?_)) k h0
 rw[compTurn_list];refine wpAny_bind (wpAny_standAt (wpAny_bind (wpAny_mono (go k t hv) (fun r u hr=>?_) fun _ _ z=>z)))
 cases r with
 |none=>exact wpAny_pure hr
 |some v=>
  refine wpAny_bind (wpAny_mono hr (fun _ a ha=>wpAny_bind (wpAny_mono ha (fun _ b hb=>wpAny_bind (wpAny_mono hb (fun y c hc=>?_) fun _ _ z=>z)) fun _ _ z=>z)) fun _ _ z=>z)
  cases y with
  |true=>exact wpAny_bind (wpAny_bind (wpAny_mono hc (fun e d hd=>wpAny_bind (wpAny_mono hd (fun _ f hf=>wpAny_pure (wpAny_pure ⟨rfl,hf⟩)) fun _ _ z=>z)) fun _ _ z=>z))
  |false=>refine wpAny_pure ⟨rfl,?_⟩;exact hc
theorem Iw{M:Model}{A:Around}{E:Value→Shared→Prop}{s:Shared}{scope:Scope}{env:Env}{cl:List (Str×Addr)}{Q:Env→Shared→Prop}(hk:scope.kind=.function)(h:∀h':Heap,h'.Ns s.heap.objs.size (fun _=>none)→(∀b o,s.heap.get? b=some o→h'.get? b=some o)→CellsOk h' (s.heap.objs.size+1) (cellsFrom (s.heap.objs.size+1) scope.names [])→
   Q (newEnv scope s.heap.objs.size env.globals (Ba scope cl s.heap.objs.size) env.qual none .none (some env) builtinsNs) { s with heap:=h' }) :
  wpAny M A (newFunctionEnv scope env.globals cl [] env.qual none .none (some env)) Q E s:=by
 simp only[newFunctionEnv,Option.isSome_some,if_true];refine wpAny_bind (wpAny_alloc ?_)
 refine wpAny_bind (wpAny_layCells _ (fun name kind cells=>by cases hkc:kind == NameKind.cell<;>simp) _ _ _ _ ?_)
 have okc:=cellsFrom_ok scope.names (s.heap.push { cls:=.type "dict",data:=.dict #[] }) (s.heap.objs.size+1) [] ⟨fun _ _ hm=>(nomatch hm),List.Pairwise.nil⟩ (by rw[Heap.size_push];exact Nat.le_refl _)
 rw[Heap.size_push] at okc
 rw[show({ s with heap:=s.heap.push { cls:=.type "dict",data:=.dict #[] } }:Shared).heap.objs.size=s.heap.objs.size+1 from Heap.size_push ..]
 refine wpAny_bind ?_
 rw[List.forIn_nil]
 refine wpAny_pure (wpAny_pure ?_)
 exact h _ ((Heap.Ns.new s.heap (.type "dict")).keeps (pushCells_keeps _ _)) (fun b o e=>pushCells_keeps _ _ b o (Heap.get?_push_of_some _ e)) okc

theorem Cv:∀(names:List (Str×NameKind)) (n:Nat) (acc:List (Str×Addr)),cellsFrom n names acc=cellsFrom n names []++acc
 |[],n,acc=>rfl
 |(y,k)::r,n,acc=>by
  unfold cellsFrom
  split
  ·rw[Cv r (n+1) ((y,n)::acc),Cv r (n+1) [(y,n)]];simp
  ·exact Cv r n acc
theorem P7{scope:Scope}{cl:List (Str×Addr)}{C:Addr}{x:Str}{c:Addr}(h:(Ba scope cl C).lookup x=some c)(hn:cl.lookup x=none∨C+1≤c)(old:∀x c,cl.lookup x=some c→c<C):(x,c)∈cellsFrom (C+1) scope.names []:=by
 unfold Ba at h
 rw[Cv,List.lookup_append] at h
 cases q:(cellsFrom (C+1) scope.names []).lookup x with
 |some c'=>
  rw[q] at h
  have h:some c'=some c:=h
  cases h
  exact PySem.mem_of_lookup q
 |none=>
  rw[q] at h
  have h:cl.lookup x=some c:=h
  rcases hn with z|z
  ·rw[z] at h;cases h
  ·exact absurd (Nat.lt_of_lt_of_le (old x c h) (Nat.le_of_succ_le z)) (Nat.lt_irrefl _)
theorem Mv{X:Cx}{scope:Scope}{cl:List (Str×Addr)}{T M:List Str}{C:Addr}{h':Heap}(ok:CompOz X scope cl T M)(okc:CellsOk h' (C+1) (cellsFrom (C+1) scope.names []))(old:∀x c,cl.lookup x=some c→c<C) :
  ∀x c,(Ba scope cl C).lookup x=some c→scope.names.lookup x=some .cell→∃v,h'.IsCell c v:=fun x c h hx=>by
 rcases Ct ok C x c h with ⟨_,a2⟩|⟨_,a2⟩
 ·exact⟨_,(okc.empty x c (P7 h (.inr a2) old)).1⟩
 ·rw[hx] at a2;cases a2
theorem Mu{X:Cx}{scope:Scope}{cl:List (Str×Addr)}{T M:List Str}{C:Addr}{h':Heap}(ok:CompOz X scope cl T M)(okc:CellsOk h' (C+1) (cellsFrom (C+1) scope.names []))(old:∀x c,cl.lookup x=some c→c<C) :
  ∀x y c,(Ba scope cl C).lookup x=some c→(Ba scope cl C).lookup y=some c→scope.names.lookup x=some .cell→x=y:=fun x y c h1 h2 hx=>by
 rcases Ct ok C x c h1 with ⟨_,a2⟩|⟨_,a2⟩
 ·exact name_of_addr okc.apart (P7 h1 (.inr a2) old) (P7 h2 (.inr a2) old)
 ·rw[hx] at a2;cases a2
def P0(n:Nat)(wi:TI)(g:TG)(tf:TT)(te:TE):TE:=fun σ H Q=>wi σ H fun J H1=>∀p,H1 p=none→∃W:Nat→Nat→St→Hp→Prop,(∃m,W 0 m (List.replicate n none++σ) (upd H1 p (.lst [])))∧∀i m σ1 H,W i m σ1 H→
 ((J.stop i H∧Q (.ref p) H)∨(J.go i H∧∃N:St→Hp→Prop,(∀σ' H',N σ' H'→∃m',m'<m∧W (i+1) m' σ' H')∧
  ∀x H',J.yld i H x H'→g x σ1 H' fun σ2 H2=>tf σ2 H2 fun b H3=>if b=true then te σ2 H3 fun y H4=>∃ys,H4 p=some (.lst ys)∧ys.length<sizeLine∧N σ2 (upd H4 p (.lst (ys++[y]))) else N σ2 H3))
theorem Eh{X:Cx}{elt iter tg:Expr}{ifs:List Expr}{scope:Scope}{cl:List (Str×Addr)}{pos:Pos}{wi:TI}{g:TG}{tf:TT}{te:TE}{T M:List Str}(hc:X.calm=true)(ok:CompOz X scope cl T M)(hi:PI X tg iter wi)(hg:∀s H fp,PG (Aj X scope cl T M s H fp) tg g)(hf:∀s H fp,PF (Aj X scope cl T M s H fp) ifs tf)(he:∀s H fp,PE (Aj X scope cl T M s H fp) elt te)(hs:∀x,foldedSetIterable iter X.env x=pure x:=by intro _;rfl):PE X (.ListComp elt [⟨tg,iter,ifs,0⟩] scope pos) (P0 T.length wi g tf te):=by
 intro pins s σ H Q I h
 rw[eval_ListComp]
 refine wpAny_comprehension_free (use:=none) (cl:=cl) rfl hs ok.clos ok.kind ok.names (thn (hi pins s σ H _ I h) fun v s1 h1=>thn h1 fun itv s2 h2=>?_)
 obtain⟨it,fp,tn,J,H2,e,I2,Tn,st2,f2,q⟩:=h2
 subst e
 have q:=q s2.heap.objs.size (I2.hok.fresh (Nat.le_refl _))
 refine wpAny_newObj_type ?_
 -- the new list,tracked
 have I3:Inv X pins σ (upd H2 s2.heap.objs.size (.lst [])) { s2 with heap:=s2.heap.push { cls:=.type "list",dict:=none,data:=.seq ([]:List Value).toArray } }:=
  I2.laid (t':=s2.toks) (fun b u e=>Heap.get?_push_of_some _ e) (Nat.le_refl _) ⟨Nat.zero_le _,[],0,.nil,Heap.get?_push_size _ rfl⟩
 generalize hH3:upd H2 s2.heap.objs.size (.lst [])=H3 at I3 q
 generalize hs3:({ s2 with heap:=s2.heap.push { cls:=.type "list",dict:=none,data:=.seq ([]:List Value).toArray } }:Shared)=s3 at I3
 have fpl:∀b∈fp,b<s2.heap.objs.size:=fun b hb=>let ⟨o,e,_⟩:=Tn.obj 0 _ st2 b hb;Heap.lt_size e
 have sz3:s2.heap.objs.size≤s3.heap.objs.size:=by rw[←hs3];show _≤(s2.heap.push _).objs.size;rw[Heap.size_push];exact Nat.le_succ _
 have fok:∀b∈fp,Eb X pins H3 b:=fun b hb=>⟨by rw[←hH3,Am (Nat.ne_of_lt (fpl b hb))];exact(f2 b hb).1,(f2 b hb).2⟩
 have k23:∀b o,s2.heap.get? b=some o→s3.heap.get? b=some o:=fun b o e=>by rw[←hs3];exact Heap.get?_push_of_some _ e
 have st3:tn 0 s3.heap:=Tn.keep _ _ _ st2 fun b _ o e=>k23 b o e
 refine Iw ok.kind (fun h4 hns4 k34 okc=>?_)
 have oldc:∀x c,cl.lookup x=some c→c<s3.heap.objs.size:=fun x c e=>by
  obtain⟨v,o,ho,_⟩:=I3.cell x c (ok.sub x c e).1
  exact Heap.lt_size ho
 have hc1:=Mv (h':=h4) ok okc oldc
 have hc2:=Mu (h':=h4) ok okc oldc
 have I4:Inv (Aj X scope cl T M s3 H3 fp) [] (Pr T σ) H3 { s3 with heap:=h4 }:=
  Gs ok I3 (fun b hb=>⟨fok b hb,Nat.lt_of_lt_of_le (fpl b hb) sz3⟩) hns4 k34 rfl rfl hc1 hc2
 have st4:tn 0 h4:=Tn.keep _ _ _ st3 fun b _ o e=>k34 b o e
 obtain⟨W,⟨m0,w0⟩,turn⟩:=q
 have cfpc:∀b∈fp,∀x c,(Ba scope cl s3.heap.objs.size).lookup x=some c→c≠b:=fun b hb x c e=>by
  rcases Ct ok s3.heap.objs.size x c e with ⟨_,a2⟩|⟨a1,_⟩
  ·exact Nat.ne_of_gt (Nat.lt_of_lt_of_le (Nat.lt_of_lt_of_le (fpl b hb) sz3) (Nat.le_of_succ_le a2))
  ·exact(fok b hb).2.2.2.2.1 x c (ok.sub x c a1).1
 have cfp:∀{H':Hp},(∀b∈fp,H' b=none)→∀b∈fp,Eb (Aj X scope cl T M s3 H3 fp) [] H' b:=fun hn b hb=>by
  refine⟨hn b hb,Nat.ne_of_lt (Nat.lt_of_lt_of_le (fpl b hb) sz3),fun z=>?_,.inl hb,fun x c e=>cfpc b hb x c e,fun p hp=>absurd (show p∈([]:List (Addr×Obj)) from hp) (by simp)⟩
  rcases List.mem_cons.mp (I3.stkSub b z) with e|e
  ·exact(fok b hb).2.1 e
  ·exact(fok b hb).2.2.1 e
 have fin:∀(σ':St) (H':Hp) (s':Shared),Inv (Aj X scope cl T M s3 H3 fp) [] σ' H' s'→Q (.ref s2.heap.objs.size) H'→compPost (model X.prog X.w) X.A X.xe none (EP X pins σ Q) (.ref s2.heap.objs.size) s3.heap.objs.size (.ok .next) s':=fun σ' H' s' J q=>by
  obtain⟨m',hm',_⟩:=J.loc
  refine⟨m',hm',fun h' hs'=>?_⟩
  have J0:Inv X pins σ H' s':=I3.call' (ch:=fp) J.os J.base J.hok J.bare fun b hb=>⟨(fok b hb).2.2.2.1,(fok b hb).2.1,(fok b hb).2.2.2.2.1,(fok b hb).2.2.2.2.2⟩
  have nC:=I3.fpOk (H':=H') (Nat.le_refl s3.heap.objs.size) J.free
  exact⟨.ref s2.heap.objs.size,H',J0.turned (t':=s'.toks) (fun b o hb e=>(hs'.2 b hb).trans e) nC.1 nC.2.1 nC.2.2.2.1 nC.2.2.2.2.1 nC.2.2.2.2.2,rfl,q⟩
 have loop:∀s5:Shared,s5={ s3 with heap:=h4 }→
   codeAny (model X.prog X.w) X.A (.compLoop (.ListComp elt [⟨tg,iter,ifs,0⟩] scope pos) 0 (.ref it) (.ref s2.heap.objs.size) (compEnvC scope (Ba scope cl s3.heap.objs.size) s3.heap.objs.size X.env))
    (compPost (model X.prog X.w) X.A X.xe none (EP X pins σ Q) (.ref s2.heap.objs.size) s3.heap.objs.size) s5:=by
  rintro s5 rfl
  refine Hg (fun k s'=>∃i σ' H',Inv (Aj X scope cl T M s3 H3 fp) [] σ' H' s'∧tn i s'.heap∧(∀b∈fp,H' b=none)∧W i k σ' H') ?_ m0 ⟨0,Pr T σ,H3,I4,st4,fun b hb=>(fok b hb).1,w0⟩
  rintro k s6 ⟨i,σ6,H6,I6,st6,fr6,w6⟩
  rcases turn i k σ6 H6 w6 with ⟨stop,qn⟩|⟨go,N,hN,step⟩
  ·refine wpAny_mono (Tn.done (Aj X scope cl T M s3 H3 fp) rfl rfl rfl hc i [] s6 _ H6 (fun _ _=>False) I6 (cfp fr6) st6 stop) (fun r s7 ⟨hr,I7⟩=>?_) fun _ _ z=>z.elim
   subst hr
   exact fin _ H6 s7 I7 qn
  ·refine wpAny_mono (Tn.item (Aj X scope cl T M s3 H3 fp) rfl rfl rfl hc i [] s6 _ H6 (fun _ _=>False) I6 (cfp fr6) st6 go) (fun r s7 ⟨u,hr,h7⟩=>?_) fun _ _ z=>z.elim
   subst hr
   show Ny _ _ _ _ _ _ _ _ _ _ _ _ _;unfold Ny
   refine wpAny_mono h7 (fun _ s8 h8=>?_) fun _ _ z=>z.elim
   obtain⟨x7,H7,I7,r7,y7,st7,fr7⟩:=h8
   have I7':=I7.pinned (cfp fr7) (Tn.obj _ _ st7)
   have back:∀{σ8:St} {H8:Hp} {s9:Shared},Inv (Aj X scope cl T M s3 H3 fp) ([]++Dm fp s8.heap) σ8 H8 s9→tn (i+1) s9.heap∧∀b∈fp,H8 b=none:=fun {σ8 H8 s9} I8=>by
    refine⟨Tn.keep _ _ _ st7 fun b hb o e=>(I8.pin (b,o) (List.mem_append_right _ (List.mem_append_right _ (B1 hb e)))).1,fun b hb=>?_⟩
    obtain⟨o,e,d⟩:=Tn.obj _ _ st7 b hb
    exact(I8.pin (b,o) (List.mem_append_right _ (List.mem_append_right _ (B1 hb e)))).2.1
   have again:∀{σ9:St} {H9:Hp} {s9:Shared},Inv (Aj X scope cl T M s3 H3 fp) ([]++Dm fp s8.heap) σ9 H9 s9→N σ9 H9→
     ∃m,m<k∧∃i σ' H',Inv (Aj X scope cl T M s3 H3 fp) [] σ' H' s9∧tn i s9.heap∧(∀b∈fp,H' b=none)∧W i m σ' H':=fun {σ9 H9 s9} I9 n9=>by
    obtain⟨m',hm,w9⟩:=hN σ9 H9 n9
    obtain⟨b1,b2⟩:=back I9
    exact⟨m',hm,i+1,σ9,H9,I9.unpinned,b1,b2,w9⟩
   refine wpAny_mono (hg s3 H3 fp _ s8 σ6 H7 x7 u _ I7' r7 (step x7 H7 y7)) (fun _ s9 ⟨σ9,H9,I9,q9⟩=>?_) fun _ _ z=>z.elim
   refine wpAny_mono (hf s3 H3 fp _ s9 σ9 H9 _ I9 q9) (fun okb s10 ⟨H10,I10,q10⟩=>?_) fun _ _ z=>z.elim
   cases okb with
   |false=>
    rw[if_neg Bool.false_ne_true] at q10 ⊢
    exact again I10 q10
   |true=>
    rw[if_pos rfl] at q10 ⊢
    refine wpAny_mono (he s3 H3 fp _ s10 σ9 H10 _ I10 q10) (fun y s11 ⟨yv,H11,I11,ry,ys,e11,l11,n11⟩=>?_) fun _ _ z=>z.elim
    refine wpAny_mono (Gn (X:=Aj X scope cl T M s3 H3 fp) _ s11 σ9 H11 (.ref s2.heap.objs.size) [yv] (.ref s2.heap.objs.size) [y] (fun _ H12=>N σ9 H12) I11 rfl (.cons ry .nil) ⟨_,ys,yv,rfl,rfl,e11,l11,n11⟩) (fun _ s12 ⟨_,H12,I12,_,n12⟩=>?_) fun _ _ z=>z.elim
    exact again I12 n12
 exact codeAny_compStart_list (loop _ rfl) (Tn.self _ 0 _ _ _ st4 (loop _ rfl))


theorem compOz{X:Cx}{scope:Scope}{T M:List Str}(h1:(scope.names.all fun y=>!(y.2 == .free)||(X.env.cells.lookup y.1).isSome)=true:=by rfl)(h3:scope.kind=.function:=by rfl)(h4:(scope.names.all fun y=>scope.names.lookup y.1 == some y.2)=true:=by rfl)(h6:M.length=X.N.length:=by rfl)(h5:((M.zip X.N).all fun z=>match scope.names.lookup z.1 with|some .local=>false|some .cell=>false|some .free=>z.1 == z.2&&(X.env.kindOf z.1 == some .cell||X.env.kindOf z.1 == some .free)|_=>true)=true:=by rfl) :
  CompOz X scope (Bz X.env.cells scope.names []) T M:=by
 have hl:∀y∈scope.names,scope.names.lookup y.1=some y.2:=fun y hy=>by simpa using List.all_eq_true.mp h4 y hy
 have only:∀(names:List (Str×NameKind)) (cs:List (Str×Addr)) (x:Str) (c:Addr),(Bz X.env.cells names cs).lookup x=some c→(x,NameKind.free)∈names∨cs.lookup x=some c:=by
  intro names
  induction names with
  |nil=>intro cs x c h;exact .inr h
  |cons y r ih=>
   intro cs x c h
   obtain⟨n,k⟩:=y
   unfold Bz at h
   split at h
   ·rename_i hk
    split at h
    ·rename_i c' hc
     rcases ih _ x c h with z|z
     ·exact .inl (List.mem_cons_of_mem _ z)
     ·by_cases hx:x=n
      ·subst hx
       have:k=.free:=by simpa using hk
       subst this
       exact .inl (by simp)
      ·rw[List.lookup_cons,beq_false_of_ne hx] at z
       exact .inr z
    ·rcases ih _ x c h with z|z
     ·exact .inl (List.mem_cons_of_mem _ z)
     ·exact .inr z
   ·rcases ih _ x c h with z|z
    ·exact .inl (List.mem_cons_of_mem _ z)
    ·exact .inr z
 refine⟨?_,h3,fun y hy z=>by rw[hl y hy,z],fun y hy z=>by rw[hl y hy,z],fun x c e=>⟨Ew _ _ (fun _ _ z=>by simp at z) x c e,?_⟩,fun x hx=>Gu _ _ x h1 (.inl (PySem.mem_of_lookup hx)),h6,fun i x hx k q=>?_⟩
 ·unfold closureFor
  have:=Aax (env:=X.env) scope.names [] h1
  simp only[bind_pure]
  exact this
 ·rcases only _ _ x c e with z|z
  ·exact hl _ z
  ·simp at z
 ·have hi:i<X.N.length:=by rw[←h6];exact(List.getElem?_eq_some_iff.mp hx).1
  have hz:(M.zip X.N)[i]? = some (x,X.N[i]):=by rw[List.getElem?_zip_eq_some];exact⟨hx,List.getElem?_eq_getElem hi⟩
  have this:=List.all_eq_true.mp h5 _ (List.mem_of_getElem? hz)
  dsimp only at this
  rw[q] at this
  refine⟨fun z=>?_,fun z=>?_,fun z=>?_⟩
  ·subst z;exact absurd this (by simp)
  ·subst z;exact absurd this (by simp)
  ·subst z
   simp only[Bool.and_eq_true,beq_iff_eq,Bool.or_eq_true] at this
   exact⟨by rw[List.getElem?_eq_getElem hi,←this.1],this.2⟩
theorem Cf{K:W.Frag}{J:It}{n:Nat}{p:Addr}{ds:List D}{same:Gp→Prop}{g:DTG}{tf:DTT}{te:DTE}{Q:DK}{QV:VK}{σD:DSt}{σ:St}{G:Gp}{H:Hp}(rs:RelS K H σD σ)(rg:RelG K H G)(hp:H p=none)(cl:∀d G',Q d G'→Fwd K H G' fun H'=>∀v,DV K H' d v→QV v H')(hJ:∀H' G',Ext H H'→RelG K H' G'→same G'→ItemsX K J H' ds)(h:Fn n p ds same g tf te σD (Ac G p (.lst [])) Q) :
  ∃W:Nat→Nat→St→Hp→Prop,(∃m,W 0 m (List.replicate n none++σ) (upd H p (.lst [])))∧∀i m σ1 H,W i m σ1 H→
   ((J.stop i H∧QV (.ref p) H)∨(J.go i H∧∃N:St→Hp→Prop,(∀σ' H',N σ' H'→∃m',m'<m∧W (i+1) m' σ' H')∧
    ∀x H',J.yld i H x H'→Di K g x σ1 H' fun σ2 H2=>Ds K tf σ2 H2 fun b H3=>if b=true then By K te σ2 H3 fun y H4=>∃ys,H4 p=some (.lst ys)∧ys.length<sizeLine∧N σ2 (upd H4 p (.lst (ys++[y]))) else N σ2 H3)):=by
 obtain⟨P,p0,keep,step,fin⟩:=h
 refine⟨fun i m σ' H'=>m=ds.length-i∧i≤ds.length∧RelS K H' (List.replicate n none++σD) σ'∧∃yd G',RelG K H' G'∧Ext H H'∧P i yd G',
  ⟨ds.length,rfl,Nat.zero_le _,(Rq n rs).ext (Ext.fresh hp),[],_,rg.lst hp .nil,Ext.fresh hp,p0⟩,?_⟩
 rintro i m σ1 H1 ⟨rfl,hi,rs1,yd,G1,rg1,x1,p1⟩
 obtain⟨sm,gp⟩:=keep i yd G1 hi p1
 have I:=hJ H1 G1 x1 rg1 sm
 by_cases hlt:i<ds.length
 ·refine .inr ⟨I.go i hlt,fun σ' H'=>RelS K H' (List.replicate n none++σD) σ'∧∃yd' G',RelG K H' G'∧Ext H H'∧P (i+1) yd' G',fun σ' H' ⟨a2,yd',G',a3,a4,a5⟩=>⟨ds.length-(i+1),by omega,rfl,hlt,a2,yd',G',a3,a4,a5⟩,fun x H' y=>?_⟩
  obtain⟨xe,rge,d,ed,dv⟩:=I.yl i x H' hlt y
  refine⟨d,_,G1,_,dv,rs1.ext xe,rge _ rg1,step i d yd G1 ed p1,fun σ2 G2 ⟨⟨pre,hpre,e2⟩,st2⟩ H2 x2 rg2 σ' rs2=>?_⟩
  have back:∀{H5:Hp} {σ5:St},RelS K H5 σ2 σ5→RelS K H5 (List.replicate n none++σD) σ5:=fun {H5 σ5} r=>by
   refine⟨by rw[←r.1,e2,List.length_append,List.length_append,List.length_replicate,hpre],fun j d e=>?_⟩
   refine r.2 j d ?_
   by_cases hj:j<n
   ·rw[List.getElem?_append_left (by simpa using hj),List.getElem?_replicate,if_pos hj] at e
    cases e
   ·rw[List.getElem?_append_right (by simpa using hj),List.length_replicate] at e
    rw[e2,List.getElem?_append_right (by omega),hpre];exact e
  refine⟨σ2,G2,_,rs2,rg2,st2,fun b G3 h3 H3 x3 rg3=>?_⟩
  have x13:=x1.trans (xe.trans (x2.trans x3))
  dsimp only at h3 ⊢
  cases b with
  |false=>
   rw[if_neg Bool.false_ne_true] at h3 ⊢
   obtain⟨G4,sb,p4⟩:=h3
   exact⟨back (rs2.ext x3),yd,G4,rg3.ext' sb,x13,p4⟩
  |true=>
   rw[if_pos rfl] at h3 ⊢
   refine⟨_,G3,_,rs2.ext x3,rg3,h3,fun z G4 ⟨e4,l4,G5,sb,p5⟩ H4 x4 rg4 v4 d4=>?_⟩
   obtain⟨xs,ex,r⟩:=rg4 p _ e4
   exact⟨xs,ex,by rw[←r.length];exact l4,back ((rs2.ext (x3.trans x4)).ext (D6 ex)),_,G5,(rg4.lstw ex (r.append (.cons d4 .nil))).ext' sb,(x13.trans x4).trans (D6 ex),p5⟩
 ·have e:i=ds.length:=by omega
  subst e
  exact .inl ⟨I.st,cl _ G1 (fin yd G1 p1) H1 x1 rg1 _ (.ref p)⟩
theorem Dz{K:W.Frag}{J:It}{G:Gp}{H:Hp}{ds:List D}(h:Items K J G H ds):ItemsX K J H ds:=⟨h.go,fun i x H' hi y=>by
 obtain⟨e,d,ed,dv⟩:=h.yl i x H' hi y
 subst e
 exact⟨Ext.refl _,fun _ r=>r,d,ed,dv⟩,h.st⟩
section
variable{X:Cx}{elt iter tg:Expr}{ifs:List Expr}{scope:Scope}{pos:Pos}{ti te:DTE}{tf:DTT}{g:DTG}{T M:List Str}
abbrev QGz(X:Cx)(scope:Scope)(T M:List Str)(tg:Expr)(g:DTG):Prop:=∀s H fp,QG (Aj X scope (Bz X.env.cells scope.names []) T M s H fp) tg g
abbrev QFz(X:Cx)(scope:Scope)(T M:List Str)(ifs:List Expr)(t:DTT):Prop:=∀s H fp,QF (Aj X scope (Bz X.env.cells scope.names []) T M s H fp) ifs t
abbrev QEz(X:Cx)(scope:Scope)(T M:List Str)(e:Expr)(t:DTE):Prop:=∀s H fp,QE (Aj X scope (Bz X.env.cells scope.names []) T M s H fp) e t
def Ci(n:Nat)(ti:DTE)(g:DTG)(tf:DTT)(te:DTE):DTE:=fun σ G Q=>ti σ G fun d G1=>∃ds,Aq G1 d=some ds∧∀p,G1 p=none→Fn n p ds (fun G'=>Aq G' d=some ds) g tf te σ (Ac G1 p (.lst [])) Q
theorem q_compz(hc:X.calm=true)(ok:CompOz X scope (Bz X.env.cells scope.names []) T M)(hi:QE X iter ti)(hg:QGz X scope T M tg g)(hf:QFz X scope T M ifs tf)(he:QEz X scope T M elt te)(hs:∀x,foldedSetIterable iter X.env x=pure x:=by intro _;rfl):QE X (.ListComp elt [⟨tg,iter,ifs,0⟩] scope pos) (Ci T.length ti g tf te):=
 (Eh (g:=Di X.K g) (tf:=Ds X.K tf) (te:=By X.K te) hc ok (L9 hi) hg hf he hs).imp fun σ H Q ⟨σD,G,Q',rs,rg,h,cl⟩=>by
 refine⟨σD,G,_,rs,rg,h,fun d G1 ⟨ds,ei,L⟩ H1 x1 rg1 v dv=>?_⟩
 obtain⟨a,rfl⟩:=F1 ei dv
 refine⟨a,rfl,?_⟩
 have lp:=fun p hp=>Cf (J:=jOf X.K d a) (rs.ext x1) rg1 hp (fun d' G' q=>(cl d' G' q).go x1) (fun H' G' x' rg' s'=>Dz (Ej rg' s' (dv.ext x'))) (L p (rg1.free hp))
 cases dv with
 |tup e r=>exact .inr ⟨⟨_,.inl (.inl e)⟩,lp⟩
 |lint e=>exact .inl ⟨⟨_,e.sq⟩,lp⟩
 |ref=>
  simp only[Aq] at ei
  split at ei
  ·rename_i ds' q
   obtain⟨xs,e,r⟩:=rg1 a _ q
   exact .inl ⟨⟨_,.inl (.inl e)⟩,lp⟩
  ·cases ei
def Ht(n k:Nat)(tA:DTA)(g:DTG)(tf:DTT)(te:DTE):DTE:=fun σ G Q=>tA σ G fun ds G1=>ds.length=k∧∃ls,Bd G1 ds=some ls∧∀p,G1 p=none→Fn n p (Bx ls) (fun G'=>Bd G' ds=some ls) g tf te σ (Ac G1 p (.lst [])) Q
theorem q_compzZ2{a b:Expr}{tA:DTA}{p p2 tp:Pos}{elts:List Expr}{kk:Nat}(hc:X.calm=true)(ok:CompOz X scope (Bz X.env.cells scope.names []) T M)(hm:X.mg "zip" = none)(ha:QA X [a,b] tA)(hg:QGz X scope T M (.Tuple elts kk tp) g)(hf:QFz X scope T M ifs tf)(he:QEz X scope T M elt te)(hgl:Gl X "zip":=by rfl)(hst:starEach [a,b] X.env=(false,eval a X.env)::starEach [b] X.env:=by rfl)(hpl:(backTo p2 (starEach [b] X.env)).any (·.1)=false:=by rfl)(hs:∀x,foldedSetIterable (.Call (.Name "zip" p) [a,b] [] p2) X.env x=pure x:=by intro _;rfl) :
  QE X (.ListComp elt [⟨.Tuple elts kk tp,.Call (.Name "zip" p) [a,b] [] p2,ifs,0⟩] scope pos) (Ht T.length 2 tA g tf te):=
 (Eh (g:=Di X.K g) (tf:=Ds X.K tf) (te:=By X.K te) hc ok (Rp hgl hm ha hst hpl) hg hf he hs).imp fun σ H Q ⟨σD,G,Q',rs,rg,h,cl⟩=>by
 refine⟨σD,G,_,rs,rg,h,fun ds G1 ⟨hn2,ls,ei,L⟩ H1 x1 rg1 vs dv=>?_⟩
 obtain⟨e1,ok'⟩:=Fo rg1 ei dv
 refine⟨List.zipWith Hy ds vs,e1,by rw[List.length_zipWith,←dv.length,Nat.min_self];exact hn2,fun c hc=>?_,fun q hq=>?_⟩
 ·obtain⟨l,_,xs,h1,_⟩:=Ef ok' c hc
  exact⟨xs,h1⟩
 ·refine Cf (rs.ext x1) rg1 hq (fun d' G' q=>(cl d' G' q).go x1) (fun H' G' x' rg' s'=>?_) (L q (rg1.free hq))
  obtain⟨_,ok2⟩:=Fo rg' s' (dv.ext x')
  refine Ll ok2 fun z=>?_
  have:=Mz ei
  rw[z] at this
  simp at this
  omega
def Mo(n:Nat)(tA:DTA)(g:DTG)(tf:DTT)(te:DTE):DTE:=fun σ G Q=>tA σ G fun ds G1=>∃j,ds=[.int j]∧(-(2 ^ 62)≤j∧j<2 ^ 62)∧∀p,G1 p=none→Fn n p (Pp j.toNat) (fun _=>True) g tf te σ (Ac G1 p (.lst [])) Q
theorem Oh{a:Expr}{tA:DTA}{p p2:Pos}(hc:X.calm=true)(ok:CompOz X scope (Bz X.env.cells scope.names []) T M)(hm:X.mg "range" = none)(ha:QA X [a] tA)(hg:QGz X scope T M tg g)(hf:QFz X scope T M ifs tf)(he:QEz X scope T M elt te)(hgl:Gl X "range":=by rfl)(hst:starEach [a] X.env=[(false,eval a X.env)]:=by rfl)(hs:∀x,foldedSetIterable (.Call (.Name "range" p) [a] [] p2) X.env x=pure x:=by intro _;rfl):QE X (.ListComp elt [⟨tg,.Call (.Name "range" p) [a] [] p2,ifs,0⟩] scope pos) (Mo T.length tA g tf te):=
 (Eh (g:=Di X.K g) (tf:=Ds X.K tf) (te:=By X.K te) hc ok (Lh hgl hm ha hst) hg hf he hs).imp fun σ H Q ⟨σD,G,Q',rs,rg,h,cl⟩=>by
 refine⟨σD,G,_,rs,rg,h,fun ds G1 ⟨j,ej,⟨j1,j2⟩,L⟩ H1 x1 rg1 vs dv=>?_⟩
 subst ej
 obtain⟨v,rfl,r⟩:=dv.one
 cases r
 refine⟨j,rfl,j1,j2,fun p hp=>Cf (J:=Itr 0 j.toNat) (rs.ext x1) rg1 hp (fun d' G' q=>(cl d' G' q).go x1) (fun H' G' x' rg' _=>Dz (G:=G') ?_) (L p (rg1.free hp))⟩
 refine⟨fun i hi=>by rw[Bs] at hi;exact hi,fun i x H2 hi y=>?_,by show j.toNat≤_;rw[Bs];exact Nat.le_refl _⟩
 rw[Bs] at hi
 obtain⟨e1,e2⟩:=y
 refine⟨e1,_,Ee hi,?_⟩
 rw[e2,Int.zero_add]
 exact .int _
end
end D3
namespace D3
open PySem PySem.Spec
open PyProof.Rows hiding St
open L2 hiding St
section
variable{X:Cx}
def E9(i j:Int):List D:=(List.range (j-i).toNat).map fun k=>D.int (i+(k:Nat))
theorem Fc(i j:Int):(E9 i j).length=(j-i).toNat:=by simp[E9]
theorem Qr{i j:Int}{k:Nat}(h:k<(j-i).toNat):(E9 i j)[k]? = some (.int (i+(k:Nat))):=by simp[E9,h]
theorem Ji{n:Nat}{p:Addr}{ds:List D}{same:Gp→Prop}{g:DTG}{tf:DTT}{te:DTE}{σ:DSt}{G:Gp}{Q:DK}(st:D→DSt)(f:D→D)(c:D→Bool)(hz:ds.length<sizeLine)(hsm:∀ys,same (Ac G p (.lst ys)))(hst:∀x∈ds,Q9 n σ (st x)∧∀(G':Gp) (R:DSt→Gp→Prop),R (st x) G'→g x (List.replicate n none++σ) G' R)(hs:∀x ys,x∈ds→ys.length<sizeLine→∀(R1:D→Gp→Prop) (R2:Gp→Prop),(c x=true→R1 (f x) (Ac G p (.lst (ys++[f x]))))→(c x=false→R2 (Ac G p (.lst ys)))→
   tf (st x) (Ac G p (.lst ys)) fun b G3=>if b=true then te (st x) G3 fun y G4=>G4 p=some (.lst ys)∧ys.length<sizeLine∧Fg (R1 y) (Ac G4 p (.lst (ys++[y]))) else Fg R2 G3)(hq:Q (.ref p) (Ac G p (.lst ((ds.filter c).map f)))):Fn n p ds same g tf te σ (Ac G p (.lst [])) Q:=by
 refine⟨fun i ys G'=>ys=((ds.take i).filter c).map f∧Ac G p (.lst ys)=G',⟨rfl,rfl⟩,?_,?_,?_⟩
 ·rintro i ys _ _ ⟨_,rfl⟩
  exact⟨hsm ys,Aa⟩
 ·rintro i x ys _ hx ⟨e,rfl⟩
  have hi:=(List.getElem?_eq_some_iff.mp hx).1
  have hm:=List.mem_of_getElem? hx
  have hl:ys.length<sizeLine:=by
   rw[e,List.length_map]
   refine Nat.lt_of_le_of_lt (List.length_filter_le _ _) ?_
   rw[List.length_take];omega
  have tk:ds.take (i+1)=ds.take i++[x]:=by rw[List.take_add_one,hx];rfl
  refine(hst x hm).2 _ _ ⟨(hst x hm).1,?_⟩
  refine hs x ys hm hl (fun y G'=>ys++[y]=((ds.take (i+1)).filter c).map f∧Ac G p (.lst (ys++[y]))=G') (fun G'=>ys=((ds.take (i+1)).filter c).map f∧Ac G p (.lst ys)=G') (fun hc=>⟨?_,rfl⟩) (fun hc=>⟨?_,rfl⟩)
  ·rw[tk,List.filter_append,List.map_append,←e];simp[hc]
  ·rw[tk,List.filter_append,List.map_append,←e];simp[hc]
 ·rintro ys _ ⟨e,rfl⟩
  rw[List.take_length] at e
  rw[e];exact hq
end
def P6:Expr→Bool
 |.Starred ..=>false
 |_=>true
theorem Sv{e:Expr}{es:List Expr}{env:Env}(h:P6 e=true):starEach (e::es) env=(false,eval e env)::starEach es env:=by
 cases e<;>first|rfl|exact absurd h (by simp[P6])
theorem qa_consP{X:Cx}{e:Expr}{es:List Expr}{te:DTE}{tA:DTA}(ha:QE X e te)(hr:QA X es tA)(h:P6 e=true:=by rfl):QA X (e::es) (Ag te tA):=Rm ha hr (Sv h)
def Ey(ta:DTE):DTE:=fun σ G Q=>ta σ G fun x G1=>∃i,x=.int i∧Q (.int (-i)) G1
theorem q_neg{X:Cx}{a:Expr}{ta:DTE}{pos:Pos}(ha:QE X a ta):QE X (.UnaryOp .USub a pos) (Ey ta):=(Abc Abv ha).imp fun σ H Q ⟨σD,G,Q',rs,rg,h,cl⟩=>by
 refine⟨σD,G,_,rs,rg,h,fun d G1 ⟨i,e,h1⟩ H1 x1 rg1 v dv=>?_⟩
 subst e;cases dv
 exact⟨i,rfl,cl _ G1 h1 H1 x1 rg1 _ (.int _)⟩
def tPar3(i j l:Nat)(ta:TA):TS:=fun D σ H=>ta σ H fun vs H1=>∃v w z,vs=[v,w,z]∧D.nx (((σ.set i (some v)).set j (some w)).set l (some z)) H1
theorem Zr{X:Cx}{pos:Pos}{i j l:Nat}{x y z:Str}{a b c:Expr}{ta:TA}{px py pz pt:Pos}{kt k2 pt2}(hc:X.calm=true)(hN:X.N.Nodup)(hi:X.N[i]? = some x)(hj:X.N[j]? = some y)(hl:X.N[l]? = some z)(hij:i≠j)(hil:i≠l)(hjl:j≠l)(hx:X.env.scope.names.lookup x=some .local)(hy:X.env.scope.names.lookup y=some .local)(hzz:X.env.scope.names.lookup z=some .local)(ha:PA X [a,b,c] ta)(hw:swappedStores [.Tuple [.Name x px,.Name y py,.Name z pz] kt pt] (.Tuple [a,b,c] k2 pt2) X.env=pure (some [x,y,z]))(hs:swapsWithSole [.Tuple [.Name x px,.Name y py,.Name z pz] kt pt] (.Tuple [a,b,c] k2 pt2) pos.line X.env=pure false:=by rfl) :
  PS X (.Assign [.Tuple [.Name x px,.Name y py,.Name z pz] kt pt] (.Tuple [a,b,c] k2 pt2) pos) (tPar3 i j l ta):=by
 intro pins s σ H D I h
 rw[exec_Assign_arm]
 refine wpAny_bind (wpAny_standAt ?_)
 rw[hs]
 refine wpAny_bind (wpAny_pure ?_)
 rw[if_neg (by decide)]
 refine wpAny_bind (Tuple_ (thn (ha _ pins s σ H _ I h) fun us s1 ⟨vs,H1,I1,r1,q1⟩=>?_))
 obtain⟨v,w,u,e1,q1⟩:=q1
 subst e1
 obtain⟨u1,u2,u3,rfl,rv,rw',rz⟩:=Aa5 r1
 refine wpAny_newObj_type ?_ (by show 3≤sizeLine;decide)
 have I2:Inv X pins σ H1 { s1 with heap:=s1.heap.push { cls:=.type "tuple",data:=.seq [u1,u2,u3].toArray } }:=I1.kept (t':=s1.toks) fun b o e=>Heap.get?_push_of_some _ e
 rw[hw]
 refine wpAny_bind (wpAny_pure ?_)
 show wpAny (model X.prog X.w) X.A (do rule "assign.swapped-stores";let items ←unpackItems (.ref s1.heap.objs.size) 3 none;assignInOrder [fun v=>bindName X.env z v,fun v=>bindName X.env y v,fun v=>bindName X.env x v] items.reverse;pure Flow.next) _ _ _
 refine wpAny_bind (wpAny_rule (wpAny_bind (unpackItems_tuple (items:=#[u1,u2,u3]) (I.ok.hd hc) (IsTup.new s1.heap _) fun h' hx'=>?_)))
 have I3:=I2.kept (h':=h') (t':=s1.toks) fun b o e=>hx' b o (Nat.ne_of_lt (Heap.lt_size e)) e
 show wpAny _ _ (assignInOrder [fun v=>bindName X.env z v,fun v=>bindName X.env y v,fun v=>bindName X.env x v] [u3,u2,u1] >>= fun _=>pure Flow.next) _ _ _
 refine wpAny_bind (assignInOrder_cons (wpAny_bindName (Cz I3 hN hl (.inl hzz) rz (fun s2 I4=>?_) (.inr hzz))))
 refine assignInOrder_cons (wpAny_bindName (Cz I4 hN hj (.inl hy) rw' (fun s3 I5=>?_) (.inr hy)))
 refine assignInOrder_cons (wpAny_bindName (Cz I5 hN hi (.inl hx) rv (fun s4 I6=>assignInOrder_nil (wpAny_pure ?_)) (.inr hx)))
 have e:(((σ.set l (some u)).set j (some w)).set i (some v))=((σ.set i (some v)).set j (some w)).set l (some u):=by
  rw[List.set_comm _ _ (Ne.symm hij),List.set_comm (i:=l) (j:=i) _ _ (Ne.symm hil),List.set_comm (i:=l) (j:=j) _ _ (Ne.symm hjl)]
 rw[e] at I6
 exact⟨_,H1,I6,q1⟩
def Abe(i j l:Nat)(ta:DTA):DTS:=fun D σ G=>ta σ G fun vs G1=>∃v w z,vs=[v,w,z]∧D.nx (((σ.set i (some v)).set j (some w)).set l (some z)) G1
theorem DVs.three{K:W.Frag}{H:Hp}{d e f:D}{vs:List V}(r:DVs K H [d,e,f] vs):∃v w u,vs=[v,w,u]∧DV K H d v∧DV K H e w∧DV K H f u:=by
 cases r with|cons h t=>cases t with|cons h' t'=>cases t' with|cons h2 t2=>cases t2;exact⟨_,_,_,rfl,h,h',h2⟩
theorem Zi{X:Cx}{pos:Pos}{i j l:Nat}{x y z:Str}{a b c:Expr}{tA:DTA}{px py pz pt:Pos}{kt k2 pt2}(hc:X.calm=true)(hN:X.N.Nodup)(ha:QA X [a,b,c] tA)(hi:X.N[i]? = some x:=by rfl)(hj:X.N[j]? = some y:=by rfl)(hl:X.N[l]? = some z:=by rfl)(hij:i≠j:=by decide)(hil:i≠l:=by decide)(hjl:j≠l:=by decide)(hx:X.env.scope.names.lookup x=some .local:=by rfl)(hy:X.env.scope.names.lookup y=some .local:=by rfl)(hz:X.env.scope.names.lookup z=some .local:=by rfl)(hw:swappedStores [.Tuple [.Name x px,.Name y py,.Name z pz] kt pt] (.Tuple [a,b,c] k2 pt2) X.env=pure (some [x,y,z]):=by rfl)(hs:swapsWithSole [.Tuple [.Name x px,.Name y py,.Name z pz] kt pt] (.Tuple [a,b,c] k2 pt2) pos.line X.env=pure false:=by rfl) :
  QS X (.Assign [.Tuple [.Name x px,.Name y py,.Name z pz] kt pt] (.Tuple [a,b,c] k2 pt2) pos) (Abe i j l tA):=(Zr hc hN hi hj hl hij hil hjl hx hy hz ha hw hs).imp fun E σ H ⟨σD,G,D,rs,rg,h,cl⟩=>by
 refine⟨σD,G,_,rs,rg,h,fun ds G1 ⟨d1,d2,d3,e,h1⟩ H1 x1 rg1 vs dv=>?_⟩
 subst e
 obtain⟨v,w,u,rfl,r1,r2,r3⟩:=dv.three
 exact⟨v,w,u,rfl,cl.nx _ G1 h1 H1 x1 rg1 _ ((((rs.ext x1).set r1 i).set r2 j).set r3 l)⟩
theorem ex3{p:D→D→D→Prop}{j k l:D}:(∃x y z,[j,k,l]=[x,y,z]∧p x y z)↔p j k l:=⟨fun⟨_,_,_,e,h⟩=>by cases e;exact h,fun h=>⟨j,k,l,rfl,h⟩⟩
end D3
namespace D3
open PySem PySem.Spec
open PyProof.Rows hiding St
open L2 hiding St
def Ris(xs:Array Nat):Prop:=∀i j,i<j→j<xs.size→∀d,xs.getD i d<xs.getD j d
theorem Jj{xs:Array Nat}{j:Nat}(hr:Ris xs):∀(fuel lo hi:Nat),hi≤lo+fuel→lo≤hi→hi≤xs.size→(∀i,i<lo→xs.getD i j<j)→(∀i,hi≤i→i<xs.size→j≤xs.getD i j)→
  (SetTable.below.go xs j fuel lo hi)≤xs.size∧(∀i,i<SetTable.below.go xs j fuel lo hi→xs.getD i j<j)∧∀i,SetTable.below.go xs j fuel lo hi≤i→i<xs.size→j≤xs.getD i j
 |0,lo,hi,h1,h2,h3,h4,h5=>by
  have:lo=hi:=by omega
  subst this
  exact⟨h3,h4,h5⟩
 |fuel+1,lo,hi,h1,h2,h3,h4,h5=>by
  rw[SetTable.below.go]
  by_cases hlt:lo<hi
  ·rw[if_pos hlt]
   have hm1:lo≤(lo+hi) / 2:=by omega
   have hm2:(lo+hi) / 2<hi:=by omega
   dsimp only
   by_cases hc:xs.getD ((lo+hi) / 2) j<j
   ·rw[if_pos hc]
    refine Jj hr fuel _ hi (by omega) (by omega) h3 (fun i hi'=>?_) h5
    by_cases e:i=(lo+hi) / 2
    ·subst e;exact hc
    ·exact Nat.lt_trans (hr i _ (by omega) (by omega) j) hc
   ·rw[if_neg hc]
    refine Jj hr fuel lo _ (by omega) hm1 (by omega) h4 (fun i hi' hs=>?_)
    by_cases e:i=(lo+hi) / 2
    ·subst e;exact Nat.le_of_not_lt hc
    ·exact Nat.le_trans (Nat.le_of_not_lt hc) (Nat.le_of_lt (hr _ i (by omega) hs j))
  ·rw[if_neg hlt]
   have:lo=hi:=by omega
   subst this
   exact⟨h3,h4,h5⟩
theorem Jz{xs:Array Nat}(hr:Ris xs)(j:Nat):SetTable.below xs j≤xs.size∧(∀i,i<SetTable.below xs j→xs.getD i j<j)∧∀i,SetTable.below xs j≤i→i<xs.size→j≤xs.getD i j:=
 Jj hr _ 0 _ (by omega) (Nat.zero_le _) (Nat.le_refl _) (fun i h=>absurd h (Nat.not_lt_zero _)) (fun i h1 h2=>absurd h2 (by omega))
theorem O6{xs:Array Nat}(hr:Ris xs){j i:Nat}(hi:i≤xs.size)(h1:∀k,k<i→xs.getD k j<j)(h2:∀k,i≤k→k<xs.size→j≤xs.getD k j):SetTable.below xs j=i:=by
 obtain⟨a,b,c⟩:=Jz hr j
 generalize SetTable.below xs j=r at *
 rcases Nat.lt_trichotomy r i with h|h|h
 ·have x1:=h1 r h;have x2:=c r (Nat.le_refl _) (by omega);omega
 ·exact h
 ·have x1:=b i h;have x2:=h2 i (Nat.le_refl _) (by omega);omega
theorem Dy{xs:Array Nat}{i:Nat}(h:i<xs.size)(d e:Nat):xs.getD i d=xs.getD i e:=by
 rw[Array.getD,Array.getD,dif_pos h,dif_pos h]
theorem Q0{xs:Array Nat}(hr:Ris xs){i:Nat}(h:i<xs.size):SetTable.below xs (xs.getD i 0+1)=i+1:=by
 refine O6 hr (by omega) (fun k hk=>?_) (fun k hk hs=>?_)
 ·by_cases e:k=i
  ·subst e;rw[Dy h _ 0];omega
  ·have:=hr k i (by omega) h 0
   rw[Dy (by omega) _ 0];omega
 ·have:=hr i k (by omega) hs 0
  rw[Dy hs _ 0];omega
theorem Qz{xs:Array Nat}(hr:Ris xs):SetTable.below xs 0=0:=
 O6 hr (Nat.zero_le _) (fun k h=>absurd h (Nat.not_lt_zero _)) fun k _ _=>Nat.zero_le _
theorem ins_get{α:Type}{xs:Array α}{p:Nat}{x:α}(hp:p≤xs.size)(i:Nat):(SetTable.insertAt xs p x)[i]? = if i<p then xs[i]? else if i=p then some x else xs[i-1]?:=by
 unfold SetTable.insertAt
 have e1:((xs.extract 0 p).push x).size=p+1:=by simp;omega
 rw[Array.getElem?_append,e1]
 by_cases h1:i<p
 ·rw[if_pos (by omega),if_pos h1,Array.getElem?_push,if_neg (by simp;omega),Array.getElem?_extract,if_pos (by omega),Nat.zero_add]
 ·rw[if_neg h1]
  by_cases h2:i=p
  ·subst h2
   rw[if_pos (by omega),if_pos rfl,Array.getElem?_push,if_pos (by simp;omega)]
  ·rw[if_neg (by omega),if_neg h2,Array.getElem?_extract]
   by_cases h3:i-1<xs.size
   ·rw[if_pos (by omega)];congr 1;omega
   ·rw[if_neg (by omega),Array.getElem?_eq_none (by omega)]
theorem Xv{α:Type}{xs:Array α}{p:Nat}{x:α}(hp:p≤xs.size):(SetTable.insertAt xs p x).size=xs.size+1:=by
 unfold SetTable.insertAt;simp;omega
theorem getD_of{xs:Array Nat}{i d:Nat}:xs.getD i d=(xs[i]?).getD d:=by
 by_cases h:i<xs.size
 ·rw[Array.getD,dif_pos h,Array.getElem?_eq_getElem h];rfl
 ·rw[Array.getD,dif_neg h,Array.getElem?_eq_none (by omega)];rfl
theorem Zf{xs:Array Nat}(hr:Ris xs){j:Nat}(hne:xs[SetTable.below xs j]?≠some j):Ris (SetTable.insertAt xs (SetTable.below xs j) j):=by
 obtain⟨a,b,c⟩:=Jz hr j
 generalize SetTable.below xs j=p at *
 intro i k hik hk d
 rw[Xv a] at hk
 rw[getD_of,getD_of,ins_get a,ins_get a]
 have up:∀k,p≤k→k<xs.size→j<xs.getD k d:=fun k h1 h2=>by
  have h3:=c k h1 h2
  rw[Dy h2 j d] at h3
  refine Nat.lt_of_le_of_ne h3 fun e=>?_
  by_cases hkp:k=p
  ·subst hkp
   refine hne ?_
   rw[Array.getElem?_eq_getElem h2]
   rw[Array.getD,dif_pos h2] at e
   rw[e];rfl
  ·have h4:=c p (Nat.le_refl _) (by omega)
   have h5:=hr p k (by omega) h2 j
   rw[Dy h2 j d] at h5
   omega
 have dn:∀k,k<p→xs.getD k d<j:=fun k h1=>by
  have:=b k h1
  rw[Dy (by omega) j d] at this;exact this
 have self:∀m:Nat,(xs[m]?).getD d=xs.getD m d:=fun m=>getD_of.symm
 by_cases h1:i<p
 ·rw[if_pos h1,self]
  by_cases h2:k<p
  ·rw[if_pos h2,self];exact hr i k hik (by omega) d
  ·rw[if_neg h2]
   by_cases h3:k=p
   ·rw[if_pos h3];exact dn i h1
   ·rw[if_neg h3,self];exact Nat.lt_trans (dn i h1) (up _ (by omega) (by omega))
 ·rw[if_neg h1,if_neg (show ¬k<p by omega),if_neg (show ¬k=p by omega),self (k-1)]
  by_cases h2:i=p
  ·rw[if_pos h2];exact up _ (by omega) (by omega)
  ·rw[if_neg h2,self];exact hr _ _ (by omega) (by omega) d
theorem S4{n:Nat}:Ris (Array.range n):=fun i j h1 h2 d=>by
 simp only[Array.size_range] at h2
 rw[Array.getD,dif_pos (by simp;omega),Array.getD,dif_pos (by simpa using h2)]
 simpa using h1
theorem Pc{l:List Nat}(h:l.Pairwise (· < ·)):Ris l.toArray:=fun i j h1 h2 d=>by
 simp only[List.size_toArray] at h2
 rw[Array.getD,dif_pos (by simp;omega),Array.getD,dif_pos (by simpa using h2)]
 exact List.pairwise_iff_getElem.mp h i j (by omega) h2 h1
theorem J9{β:Type}(f:Nat→Option β):∀l:List Nat,l.Pairwise (· < ·)→((l.filterMap fun j=>(f j).map fun k=>(j,k)).map (·.1)).Pairwise (· < ·):=fun l h=>by
 rw[List.map_filterMap]
 refine List.Pairwise.filterMap _ (fun a a' haa b hb b' hb'=>?_) h
 cases e:f a with
 |none=>rw[e] at hb;cases hb
 |some x=>
  cases e':f a' with
  |none=>rw[e'] at hb';cases hb'
  |some x'=>rw[e] at hb;rw[e'] at hb';cases hb;cases hb';exact haa
structure TOk(w:World)(t:SetTable):Prop where
 ris:Ris t.place
 dum:t.dummies=#[]
 led:w.params.followText "set-order" = true∨t.led=true
theorem Vs{j:Nat}:SetTable.has #[] j=false:=by
 unfold SetTable.has
 simp
theorem Qe{t:SetTable}(h:t.dummies=#[])(j:Nat):t.slot j≠.dummy:=by
 unfold SetTable.slot
 dsimp only
 rw[h,Vs]
 split
 ·intro e;cases e
 ·intro e;cases e
theorem Jq{t:SetTable}(hd:t.dummies=#[]){f:Nat→Int}{h:Int}:∀(n:Nat) (p:SetTable.Probe),p.dummy=none→∀j d,SetTable.probe.go t f h n p=some (.empty j d)→d=none∧t.slot j=.empty
 |0,p,_,j,d,e=>by rw[SetTable.probe.go] at e;cases e
 |n+1,p,hp,j,d,e=>by
  rw[SetTable.probe.go] at e
  have ha:(t.advance p).dummy=none:=by
   unfold SetTable.advance
   split
   ·exact hp
   ·exact hp
  split at e
  ·rename_i hs
   cases e
   exact⟨hp,hs⟩
  ·rename_i hs
   exact absurd hs (Qe hd _)
  ·split at e
   ·cases e
   ·exact Jq hd n _ ha j d e
theorem Tv{t:SetTable}(hd:t.dummies=#[]){h:Int}{j:Nat}{b:Bool}(e:t.freeSlot h=some (j,b)):b=false∧t.place[SetTable.below t.place j]?≠some j:=by
 unfold SetTable.freeSlot SetTable.probe at e
 split at e
 ·rename_i j' d hq
  obtain⟨rfl,hs⟩:=Jq hd _ _ rfl _ _ hq
  cases e
  refine⟨rfl,fun z=>?_⟩
  unfold SetTable.slot at hs
  dsimp only[Option.getD] at z hs
  rw[z] at hs
  simp at hs
 ·cases e
theorem TOk.standIn{w:World}{t:SetTable}(h:TOk w t)(n:Nat):TOk w (t.standIn n):=⟨S4,rfl,h.led⟩
theorem TOk.orStand{w:World}{t:SetTable}(h:TOk w t)(n:Nat):TOk w (t.orStandIn n):=by
 unfold SetTable.orStandIn
 split
 ·exact h
 ·exact h.standIn n
theorem TOk.put{w:World}{t:SetTable}(h:TOk w t){j:Nat}(hne:t.place[SetTable.below t.place j]?≠some j):TOk w (t.put j).1:=by
 refine⟨Zf h.ris hne,?_,h.led⟩
 show(if SetTable.has t.dummies j=true then _ else t.dummies)=#[]
 rw[h.dum,Vs];rfl
theorem Qo{w:World}{t:SetTable}{es:Array (Int×Value)}{h:Int}{x:Value}(hT:TOk w t):TOk w (layNew t es h x).2.1:=by
 unfold layNew
 split
 ·rename_i slot b e
  obtain⟨_,hne⟩:=Tv hT.dum e
  exact(hT.put hne).orStand _
 ·exact hT.standIn _
theorem Xq{w:World}{mask finger moves:Nat}{led plain:Bool}{hs:Array Int}{t:SetTable}{o:Array Nat}(hl:w.params.followText "set-order" = true∨led=true)(e:SetTable.laid mask finger moves led plain hs=some (t,o)):TOk w t:=by
 unfold SetTable.laid at e
 cases hq:SetTable.layClean mask hs with
 |none=>rw[hq] at e;cases e
 |some owner=>
  rw[hq] at e
  cases e
  exact⟨Pc (J9 _ _ List.pairwise_lt_range),rfl,hl⟩
theorem S5{w:World}{t:SetTable}{es:Array (Int×Value)}{n:Nat}(hT:TOk w t):TOk w (relayAll t es n).2.1:=by
 unfold relayAll
 split
 ·rename_i t' o e
  dsimp only
  split
  ·exact Xq hT.led e
  ·exact hT.standIn _
 ·exact hT.standIn _
end D3
namespace D3
open PySem PySem.Spec
open PyProof.Rows hiding St
open L2 hiding St
def eI(e:Int×Value):Int:=match e.2 with|.int i _=>i|_=>0
abbrev Ap(es:Array (Int×Value))(ep:Nat)(t:SetTable):Obj:={ cls:=.type "set",dict:=none,data:=.set es ep t,slots:=#[] }
structure SOk(P:Program)(w:World)(es:Array (Int×Value))(t:SetTable)(ks:List Int):Prop where
 tok:TOk w t
 fit:t.fits es.size=true
 el:∀e∈es.toList,∃i u,e=((intKind P w).hash i,Value.int i u)
 nd:(es.toList.map eI).Nodup
 mem:∀k,k∈es.toList.map eI↔k∈ks
 sz:es.size<scanBound
section
variable{P:Program}{w:World}{A:Around}{E:Value→Shared→Prop}{s:Shared}
theorem SOk.elems{es:Array (Int×Value)}{t:SetTable}{ks:List Int}(h:SOk P w es t ks):ElemsOf (intKind P w) es.toList:=fun e he=>by
 obtain⟨i,u,rfl⟩:=h.el e he
 exact⟨⟨i,intKind_is P w i u,rfl⟩,rfl⟩
theorem SOk.fresh(led:Bool)(h:w.params.followText "set-order" = true∨led=true):SOk P w #[] (.fresh 0 0 led) []:=
 ⟨⟨fun i j _ h=>absurd h (Nat.not_lt_zero _),rfl,h⟩,rfl,fun e he=>by simp at he,List.nodup_nil,fun k=>by simp,by decide⟩
theorem SOk.perm{es es':Array (Int×Value)}{t t':SetTable}{ks:List Int}(h:SOk P w es t ks)(p:List.Perm es'.toList es.toList)(ht:TOk w t')(hf:t'.fits es'.size=true):SOk P w es' t' ks:=by
 have hs:es'.size=es.size:=by rw[←Array.length_toList,p.length_eq,Array.length_toList]
 exact⟨ht,hf,fun e he=>h.el e (p.mem_iff.mp he),(p.map eI).nodup_iff.mpr h.nd,fun k=>((p.map eI).mem_iff).trans (h.mem k),by rw[hs];exact h.sz⟩
theorem SOk.more{es es':Array (Int×Value)}{t t':SetTable}{ks:List Int}(h:SOk P w es t ks){k:Int}{u:Tok}(hk:k ∉ ks)(p:List.Perm es'.toList (es.push ((intKind P w).hash k,Value.int k u)).toList)(hz:es.size+1<scanBound)(ht:TOk w t')(hf:t'.fits es'.size=true):SOk P w es' t' (ks++[k]):=by
 rw[Array.toList_push] at p
 have hs:es'.size=es.size+1:=by rw[←Array.length_toList,p.length_eq];simp
 have pm:=p.map eI
 rw[List.map_append] at pm
 refine⟨ht,hf,fun e he=>?_,?_,fun z=>?_,by rw[hs];exact hz⟩
 ·rcases List.mem_append.mp (p.mem_iff.mp he) with z|z
  ·exact h.el e z
  ·rw[List.mem_singleton.mp z];exact⟨k,u,rfl⟩
 ·refine pm.nodup_iff.mpr (List.nodup_append.mpr ⟨h.nd,by simp,fun a ha b hb e=>?_⟩)
  simp only[List.map_cons,List.map_nil,List.mem_singleton] at hb
  subst hb;subst e
  exact hk ((h.mem _).mp ha)
 ·rw[pm.mem_iff,List.mem_append,List.mem_append,h.mem]
  simp[eI]
theorem SOk.again{es:Array (Int×Value)}{t:SetTable}{ks:List Int}(h:SOk P w es t ks){k:Int}(hk:k∈ks):SOk P w es t (ks++[k]):=
 ⟨h.tok,h.fit,h.el,h.nd,fun z=>by rw[h.mem,List.mem_append];exact⟨.inl,fun q=>q.elim id fun e=>by rw[List.mem_singleton.mp e];exact hk⟩,h.sz⟩
theorem put_set{h:Heap}{a:Addr}{es es':Array (Int×Value)}{ep:Nat}{t t':SetTable}(ho:h.get? a=some (Ap es ep t)):(h.update a (Obj.putSet es' t')).get? a=some (Ap es' (ep+1) t'):=by
 have e:=Heap.get?_update_self (Obj.putSet es' t') ho (by rw[putSet_of es' t' rfl];rfl)
 rw[putSet_of es' t' rfl] at e;exact e
theorem Wj{a:Addr}{es:Array (Int×Value)}{ep:Nat}{t:SetTable}{ks:List Int}{k:Int}{u:Tok}{Q:Bool→Shared→Prop}(ho:s.heap.get? a=some (Ap es ep t))(h:SOk P w es t ks)(hz:es.size+1<scanBound)(fin:∀b h' es' ep' t',Heap.SameBut a s.heap h'→h'.get? a=some (Ap es' ep' t')→SOk P w es' t' (ks++[k])→es'.size≤es.size+1→Q b { s with heap:=h' }) :
  wpAny (model P w) A (setAddHashed a (.int k u) ((intKind P w).hash k)) Q E s:=by
 have hk:=intKind_is P w k u
 unfold setAddHashed setAddHashedIn
 refine wpAny_holding (wpAny_bind (wpAny_setState_of ho rfl h.fit ?_));dsimp only
 rw[byScan_of (knd:=intKind P w) rfl h.sz h.elems];simp only[↓reduceIte]
 unfold setAddByScan
 refine wpAny_bind (wpAny_bind (wpAny_rule (wpAny_bind (wpAny_setScan_of (knd:=intKind P w) hk ho rfl h.fit h.elems ?_))))
 have heq:∀e∈es.toList,(intKind P w).is k e.2=decide (eI e=k):=fun e he=>by
  obtain⟨i,v,rfl⟩:=h.el e he
  show Value.isInt k (.int i v)=decide (i=k)
  simp only[Value.isInt]
  by_cases z:i=k
  ·subst z;simp
  ·simp[z]
 cases hr:List.findIdx? (fun e=>(intKind P w).is k e.2) es.toList with
 |some j=>
  obtain⟨hj,hpj,_⟩:=List.findIdx?_eq_some_iff_getElem.mp hr
  have hin:k∈ks:=by
   rw[heq _ (List.getElem_mem hj)] at hpj
   exact(h.mem k).mp (List.mem_map.mpr ⟨_,List.getElem_mem hj,of_decide_eq_true hpj⟩)
  dsimp only
  refine wpAny_pure (wpAny_pure ?_)
  have e:s={ s with heap:=s.heap }:=by cases s;rfl
  rw[e];exact fin false s.heap es ep t (Heap.SameBut.refl a s.heap) ho (h.again hin) (Nat.le_succ _)
 |none=>
  have hnot:k ∉ ks:=fun z=>by
   obtain⟨e,he,ee⟩:=List.mem_map.mp ((h.mem k).mpr z)
   have q:=List.findIdx?_eq_none_iff.mp hr e he
   rw[heq e he,decide_eq_true ee] at q
   cases q
  dsimp only
  have hp:=layNew_perm t es ((intKind P w).hash k) (.int k u);have hf:=layNew_fits t es ((intKind P w).hash k) (.int k u);have ht:=Qo (w:=w) (es:=es) (h:=(intKind P w).hash k) (x:=.int k u) h.tok
  generalize layNew t es ((intKind P w).hash k) (.int k u)=L at hp hf ht ⊢
  obtain⟨es1,t1,wd,gave⟩:=L
  dsimp only at hp hf ht ⊢
  have h1:SOk P w es1 t1 (ks++[k]):=h.more hnot hp hz ht hf
  have hs1:es1.size=es.size+1:=by rw[←Array.length_toList,hp.length_eq];simp
  refine wpAny_bind ?_
  have quiet:∀(b:Bool) {s₁:Shared} {Q':Unit→Shared→Prop},Q' () s₁→wpAny (model P w) A (match b with|true=>rule "set.scan.the-table-gave-way" | false=>pure ()) Q' E s₁:=fun b s₁ Q' q=>by
   cases b
   ·exact wpAny_pure q
   ·exact wpAny_rule q
  refine quiet _ ?_
  have tail:∀(g:Bool→Sem Unit),(∀(b:Bool) (s₁:Shared) (Q':Unit→Shared→Prop),Q' () s₁→wpAny (model P w) A (g b) Q' E s₁)→wpAny (model P w) A (do
    storeSet a es1 t1
    if (!wd&&t1.tooFull)=true then do
      g (relayAll t1 es1 (SetTable.grown es1.size)).2.2
      storeSet a (relayAll t1 es1 (SetTable.grown es1.size)).1 (relayAll t1 es1 (SetTable.grown es1.size)).2.1
      pure (some true)
     else pure (some true)) (fun r s'=>wpAny (model P w) A (match r with|some added=>pure added|none=>setAddHashedIn a (.int k u) ((intKind P w).hash k) 99999) Q E s') E s:=by
   intro g hg
   refine wpAny_bind (wpAny_storeSet_of ho rfl ?_ (fits_of_scanBound h1.sz))
   have ho1:(s.heap.update a (Obj.putSet es1 t1)).get? a=some (Ap es1 (ep+1) t1):=put_set ho
   have same1:=Heap.SameBut.update s.heap a (Obj.putSet es1 t1)
   split
   ·have hp2:=relayAll_perm t1 es1 (SetTable.grown es1.size);have hf2:=relayAll_fits t1 es1 (SetTable.grown es1.size);have ht2:=S5 (es:=es1) (n:=SetTable.grown es1.size) h1.tok
    generalize relayAll t1 es1 (SetTable.grown es1.size)=R at hp2 hf2 ht2 ⊢
    obtain⟨es2,t2,gave2⟩:=R
    dsimp only at hp2 hf2 ht2 ⊢
    have h2:SOk P w es2 t2 (ks++[k]):=h1.perm hp2 ht2 hf2
    have hs2:es2.size=es1.size:=by rw[←Array.length_toList,hp2.length_eq,Array.length_toList]
    refine wpAny_bind (hg _ _ _ (wpAny_bind (wpAny_storeSet_of ho1 rfl ?_ (fits_of_scanBound h2.sz))))
    exact wpAny_pure (wpAny_pure (fin _ _ es2 _ t2 (same1.trans (Heap.SameBut.update _ a _)) (put_set ho1) h2 (by omega)))
   ·exact wpAny_pure (wpAny_pure (fin _ _ es1 _ t1 same1 ho1 h1 (by omega)))
  split
  ·refine wpAny_bind ?_
   rw[hashByValue_scannable 8 (x:=.int k u) rfl]
   refine wpAny_pure ?_
   simp only[plainKind,if_true]
   refine tail _ fun b s₁ Q' q=>?_
   cases b
   ·exact wpAny_pure q
   ·exact wpAny_rule q
  ·refine wpAny_bind (wpAny_pure ?_)
   simp only[↓reduceIte]
   refine tail _ fun b s₁ Q' q=>?_
   cases b
   ·exact wpAny_pure q
   ·exact wpAny_rule q
end
end D3
namespace D3
open PySem PySem.Spec
open PyProof.Rows hiding St
open L2 hiding St
section
variable{P:Program}{w:World}{A:Around}{R:Result→Shared→Prop}{E:Value→Shared→Prop}{s:Shared}
theorem N8{I:Addr}{fp wr:List Addr}{G:Array GenState→Array GenState→Prop}{n:Nat}{Pv:Nat→Value→Prop}{St:Nat→Shared→Prop}(W:WalksS P w A.in1 I fp wr G n Pv St)(S:Addr)(hSf:S ∉ fp)(ns:List Int)(hn:ns.length=n)(hval:∀i v,Pv i v→∃t,v=.int (ns.getD i 0) t)(hb:n+1<scanBound) :
  ∀(k i:Nat) (s:Shared) (es:Array (Int×Value)) (ep:Nat) (t:SetTable),n-i=k→i≤n→St i s→s.heap.get? S=some (Ap es ep t)→SOk P w es t (ns.take i)→es.size≤i→
   (∀s' es' ep' t',Moved (S::wr) G s s'→s'.heap.get? S=some (Ap es' ep' t')→SOk P w es' t' ns→es'.size≤n→R (.ok (.ret .none)) s')→
   codeAny (model P w) A (.builtin "set.update.loop" ⟨[.ref S,.ref I],[]⟩) R s:=by
 have hSw:S ∉ wr:=fun h=>hSf (W.sub _ h)
 have hsub:∀b∈wr,b∈S::wr:=fun b hb=>List.mem_cons_of_mem _ hb
 intro k
 induction k with
 |zero=>
  intro i s es ep t hk hi hst hS hO hz hR
  have hin:i=n:=by omega
  subst hin
  rw[List.take_of_length_le (by omega)] at hO
  refine codeAny_builtin PyProof.Rows.F.entry_set_update_loop ?_
  rw[Around.under_plainId PyProof.Rows.F.plain_set_update_loop _]
  show wpAny _ A.in1 (pyNext (.ref I) >>= _) _ _ s;refine wpAny_bind (W.done s _ _ hst fun s' hm=>?_)
  exact wpAny_pure (hR s' es ep t (hm.mono hsub) (hm.heap S _ hSw hS) hO hz)
 |succ k ih=>
  intro i s es ep t hk hi hst hS hO hz hR
  have hlt:i<n:=by omega
  refine codeAny_builtin PyProof.Rows.F.entry_set_update_loop ?_
  rw[Around.under_plainId PyProof.Rows.F.plain_set_update_loop _]
  show wpAny _ A.in1 (pyNext (.ref I) >>= _) _ _ s;refine wpAny_bind (W.item i s _ _ hlt hst fun v s' hP hst' hm=>?_)
  obtain⟨u,rfl⟩:=hval i v hP
  have hS':=hm.heap S _ hSw hS
  show wpAny _ A.in1 (holding [Value.int (ns.getD i 0) u] (setAdd S (.int (ns.getD i 0) u)) >>= _) _ _ s'
  refine wpAny_bind (wpAny_holding ?_);unfold setAdd
  refine wpAny_holding (wpAny_bind ((intKind P w).pyHash (k:=ns.getD i 0) (intKind_is _ _ _ _) ?_))
  refine Wj (s:={ s' with toks:=s'.toks+1 }) hS' hO (by omega) fun b h' es' ep' t' same ho' hO' hz'=>?_
  have tk:ns.take (i+1)=ns.take i++[ns.getD i 0]:=by
   rw[List.take_add_one,List.getD,List.getElem?_eq_getElem (by omega)];rfl
  rw[←tk] at hO'
  refine wpAny_pure ⟨plainId_quiet PyProof.Rows.F.plain_set_update_loop _,ih (i+1) _ es' ep' t' (by omega) hlt (W.frame _ s' _ _ hst' (Nat.le_succ _) fun b hb o e=>?_) ho' hO' (by omega) fun s'' es'' ep'' t'' hm'' hS'' hO'' hz''=>?_⟩
  ·rw[same.2 b (fun h:b=S=>hSf (by rw[←h];exact hb))];exact e
  ·refine hR s'' es'' ep'' t'' (Moved.trans W.gtrans ((hm.mono hsub).then_heap (Nat.le_succ _) fun b o hb e=>?_) hm'') hS'' hO'' hz''
   rw[same.2 b (fun h:b=S=>hb (by rw[h];exact List.mem_cons_self))];exact e
theorem Qf(a:Value){Q₁:Value→Shared→Prop}(h:∀led:Bool,(w.params.followText "set-order" = true∨led=true)→Q₁ (.ref s.heap.objs.size) { s with heap:=s.heap.push (Ap #[] 0 (.fresh 0 0 led)) }) :
  codeAny (model P w) A (.call (.builtin "set.__new__") ⟨[.type "set",a],[]⟩) (wants Q₁ E) s:=by
 refine codeAny_of_tree ?_
 show wpAny _ A.in1 (do checkBuiltinCall "set.__new__" ⟨[.type "set",a],[]⟩;again (.builtin "set.__new__" ⟨[.type "set",a],[]⟩)) _ _ s;refine wpAny_bind (wpAny_of_eq (PySem.F.newCall_set_1 a) (wpAny_pure ⟨plainId_quiet PySem.F.plain_set_new _,codeAny_builtin PySem.F.entry_set_new ?_⟩))
 rw[Around.under_plainId PySem.F.plain_set_new _];unfold Builtin.«set.__new__» Builtin.Frozenset.newClass
 have hsub:=sub_set_self;obtain⟨hp,g,d,tk,os⟩:=s;dsimp only
 wp_walk
 refine wpAny_askSetting (wpAny_pure ?_);dsimp only;simp only[newObj];refine wpAny_bind (wpAny_alloc (wpAny_pure (wpAny_pure (h _ ?_))))
 show w.params.followText "set-order" = true∨(!w.params.followText "set-order")=true
 cases w.params.followText "set-order"<;>simp
theorem Wg:isSubtype (.type "tuple") (.type "set")=pure false:=by rw[isSubtype_type];kernel_rfl
theorem J3:isSubtype (.type "tuple") (.type "frozenset")=pure false:=by rw[isSubtype_type];kernel_rfl
end
end D3
namespace D3
open PySem PySem.Spec
open PyProof.Rows hiding St
open L2 hiding St
section
variable{P:Program}{w:World}{A:Around}{E:Value→Shared→Prop}{s:Shared}
theorem Wk{l:Addr}{items:Array Value}{ns:List Int}{Q:Value→Shared→Prop}(hh:A.handled=none)(hl:s.heap.IsList l items∨s.heap.IsTuple l items)(hi:PyProof.Rows.IntsAre items.toList ns)(hb:items.size+1<scanBound)(h:∀(h':Heap) (tk:Nat) es ep t,s.toks≤tk→h'.get? s.heap.objs.size=some (Ap es ep t)→SOk P w es t ns→es.size≤ns.length→
   (∀b o,b<s.heap.objs.size→s.heap.get? b=some o→h'.get? b=some o)→Q (.ref s.heap.objs.size) { s with heap:=h',toks:=tk }) :
  wpAny (model P w) A (call (.type "set") [.ref l]) Q E s:=by
 have hlen:ns.length=items.size:=by rw[←hi.length,Array.length_toList]
 obtain⟨c,tl,hmro⟩:=PySem.F.called_set.mro;have hmade:=PySem.F.called_set.made;have hsub:=PySem.F.called_set.sub
 refine wpAny_call (codeAny_of_tree ?_)
 show wpAny _ _ (callAny (.type "set") _) _ _ _;refine wpAny_pure ⟨Code.quiet_builtin _ (by decide +kernel),codeAny_builtin PySem.F.entry_type_call ?_⟩
 rw[Around.under_plain (weight_type_call_type "set" [.ref l] []) rfl];have h1:=PySem.F.called_set.notType;have h2:=PySem.F.called_set.canCreate
 have hct:=PySem.F.typeCall_set_1 (.ref l);repeat (any_goals (first|assumption|wp_step))
 refine codeAny_mono (Qf (.ref l) (E:=E) (Q₁:=fun obj s₁=>∃led:Bool,(w.params.followText "set-order" = true∨led=true)∧obj=.ref s.heap.objs.size∧s₁={ s with heap:=s.heap.push (Ap #[] 0 (.fresh 0 0 led)) }) fun led hled=>⟨led,hled,rfl,rfl⟩) fun r s₁ hr=>?_
 cases r with
 |error e=>exact hr
 |ok fl=>
  cases fl with
  |ret obj=>
   obtain⟨led,hled,rfl,rfl⟩:=hr
   have hS:(s.heap.push (Ap #[] 0 (.fresh 0 0 led))).get? s.heap.objs.size=some (Ap #[] 0 (.fresh 0 0 led)):=Heap.get?_push_size _ rfl
   have hT:Shared.TypeIs { s with heap:=s.heap.push (Ap #[] 0 (.fresh 0 0 led)) } (.ref s.heap.objs.size) "set":=⟨_,hS,rfl⟩
   have hli:=PySem.F.called_set.init.lookup;have hbi:=PySem.F.called_set.init.bind (.ref s.heap.objs.size);repeat (any_goals (first|assumption|wp_step))
   refine codeAny_mono (codeAny_call_builtin (R:=wants (fun r s₂=>r=.none∧∃h' tk es ep t,s₂={ s with heap:=h',toks:=tk }∧s.toks≤tk∧
     h'.get? s.heap.objs.size=some (Ap es ep t)∧SOk P w es t ns∧es.size≤ns.length∧
     (∀b o,b<s.heap.objs.size→s.heap.get? b=some o→h'.get? b=some o)) E) PySem.F.called_set.init.plain PySem.F.entry_set_init (check_set_init_1 hT ?_)) fun r₂ s₂ hr₂=>?_
   ·have hval:∀(i:Nat) (v:Value),items[i]? = some v→∃t,v=.int (ns.getD i 0) t:=fun i v hv=>PyProof.Rows.IntsAre.int_at hi i v (by rw[Array.getElem?_toList];exact hv)
    have hlS:l<s.heap.objs.size:=by
     rcases hl with ⟨o,e,_⟩|⟨o,e,_⟩
     ·exact Heap.lt_size e
     ·exact Heap.lt_size e
    have hneI:l≠(s.heap.push (Ap #[] 0 (.fresh 0 0 led))).objs.size:=by rw[Heap.size_push];exact Nat.ne_of_lt (Nat.lt_succ_of_lt hlS)
    have hSf:s.heap.objs.size ∉ [(s.heap.push (Ap #[] 0 (.fresh 0 0 led))).objs.size,l]:=by
     rw[Heap.size_push];simp only[List.mem_cons,List.not_mem_nil,or_false,not_or];exact⟨Nat.ne_of_lt (Nat.lt_succ_self _),Nat.ne_of_gt hlS⟩
    have hh3:A.in1.in1.in1.handled=none:=by simp[hh]
    have hO:SOk P w #[] (.fresh 0 0 led) (ns.take 0):=SOk.fresh led hled
    have fin:∀(s':Shared) (es':Array (Int×Value)) (ep':Nat) (t':SetTable) (it:Obj),Moved (s.heap.objs.size::[(s.heap.push (Ap #[] 0 (.fresh 0 0 led))).objs.size]) (fun a b=>b=a) { s with heap:=(s.heap.push (Ap #[] 0 (.fresh 0 0 led))).push it } s'→s'.heap.get? s.heap.objs.size=some (Ap es' ep' t')→SOk P w es' t' ns→es'.size≤items.size→
      ∃h' tk es ep t,s'={ s with heap:=h',toks:=tk }∧s.toks≤tk∧h'.get? s.heap.objs.size=some (Ap es ep t)∧SOk P w es t ns∧es.size≤ns.length∧(∀b o,b<s.heap.objs.size→s.heap.get? b=some o→h'.get? b=some o):=fun s' es' ep' t' it hm hS' hO' hz'=>by
     obtain⟨h',g',d',tk',os'⟩:=s'
     have eg:g'=s.gens:=hm.gens
     have ed:d'=s.drawn:=hm.drawn
     have eo:os'=s.os:=hm.os
     subst eg;subst ed;subst eo
     refine⟨h',tk',es',ep',t',rfl,hm.toks,hS',hO',by omega,fun b o hb e=>?_⟩
     exact hm.heap b o (by rw[Heap.size_push];simp only[List.mem_cons,List.not_mem_nil,or_false,not_or];exact⟨Nat.ne_of_lt hb,Nat.ne_of_lt (Nat.lt_succ_of_lt hb)⟩) (Heap.get?_push_of_some _ (Heap.get?_push_of_some _ e))
    have first0:∀it:Obj,((s.heap.push (Ap #[] 0 (.fresh 0 0 led))).push it).get? s.heap.objs.size=some (Ap #[] 0 (.fresh 0 0 led)):=fun it=>Heap.get?_push_of_some _ hS
    rcases hl with hl|hl
    ·obtain⟨ol,hol,hcl,nl,hdl⟩:=hl;obtain⟨ocls,odict,odata,oslots⟩:=ol;simp only at hcl hdl;subst hcl;subst hdl
     have hol':(s.heap.push (Ap #[] 0 (.fresh 0 0 led))).get? l=some { cls:=.type "list",dict:=odict,data:=.seq items nl,slots:=oslots }:=Heap.get?_push_of_some _ hol
     have hsls:=PySem.F.sub_list_set;have hslf:=PySem.F.sub_list_frozenset;have hne:(Value.type "list" == Value.type "dict")=false:=by decide
     have hl1:(s.heap.push (Ap #[] 0 (.fresh 0 0 led))).IsList l items:=⟨_,hol',rfl,nl,rfl⟩
     unfold Builtin.«set.__init__» noKeywords Builtin.Frozenset.updateFrom;generalize hPI:pyIter=PI
     wp_walk
     subst hPI;refine wpAny_pyIter_list hl1 (wpAny_bind (wpAny_runValue ?_))
     refine N8 ((Walks.list hh3 _ l hneI items).toS) s.heap.objs.size hSf ns hlen hval hb (items.size-0) 0 _ #[] 0 (.fresh 0 0 led) (by omega) (Nat.zero_le _) ⟨⟨_,Heap.get?_push_size _ rfl,rfl,rfl⟩,(hl1.push _)⟩ (first0 _) hO (Nat.zero_le _) fun s' es' ep' t' hm hS' hO' hz'=>?_
     exact wpAny_pure (wpAny_pure ⟨rfl,fin s' es' ep' t' _ hm hS' hO' hz'⟩)
    ·obtain⟨ol,hol,hcl,nl,hdl⟩:=hl;obtain⟨ocls,odict,odata,oslots⟩:=ol;simp only at hcl hdl;subst hcl;subst hdl
     have hol':(s.heap.push (Ap #[] 0 (.fresh 0 0 led))).get? l=some { cls:=.type "tuple",dict:=odict,data:=.seq items nl,slots:=oslots }:=Heap.get?_push_of_some _ hol
     have hsls:=Wg;have hslf:=J3;have hne:(Value.type "tuple" == Value.type "dict")=false:=by decide
     have hl1:(s.heap.push (Ap #[] 0 (.fresh 0 0 led))).IsTuple l items:=⟨_,hol',rfl,nl,rfl⟩
     unfold Builtin.«set.__init__» noKeywords Builtin.Frozenset.updateFrom;generalize hPI:pyIter=PI
     wp_walk
     subst hPI;refine wpAny_pyIter_tuple hl1 (wpAny_bind (wpAny_runValue ?_))
     refine N8 ((Walks.tuple hh3 _ l hneI items).toS) s.heap.objs.size hSf ns hlen hval hb (items.size-0) 0 _ #[] 0 (.fresh 0 0 led) (by omega) (Nat.zero_le _) ⟨⟨_,Heap.get?_push_size _ rfl,rfl,rfl⟩,(hl1.push _)⟩ (first0 _) hO (Nat.zero_le _) fun s' es' ep' t' hm hS' hO' hz'=>?_
     exact wpAny_pure (wpAny_pure ⟨rfl,fin s' es' ep' t' _ hm hS' hO' hz'⟩)
   ·cases r₂ with
    |error e=>exact hr₂
    |ok fl₂=>
     cases fl₂ with
     |ret r=>
      obtain⟨rfl,h',tk,es,ep,t,rfl,htk,hS',hO',hz',hk'⟩:=hr₂
      repeat (any_goals (first|assumption|wp_step))
      exact h _ _ _ _ _ htk hS' hO' hz' hk'
     |_=>exact hr₂.elim
  |_=>exact hr.elim
end
end D3
namespace D3
open PySem PySem.Spec
open PyProof.Rows hiding St
open L2 hiding St
structure SBase(w:World)(es:Array (Int×Value))(t:SetTable):Prop where
 tok:TOk w t
 fit:t.fits es.size=true
 sz:es.size<scanBound
theorem SOk.base{P:Program}{w:World}{es:Array (Int×Value)}{t:SetTable}{ks:List Int}(h:SOk P w es t ks):SBase w es t:=⟨h.tok,h.fit,h.sz⟩
theorem slot_si_next:Slot "set_iterator" "__next__" "set_iterator.__next__":=
 .of (owner:="set_iterator") (n:="__next__") (by rw[typeLookup_type,builtinLookup_eq_fast];kernel_rfl) (by decide +kernel) (by decide +kernel) (by decide +kernel) (by first|exact .inl (by decide +kernel)|exact .inr (by decide +kernel)) (by rw[isSubtype_type];kernel_rfl)
theorem F5:Slot "set_iterator" "__iter__" "set_iterator.__iter__":=
 .of (owner:="set_iterator") (n:="__iter__") (by rw[typeLookup_type,builtinLookup_eq_fast];kernel_rfl) (by decide +kernel) (by decide +kernel) (by decide +kernel) (by first|exact .inl (by decide +kernel)|exact .inr (by decide +kernel)) (by rw[isSubtype_type];kernel_rfl)
theorem E2:entryFor table "set_iterator.__next__" = some Builtin.«set_iterator.__next__»:=entryFor_of_tree (by kernel_rfl)
theorem Kr:entryFor table "set_iterator.__iter__" = some Builtin.«dict_keyiterator.__iter__»:=entryFor_alias (id':="dict_keyiterator.__iter__") (by kernel_rfl) rfl (by decide +kernel) (by kernel_rfl)
theorem M8:entryFor table "set.__iter__" = some Builtin.«frozenset.__iter__»:=entryFor_alias (id':="frozenset.__iter__") (by kernel_rfl) rfl (by decide +kernel) (by kernel_rfl)
theorem Vq:Manifest.owners.lookup (String.ofList ['r','o','t','a','r','e','t','i','_','t','e','s'].reverse)=some Manifest.sig_set_iterator:=by kernel_rfl
theorem F6(a:Value):argsOk "set_iterator.__next__" ⟨[a],[]⟩:=by
 unfold argsOk;rw[signature?_of (id:="set_iterator.__next__") (n:=['_','_','t','x','e','n','_','_']) (o:=['r','o','t','a','r','e','t','i','_','t','e','s']) (by kernel_rfl) Vq];kernel_rfl
theorem Nf(a:Value):argsOk "set_iterator.__iter__" ⟨[a],[]⟩:=by
 unfold argsOk;rw[signature?_of (id:="set_iterator.__iter__") (n:=['_','_','r','e','t','i','_','_']) (o:=['r','o','t','a','r','e','t','i','_','t','e','s']) (by kernel_rfl) Vq];kernel_rfl

section
variable{P:Program}{w:World}{A:Around}{E:Value→Shared→Prop}{s:Shared}
theorem C8{α:Type}{c:Prop}[Decidable c]{a b:Sem α}{Q:α→Shared→Prop}{M:Model}(h:¬c)(k:wpAny M A b Q E s):wpAny M A (if c then a else b) Q E s:=by rw[if_neg h];exact k
theorem Id{α:Type}{c:Prop}[Decidable c]{a b:Sem α}{Q:α→Shared→Prop}{M:Model}(h:c)(k:wpAny M A a Q E s):wpAny M A (if c then a else b) Q E s:=by rw[if_pos h];exact k
theorem wp_choose{src:Source}{n:Nat}{Q:Nat→Shared→Prop}{M:Model}(hn:n≠0)(h:∀i d,i<n→Q i { s with drawn:=d }):wpAny M A (choose src n) Q E s:=fun Γ p hΓ=>by
 unfold choose
 rw[Sem.wp_choose]
 exact⟨hn,h _ _ (Nat.mod_lt _ (Nat.pos_of_ne_zero hn))⟩
theorem Gm{α:Type}:∀(xs:List α) (i:Nat) (h:i<xs.length),(xs[i]::xs.eraseIdx i).Perm xs
 |[],i,h=>absurd h (by simp)
 |x::r,0,h=>List.Perm.refl _
 |x::r,i+1,h=>by
  have:=Gm r i (by simpa using h)
  exact(List.Perm.swap x _ _).trans (List.Perm.cons x this)
theorem Ra{α:Type}{M:Model}:∀(n:Nat) (xs:List α) (s:Shared) {Q:List α→Shared→Prop},xs.length=n→(∀ys d,ys.Perm xs→Q ys { s with drawn:=d })→wpAny M A (drawOrder n xs) Q E s
 |0,xs,s,Q,e,h=>by
  cases xs with
  |nil=>unfold drawOrder;exact wpAny_pure (h [] s.drawn (List.Perm.refl _))
  |cons x r=>simp at e
 |n+1,xs,s,Q,e,h=>by
  cases xs with
  |nil=>simp at e
  |cons x r=>
   unfold drawOrder
   refine wpAny_bind (wp_choose (by simp) fun i d hi=>?_)
   have hg:(x::r)[i]? = some ((x::r)[i]):=List.getElem?_eq_getElem hi
   rw[hg]
   dsimp only
   refine wpAny_bind (Ra n _ _ (by rw[List.length_eraseIdx_of_lt hi];simpa using e) fun ys d' hp=>wpAny_pure ?_)
   refine h _ _ (List.Perm.trans (List.Perm.cons _ hp) ?_)
   exact Gm _ _ hi
theorem Ro{α:Type}(next:Nat→Nat):∀(n k:Nat) (left:List α) (out:Array α),left.length=n→(pickOrder.go next n k left out).toList.Perm (out.toList++left)
 |0,k,left,out,e=>by
  cases left with
  |nil=>rw[pickOrder.go];simp
  |cons x r=>simp at e
 |n+1,k,left,out,e=>by
  rw[pickOrder.go]
  have hi:next k % left.length<left.length:=Nat.mod_lt _ (by omega)
  rw[List.getElem?_eq_getElem hi]
  dsimp only
  refine(Ro next n (k+1) _ _ (by rw[List.length_eraseIdx_of_lt hi];omega)).trans ?_
  rw[Array.toList_push,List.append_assoc]
  exact List.Perm.append_left _ (Gm _ _ hi)
theorem S8{α:Type}(next:Nat→Nat)(xs:Array α):(pickOrder next xs).toList.Perm xs.toList:=by
 have:=Ro next xs.size 0 xs.toList #[] (by simp)
 simpa[pickOrder] using this
abbrev Fl(first:Value)(i:Nat)(S:Addr)(n ep:Nat):Obj:={ cls:=.type "set_iterator",data:=.fields #[first,rawInt i,.ref S,rawInt n,rawInt ep] }
inductive Way (w:World) (S:Addr) (es:Array (Int×Value)) (ep:Nat) (t:SetTable):List (Int×Value)→(Nat→Nat→Prop)→Prop where
 |text (h:w.params.followText "set-order" = true):Way w S es ep t (pickOrder (w.params.setOrder S ep) es).toList (fun _ _=>True)
 |tab (h:¬w.params.followText "set-order" = true) (hd:¬(!t.plain&&decide (es.size>1))=true):Way w S es ep t es.toList (fun i slot=>SetTable.below t.place slot=i)
theorem Way.perm{S:Addr}{es:Array (Int×Value)}{ep:Nat}{t:SetTable}{items:List (Int×Value)}{F:Nat→Nat→Prop}(W:Way w S es ep t items F):items.Perm es.toList:=by
 cases W with
 |text h=>exact S8 _ _
 |tab h hd=>exact List.Perm.refl _
theorem Way.start{S:Addr}{es:Array (Int×Value)}{ep:Nat}{t:SetTable}{items:List (Int×Value)}{F:Nat→Nat→Prop}(W:Way w S es ep t items F)(h:SBase w es t):F 0 0:=by
 cases W with
 |text h=>trivial
 |tab h' hd=>exact Qz h.tok.ris
theorem Way.next{S:Addr}{es:Array (Int×Value)}{ep:Nat}{t:SetTable}{items:List (Int×Value)}{F:Nat→Nat→Prop}{i slot:Nat}{Q:Option (Value×Nat)→Shared→Prop}(W:Way w S es ep t items F)(h:SBase w es t)(ho:s.heap.get? S=some (Ap es ep t))(hF:F i slot)(more:∀e,items[i]? = some e→∀next,F (i+1) next→Q (some (e.2,next)) s)(last:items[i]? = none→Q none s):wpAny (model P w) A (setNext S slot i ep) Q E s:=by
 unfold setNext setsByText
 refine wpAny_bind (wpAny_setState_of ho rfl h.fit ?_);dsimp only
 refine wpAny_bind (wpAny_bind (wpAny_askSetting (wpAny_pure ?_)));dsimp only
 cases W with
 |text ht=>
  refine Id ht (C8 (by simp) ?_)
  refine wpAny_bind ?_
  unfold setWalk setsByText
  refine wpAny_bind (wpAny_setState_of ho rfl h.fit ?_);dsimp only
  refine wpAny_bind (wpAny_bind (wpAny_askSetting (wpAny_pure ?_)));dsimp only
  refine Id ht (wpAny_bind (wpAny_askSetting (wpAny_pure (wpAny_pure ?_))))
  show Q (Option.map (fun e=>(e.2,slot)) (pickOrder (w.params.setOrder S ep) es)[i]?) s
  rw[←Array.getElem?_toList]
  cases q:(pickOrder (w.params.setOrder S ep) es).toList[i]? with
  |none=>exact last q
  |some e=>exact more e q slot trivial
 |tab ht hd=>
  refine C8 ht (C8 hd ?_)
  have led:t.led=true:=h.tok.led.resolve_left ht
  refine wpAny_bind (m:=if (!t.led && !es.isEmpty)=true then unsupported "set:maker-not-led" else pure ()) (C8 (by simp[led]) (wpAny_pure (wpAny_pure ?_)))
  have hF':SetTable.below t.place slot=i:=hF
  rw[hF']
  have hps:t.place.size=es.size:=by
   have:=h.fit
   simp only[SetTable.fits,Bool.and_eq_true,beq_iff_eq] at this
   exact this.1
  by_cases hi:i<es.size
  ·have e1:es[i]? = some es[i]:=Array.getElem?_eq_getElem hi
   have e2:t.place[i]? = some (t.place.getD i 0):=by rw[getD_of,Array.getElem?_eq_getElem (by omega)];rfl
   rw[e1,e2]
   refine more es[i] (by rw[Array.getElem?_toList];exact e1) _ ?_
   exact Q0 h.tok.ris (by omega)
  ·have e1:es[i]? = none:=Array.getElem?_eq_none (by omega)
   rw[e1]
   exact last (by rw[Array.getElem?_toList];exact e1)
theorem N4{I:Addr}{vs:Array Value}(hh:A.handled=none)(ho:s.heap.get? I=some { cls:=.type "set_iterator",data:=.fields vs })(hv:2<vs.size){Q:Fin→Shared→Prop}(hE:∀h' e,Heap.ExtBut I s.heap h'→(∃o,h'.get? e=some o∧o.cls=.type "StopIteration")→E (.ref e) { s with heap:=h' }):wpAny (model P w) A (do setField (.ref I) 2 .none;raiseNew (←newExc (.type "StopIteration") [])) Q E s:=by
 refine wpAny_bind (wpAny_setField ho rfl hv (show wpAny _ _ (newExc (.type "StopIteration") [] >>= _) _ _ _ from wpAny_bind ?_))
 simp only[newExc,newTuple];refine wpAny_bind (wpAny_newObj_type (wpAny_bind (m:=firstArgMember _ _) (wpAny_of_eq (a:=Value.none) (by first|rfl|(simp only[firstArgMember];rfl)) (wpAny_newObj_type ?_ (by size_fits)))) (by size_fits))
 simp only[raiseNew];refine wpAny_bind (wpAny_handled ?_);first|rw[show A.in1.handled=none from hh]|rw[hh]
 exact wpAny_bind (wpAny_pure (wpAny_throw (hE _ _ (((Heap.SameBut.update ..).extBut.push _).push _) ⟨_,Heap.get?_push_size _ rfl,rfl⟩)))
end
end D3
namespace D3
open PySem PySem.Spec
open PyProof.Rows hiding St
open L2 hiding St
section
variable{P:Program}{w:World}{A:Around}{E:Value→Shared→Prop}{s:Shared}
theorem Rh{I S:Addr}{es:Array (Int×Value)}{ep:Nat}{t:SetTable}{items:List (Int×Value)}{F:Nat→Nat→Prop}{i slot:Nat}{Q:Option Value→Shared→Prop}(hh:A.handled=none)(W:Way w S es ep t items F)(h:SBase w es t)(hne:S≠I)(hI:s.heap.get? I=some (Fl (rawInt slot) i S es.size ep))(hS:s.heap.get? S=some (Ap es ep t))(hF:F i slot)(more:∀e,items[i]? = some e→∀next h',F (i+1) next→h'.get? I=some (Fl (rawInt next) (i+1) S es.size ep)→Heap.SameBut I s.heap h'→Q (some e.2) { s with heap:=h' })(last:items[i]? = none→∀h',Heap.ExtBut I s.heap h'→Q none { s with heap:=h' }):wpAny (model P w) A (pyNext (.ref I)) Q E s:=by
 have ty:s.TypeIs (.ref I) "set_iterator":=⟨_,hI,rfl⟩
 unfold pyNext;refine wpAny_bind (wpAny_attempt (wpAny_callSpecial?_slot (name:=Str.ofString "__next__") ty slot_si_next (wpAny_call_entry slot_si_next ty E2 ?_ (F6 _))))
 unfold Builtin.«set_iterator.__next__»
 show wpAny _ _ (fieldsOf (.ref I) >>= _) _ _ s;refine wpAny_bind (wpAny_fieldsOf hI rfl ?_)
 show wpAny _ _ (setEntries S >>= _) _ _ s;refine wpAny_bind (wpAny_setEntries_of hS rfl h.fit (C8 (by simp) ?_))
 show wpAny _ _ (setNext S (Int.toNat (slot:Nat)) (Int.toNat (i:Nat)) (Int.toNat (ep:Nat)) >>= _) _ _ s
 simp only[Int.toNat_natCast]
 refine wpAny_bind (W.next h hS hF (fun e he next hn=>?_) fun hz=>?_)
 ·dsimp only
  refine wpAny_bind (wpAny_setField_rec hI (by simp) fun h1 hI1 same1=>wpAny_bind (wpAny_setField_rec (s:={ s with heap:=h1 }) hI1 (by simp) fun h2 hI2 same2=>?_))
  exact wpAny_pure ⟨e.2,rfl,wpAny_pure (more e he next h2 hn hI2 (same1.trans same2))⟩
 ·dsimp only
  refine N4 (A:=A.in1) hh hI (by simp) fun h' x ext hx=>?_
  refine wpAny_bind (wpAny_isInstance (T:="StopIteration") (b:=true) hx isSubtype_stop (wpAny_pure (last hz h' ext)))
theorem N6{I S T:Addr}{es:Array (Int×Value)}{ep:Nat}{t:SetTable}{ord:List Nat}{i:Nat}{Q:Option Value→Shared→Prop}(hh:A.handled=none)(hord:ord.Perm (List.range es.size))(h:SBase w es t)(hI:s.heap.get? I=some (Fl (.ref T) i S es.size ep))(hS:s.heap.get? S=some (Ap es ep t))(hT:s.heap.get? T=some { cls:=.type "tuple",data:=.seq (ord.map fun(k:Nat)=>rawInt k).toArray })(more:∀k e,ord[i]? = some k→es[k]? = some e→∀h',h'.get? I=some (Fl (.ref T) (i+1) S es.size ep)→Heap.SameBut I s.heap h'→Q (some e.2) { s with heap:=h' })(last:ord[i]? = none→∀h',Heap.ExtBut I s.heap h'→Q none { s with heap:=h' }):wpAny (model P w) A (pyNext (.ref I)) Q E s:=by
 have ty:s.TypeIs (.ref I) "set_iterator":=⟨_,hI,rfl⟩
 unfold pyNext;refine wpAny_bind (wpAny_attempt (wpAny_callSpecial?_slot (name:=Str.ofString "__next__") ty slot_si_next (wpAny_call_entry slot_si_next ty E2 ?_ (F6 _))))
 unfold Builtin.«set_iterator.__next__»
 show wpAny _ _ (fieldsOf (.ref I) >>= _) _ _ s;refine wpAny_bind (wpAny_fieldsOf hI rfl ?_)
 show wpAny _ _ (setEntries S >>= _) _ _ s;refine wpAny_bind (wpAny_setEntries_of hS rfl h.fit (C8 (by simp) ?_))
 show wpAny _ _ (seqItems? (.ref T) >>= _) _ _ s;refine wpAny_bind (wpAny_seqItems hT rfl ?_)
 simp only[rawInt,Int.toNat_natCast]
 cases q:ord[i]? with
 |none=>
  have e0:(ord.map fun(k:Nat)=>(Value.int k 0)).toArray[i]? = none:=by simp[q]
  rw[e0];dsimp only
  refine wpAny_bind (wpAny_setField_rec hI (by simp) fun h1 hI1 same1=>?_)
  refine N4 (A:=A.in1) (s:={ s with heap:=h1 }) hh hI1 (by simp) fun h' x ext hx=>?_
  refine wpAny_bind (wpAny_isInstance (T:="StopIteration") (b:=true) hx isSubtype_stop (wpAny_pure (last q h' (same1.extBut.trans ext))))
 |some k=>
  have e0:(ord.map fun(k:Nat)=>(Value.int k 0)).toArray[i]? = some (.int k 0):=by simp[q]
  rw[e0];dsimp only
  have hk:k<es.size:=List.mem_range.mp (hord.mem_iff.mp (List.mem_of_getElem? q))
  refine wpAny_bind ?_
  unfold setNextDrawn
  refine wpAny_bind (wpAny_setState_of hS rfl h.fit ?_);dsimp only
  refine C8 (by simp) ?_
  have e1:es[k]? = some es[k]:=Array.getElem?_eq_getElem hk
  simp only[Int.toNat_natCast]
  rw[e1];refine wpAny_pure ?_
  refine wpAny_bind (wpAny_setField_rec hI (by simp) fun h1 hI1 same1=>?_)
  exact wpAny_pure ⟨es[k].2,rfl,wpAny_pure (more k es[k] q e1 h1 hI1 same1)⟩
theorem Rg{I S:Addr}{first:Value}{i n ep:Nat}{Q:Value→Shared→Prop}(hI:s.heap.get? I=some (Fl first i S n ep))(h:Q (.ref I) s):wpAny (model P w) A (pyIter (.ref I)) Q E s:=by
 have ty:s.TypeIs (.ref I) "set_iterator":=⟨_,hI,rfl⟩
 refine wpAny_pyIter_slot ty F5 (wpAny_call_entry F5 ty Kr ?_ (Nf _))
 exact wpAny_pure ⟨_,rfl, "set_iterator",_,ty,slot_si_next.lookup,h⟩
theorem Wa{I S:Addr}{es:Array (Int×Value)}{ep:Nat}{t:SetTable}{items:List (Int×Value)}{F:Nat→Nat→Prop}(hh:A.handled=none)(W:Way w S es ep t items F)(h:SBase w es t)(hne:S≠I) :
  Walks P w A I [I,S] [I] es.size (fun i v=>(items.map (·.2))[i]? = some v) (fun i g=>(∃slot,F i slot∧g.get? I=some (Fl (rawInt slot) i S es.size ep))∧g.get? S=some (Ap es ep t)) where
 sub:=fun b hb=>by simp at hb;simp[hb]
 frame:=fun i g g' ⟨⟨slot,hF,hI⟩,hS⟩ hk=>⟨⟨slot,hF,hk I (by simp) _ hI⟩,hk S (by simp) _ hS⟩
 item:=fun i s Q E hi ⟨⟨slot,hF,hI⟩,hS⟩ hQ=>by
  refine Rh hh W h hne hI hS hF (fun e he next h' hn hI' same=>?_) fun hz=>?_
  ·exact hQ e.2 h' s.toks (by rw[List.getElem?_map,he];rfl) ⟨⟨next,hn,hI'⟩,same.extBut _ _ hne hS⟩ fun b o hb e=>same.extBut b o (fun z=>hb (by simp[z])) e
  ·have:items.length=es.size:=by rw[W.perm.length_eq];simp
   rw[List.getElem?_eq_none_iff] at hz;omega
 done:=fun s Q E ⟨⟨slot,hF,hI⟩,hS⟩ hQ=>by
  have hl:items.length=es.size:=by rw[W.perm.length_eq];simp
  refine Rh hh W h hne hI hS hF (fun e he next h' hn hI' same=>?_) fun hz h' ext=>hQ h' s.toks fun b o hb e=>ext b o (fun z=>hb (by simp[z])) e
  rw[List.getElem?_eq_none (by omega)] at he;cases he
 self:=fun i s Q E ⟨⟨slot,hF,hI⟩,hS⟩ hQ=>Rg hI hQ
theorem Sm{I S T:Addr}{es:Array (Int×Value)}{ep:Nat}{t:SetTable}{ord:List Nat}(hh:A.handled=none)(hord:ord.Perm (List.range es.size))(h:SBase w es t)(hne:S≠I)(hneT:T≠I) :
  Walks P w A I [I,S,T] [I] es.size (fun i v=>(ord.map fun k=>(es.toList.map (·.2)).getD k .none)[i]? = some v) (fun i g=>g.get? I=some (Fl (.ref T) i S es.size ep)∧g.get? S=some (Ap es ep t)∧g.get? T=some { cls:=.type "tuple",data:=.seq (ord.map fun(k:Nat)=>rawInt k).toArray }) where
 sub:=fun b hb=>by simp at hb;simp[hb]
 frame:=fun i g g' ⟨hI,hS,hT⟩ hk=>⟨hk I (by simp) _ hI,hk S (by simp) _ hS,hk T (by simp) _ hT⟩
 item:=fun i s Q E hi ⟨hI,hS,hT⟩ hQ=>by
  refine N6 hh hord h hI hS hT (fun k e hk he h' hI' same=>?_) fun hz=>?_
  ·refine hQ e.2 h' s.toks ?_ ⟨hI',same.extBut _ _ hne hS,same.extBut _ _ hneT hT⟩ fun b o hb e=>same.extBut b o (fun z=>hb (by simp[z])) e
   rw[List.getElem?_map,hk]
   simp[he]
  ·have:ord.length=es.size:=by rw[hord.length_eq];simp
   rw[List.getElem?_eq_none_iff] at hz;omega
 done:=fun s Q E ⟨hI,hS,hT⟩ hQ=>by
  have hl:ord.length=es.size:=by rw[hord.length_eq];simp
  refine N6 hh hord h hI hS hT (fun k e hk he h' hI' same=>?_) fun hz h' ext=>hQ h' s.toks fun b o hb e=>ext b o (fun z=>hb (by simp[z])) e
  rw[List.getElem?_eq_none (by omega)] at hk;cases hk
 self:=fun i s Q E ⟨hI,hS,hT⟩ hQ=>Rg hI hQ
end
end D3
namespace D3
open PySem PySem.Spec
open PyProof.Rows hiding St
open L2 hiding St
theorem s_len:typeLookup (.type "set") "__len__" = pure (some (.builtin "set.__len__")):=by rw[typeLookup_type,builtinLookup_eq_fast];kernel_rfl
section
variable{P:Program}{w:World}{A:Around}{E:Value→Shared→Prop}{s:Shared}
theorem Xr{S:Addr}{es:Array (Int×Value)}{ep:Nat}{t:SetTable}{Q:Value→Shared→Prop}(hh:A.handled=none)(h:SBase w es t)(hS:s.heap.get? S=some (Ap es ep t))(hQ:∀(I:Addr) (g:Heap) d (fp:List Addr) (vs:List Value) (St:Nat→Heap→Prop),vs.Perm (es.toList.map (·.2))→Walks P w A I fp [I] es.size (fun i v=>vs[i]? = some v) St→St 0 g→(∀b∈fp,b<g.objs.size∧(b=S∨s.heap.objs.size≤b))→I∈fp→s.heap.objs.size≤I→
   (∀b o,s.heap.get? b=some o→g.get? b=some o)→(∀(i:Nat) (s':Shared),St i s'.heap→s'.TypeIs (.ref I) "set_iterator")→Q (.ref I) { s with heap:=g,drawn:=d }) :
  wpAny (model P w) A (pyIter (.ref S)) Q E s:=by
 have ty:s.TypeIs (.ref S) "set":=⟨_,hS,rfl⟩
 have hlt:S<s.heap.objs.size:=Heap.lt_size hS
 refine wpAny_pyIter_slot ty PySem.F.slot_set_iter (wpAny_call_entry PySem.F.slot_set_iter ty M8 ?_ (PySem.F.args_set_iter_1 _))
 unfold Builtin.«frozenset.__iter__»
 show wpAny _ _ (Builtin.Frozenset.sizeOf S >>= _) _ _ s
 refine wpAny_bind ?_
 unfold Builtin.Frozenset.sizeOf
 refine wpAny_bind (wpAny_setEntries_of hS rfl h.fit (wpAny_pure ?_))
 refine wpAny_bind ?_
 unfold setDrawn setsByText
 refine wpAny_bind (wpAny_setState_of hS rfl h.fit ?_);dsimp only
 refine wpAny_bind (wpAny_bind (wpAny_askSetting (wpAny_pure (wpAny_pure ?_))));dsimp only
 have plain:∀{items:List (Int×Value)} {F:Nat→Nat→Prop},Way w S es ep t items F→wpAny (model P w) A.in1 (pure (rawInt 0)) (fun a s'=>wpAny (model P w) A.in1 (do
   ret (←newFields "set_iterator" [a,rawInt 0,.ref S,rawInt es.size,rawInt (←setEpoch S)])) (fun fin s'=>∃v,fin=Fin.done (Flow.ret v)∧∃T' r,s'.TypeIs v T'∧typeLookup (.type T') "__next__" = pure (some r)∧Q v s') E s') E s:=fun W=>by
  refine wpAny_pure (wpAny_bind (wpAny_setEpoch_of hS rfl h.fit (wpAny_bind ?_)))
  unfold newFields
  refine wpAny_newObj_type (wpAny_pure ⟨_,rfl, "set_iterator",_,⟨_,Heap.get?_push_size _ rfl,rfl⟩,slot_si_next.lookup,?_⟩) (by size_fits)
  have hne:S≠s.heap.objs.size:=Nat.ne_of_lt hlt
  have e:({ s with heap:=s.heap.push (Fl (rawInt 0) 0 S es.size ep) }:Shared)={ s with heap:=s.heap.push (Fl (rawInt 0) 0 S es.size ep),drawn:=s.drawn }:=rfl
  refine(e ▸ hQ s.heap.objs.size _ s.drawn [s.heap.objs.size,S] _ _ (W.perm.map _) (Wa hh W h hne) ⟨⟨0,W.start h,Heap.get?_push_size _ rfl⟩,Heap.get?_push_of_some _ hS⟩ (fun b hb=>?_) (by simp) (Nat.le_refl _) (fun b o e=>Heap.get?_push_of_some _ e) (fun i s' ⟨⟨slot,_,hI⟩,_⟩=>⟨_,hI,rfl⟩))
  rw[Heap.size_push]
  simp only[List.mem_cons,List.not_mem_nil,or_false] at hb
  rcases hb with rfl|rfl
  ·exact⟨Nat.lt_succ_self _,.inr (Nat.le_refl _)⟩
  ·exact⟨Nat.lt_succ_of_lt hlt,.inl rfl⟩
 by_cases hbt:w.params.followText "set-order" = true
 ·refine C8 (c:=(!w.params.followText "set-order" && _)=true) (by rw[hbt];simp) ?_
  exact wpAny_bind (plain (.text hbt))
 ·by_cases hd:(!t.plain&&decide (es.size>1))=true
  ·refine Id (c:=(!w.params.followText "set-order" && _)=true) (by
    rw[Bool.and_eq_true]
    exact⟨by simpa using hbt,hd⟩) ?_
   refine wpAny_bind (Ra es.size (List.range es.size) s (by simp) fun ord d hp=>wpAny_bind ?_)
   unfold newTuple
   have hlen:ord.length=es.size:=by rw[hp.length_eq];simp
   have hz:es.size≤sizeLine:=fits_of_scanBound h.sz
   refine wpAny_newObj_type ?_ (by show sizeOk (.seq (ord.map fun(k:Nat)=>rawInt k).toArray);show(ord.map fun(k:Nat)=>rawInt k).toArray.size≤sizeLine;simp;omega)
   generalize hg1:s.heap.push { cls:=.type "tuple",data:=.seq (ord.map fun(k:Nat)=>rawInt k).toArray }=g1
   have hsz:g1.objs.size=s.heap.objs.size+1:=by rw[←hg1,Heap.size_push]
   have hS1:g1.get? S=some (Ap es ep t):=by rw[←hg1];exact Heap.get?_push_of_some _ hS
   have hT1:g1.get? s.heap.objs.size=some { cls:=.type "tuple",data:=.seq (ord.map fun(k:Nat)=>rawInt k).toArray }:=by rw[←hg1];exact Heap.get?_push_size _ rfl
   refine wpAny_bind (wpAny_setEpoch_of (s:={ s with heap:=g1,drawn:=d }) hS1 rfl h.fit (wpAny_bind ?_))
   unfold newFields
   refine wpAny_newObj_type (wpAny_pure ⟨_,rfl, "set_iterator",_,⟨_,Heap.get?_push_size _ rfl,rfl⟩,slot_si_next.lookup,?_⟩) (by size_fits)
   have hne:S≠g1.objs.size:=by rw[hsz];exact Nat.ne_of_lt (Nat.lt_succ_of_lt hlt)
   have hneT:s.heap.objs.size≠g1.objs.size:=by rw[hsz];exact Nat.ne_of_lt (Nat.lt_succ_self _)
   refine hQ g1.objs.size _ d [g1.objs.size,S,s.heap.objs.size] _ _ ?_ (Sm hh hp h hne hneT) ⟨Heap.get?_push_size _ rfl,Heap.get?_push_of_some _ hS1,Heap.get?_push_of_some _ hT1⟩ (fun b hb=>?_) (by simp) (by rw[hsz];exact Nat.le_succ _) (fun b o e=>?_) (fun i s' ⟨hI,_⟩=>⟨_,hI,rfl⟩)
   ·have:(List.range es.size).map (fun k=>(es.toList.map (·.2)).getD k .none)=es.toList.map (·.2):=by
     apply List.ext_getElem?
     intro i
     rw[List.getElem?_map]
     by_cases hi:i<es.size
     ·rw[List.getElem?_range hi]
      have:i<(es.toList.map (·.2)).length:=by simpa using hi
      show some ((es.toList.map (·.2)).getD i .none)=_
      rw[List.getD,List.getElem?_eq_getElem this];rfl
     ·rw[List.getElem?_eq_none (by simpa using hi),List.getElem?_eq_none (by simpa using hi)];rfl
    exact(hp.map _).trans (List.Perm.of_eq this)
   ·rw[Heap.size_push,hsz]
    simp only[List.mem_cons,List.not_mem_nil,or_false] at hb
    rcases hb with rfl|rfl|rfl
    ·rw[hsz];exact⟨Nat.lt_succ_self _,.inr (Nat.le_succ _)⟩
    ·exact⟨Nat.lt_succ_of_lt (Nat.lt_succ_of_lt hlt),.inl rfl⟩
    ·exact⟨Nat.lt_succ_of_lt (Nat.lt_succ_self _),.inr (Nat.le_refl _)⟩
   ·rw[←hg1];exact Heap.get?_push_of_some _ (Heap.get?_push_of_some _ e)
  ·refine C8 (c:=(!w.params.followText "set-order" && _)=true) (fun z=>hd (by rw[Bool.and_eq_true] at z;exact z.2)) ?_
   exact wpAny_bind (plain (.tab hbt hd))
end
end D3
namespace D3
open PySem PySem.Spec
open PyProof.Rows hiding St
open L2 hiding St
section
variable{P:Program}{w:World}{A:Around}{E:Value→Shared→Prop}{s:Shared}
theorem Xw{S:Addr}{Q:Bool→Shared→Prop}(tyS:s.TypeIs (.ref S) "set")(h:Q false s):wpAny (model P w) A (Builtin.List.listLengthHint (.ref S)) Q E s:=by
 unfold Builtin.List.listLengthHint
 refine wpAny_bind (wpAny_specialOf tyS s_len ?_)
 (generalize hid:("set.__len__" : String)=id0;(fail_if_success (clear hid id0));wp_delta;rw[show splitId id0=some ("set", "__len__") from by subst hid;decide +kernel];subst hid)
 refine wpAny_bind (wpAny_isInstance (b:=true) tyS sub_set_self ?_)
 refine C8 (by decide) ?_
 refine Id (by decide +kernel) ?_
 exact wpAny_bind (wpAny_typeOf tyS (wpAny_pure h))
end
end D3
namespace D3
open PySem PySem.Spec
open PyProof.Rows hiding St
open L2 hiding St
section
variable{P:Program}{w:World}{A:Around}{E:Value→Shared→Prop}{s:Shared}
theorem Ph{S:Addr}{es:Array (Int×Value)}{ep:Nat}{t:SetTable}{Q:List Value→Shared→Prop}(hh:A.handled=none)(h:SBase w es t)(hS:s.heap.get? S=some (Ap es ep t))(hQ:∀(vs:List Value) (s':Shared),vs.Perm (es.toList.map (·.2))→s'.gens=s.gens→s'.os=s.os→s.toks≤s'.toks→(∀b o,s.heap.get? b=some o→s'.heap.get? b=some o)→Q vs s') :
  wpAny (model P w) A (collect (.ref S)) Q E s:=by
 have hlt:S<s.heap.objs.size:=Heap.lt_size hS
 have hz:es.size≤sizeLine:=fits_of_scanBound h.sz
 unfold collect
 refine wpAny_bind (wpAny_runValue (codeAny_builtin PySem.F.entry_proto_collect ?_));rw[Around.under_plainId PySem.F.plain_proto_collect _]
 show wpAny _ A.in1 (newList [] >>= fun l=>again (.builtin "list.__iadd__" ⟨[l,.ref S],[]⟩)) _ _ s;refine wpAny_bind (wpAny_newObj_type ?_)
 refine wpAny_pure ⟨plainId_quiet PySem.F.plain_list_iadd _,codeAny_builtin PySem.F.entry_list_iadd ?_⟩;rw[Around.under_plainId PySem.F.plain_list_iadd _]
 have hS1:(s.heap.push { cls:=.type "list",data:=.seq ([]:List Value).toArray }).get? S=some (Ap es ep t):=Heap.get?_push_of_some _ hS
 have hL1:(s.heap.push { cls:=.type "list",data:=.seq ([]:List Value).toArray }).get? s.heap.objs.size=some { cls:=.type "list",data:=.seq ([]:List Value).toArray }:=Heap.get?_push_size _ rfl
 have keep1:∀b o,s.heap.get? b=some o→(s.heap.push { cls:=.type "list",data:=.seq ([]:List Value).toArray }).get? b=some o:=fun b o e=>Heap.get?_push_of_some _ e
 have hsz1:(s.heap.push { cls:=.type "list",data:=.seq ([]:List Value).toArray }).objs.size=s.heap.objs.size+1:=by rw[Heap.size_push]
 generalize s.heap.push { cls:=.type "list",data:=.seq ([]:List Value).toArray }=g1 at *
 show wpAny _ A.in1 (Builtin.List.listExtendWith (.ref s.heap.objs.size) (.ref S) (.ref s.heap.objs.size)) _ _ { s with heap:=g1 }
 unfold Builtin.List.listExtendWith
 refine wpAny_bind (wpAny_typeOf (s:={ s with heap:=g1 }) (T:="set") ⟨_,hS1,rfl⟩ ?_)
 refine C8 (by
  have e1:Builtin.List.listSameRef (.ref s.heap.objs.size) (.ref S)=false:=by simp[Builtin.List.listSameRef,Nat.ne_of_gt hlt]
  rw[e1];decide) ?_
 refine wpAny_bind (Xr (A:=A.in1) (s:={ s with heap:=g1 }) hh h hS1 fun I g d fp vs St hvs W hst hfp hI hIn keep2 hty=>?_)
 have hLf:s.heap.objs.size ∉ fp:=fun z=>by
  rcases(hfp _ z).2 with e|e
  ·exact Nat.ne_of_gt hlt e
  ·rw[show({ s with heap:=g1 }:Shared).heap.objs.size=s.heap.objs.size+1 from hsz1] at e;exact Nat.not_succ_le_self _ e
 have tyS:Shared.TypeIs { s with heap:=g,drawn:=d } (.ref S) "set":=⟨_,keep2 _ _ hS1,rfl⟩
 refine wpAny_bind (wpAny_holding (Xw tyS ?_))
 refine Id (by decide +kernel) (wpAny_bind (wpAny_rule (wpAny_bind ?_)))
 have hL2:=keep2 _ _ hL1
 show wpAny _ A.in1 (updateSeq s.heap.objs.size (·.push .none) >>= fun _=>updateSeq s.heap.objs.size (·.pop)) _ _ { s with heap:=g,drawn:=d }
 refine wpAny_bind (wpAny_updateSeq hL2 rfl ?_)
 have hL3:=Heap.get?_update_self (Obj.mapSeq (·.push Value.none)) hL2 rfl;refine wpAny_updateSeq hL3 rfl ?_
 have hL4:=Heap.get?_update_self (Obj.mapSeq (·.pop)) hL3 rfl
 have oth:∀b o,b≠s.heap.objs.size→g.get? b=some o→((g.update s.heap.objs.size (Obj.mapSeq (·.push Value.none))).update s.heap.objs.size (Obj.mapSeq (·.pop))).get? b=some o:=fun b o hb e=>(Heap.get?_update_other _ _ (Ne.symm hb)).trans ((Heap.get?_update_other _ _ (Ne.symm hb)).trans e)
 generalize (g.update s.heap.objs.size (Obj.mapSeq (·.push Value.none))).update s.heap.objs.size (Obj.mapSeq (·.pop))=g2 at *
 have Wt:=W.toS
 refine wpAny_pure ⟨plainId_quiet PySem.F.plain_extend_loop _,codeAny_extend_loopS Wt hz _ hLf _ es.size 0 { s with heap:=g2,drawn:=d } _ _ rfl (Nat.zero_le _) (W.frame 0 g g2 hst fun b hb o e=>oth b o (fun z=>hLf (z ▸ hb)) e) hL4 (ItemsOf.nil _) fun s' acc' c' hm hS' hacc=>?_⟩
 show wpAny _ A (load s.heap.objs.size >>= _) _ _ s';refine wpAny_bind (wpAny_load hS' (wpAny_pure ?_))
 have eacc:acc'.toList=vs:=by
  have hvl:vs.length=es.size:=by rw[hvs.length_eq];simp
  apply List.ext_getElem?
  intro i
  by_cases hi:i<acc'.size
  ·have:=hacc.2 i acc'[i] (by simp[hi])
   rw[this];simp[hi]
  ·rw[List.getElem?_eq_none (by simpa using hi),List.getElem?_eq_none (by have:=hacc.1;omega)]
 rw[eacc]
 refine hQ vs s' hvs hm.gens hm.os hm.toks fun b o e=>?_
 have hb:b<s.heap.objs.size:=Heap.lt_size e
 refine hm.heap b o ?_ (oth b o (Nat.ne_of_lt hb) (keep2 b o (keep1 b o e)))
 simp only[List.mem_cons,List.not_mem_nil,or_false,not_or]
 refine⟨Nat.ne_of_lt hb,fun z=>?_⟩
 have:g1.objs.size≤I:=hIn
 rw[hsz1,←z] at this
 exact Nat.lt_irrefl _ (Nat.lt_of_lt_of_le (Nat.lt_succ_of_lt hb) this)
end
end D3
namespace D3
open PySem PySem.Spec
open PyProof.Rows hiding St
open L2 hiding St
section
variable{P:Program}{w:World}{A:Around}{E:Value→Shared→Prop}{s:Shared}
theorem Qd{S:Addr}{es:Array (Int×Value)}{ep:Nat}{t:SetTable}{ks:List Int}{Q:Value→Shared→Prop}(hh:A.handled=none)(h:SOk P w es t ks)(hS:s.heap.get? S=some (Ap es ep t))(h64:es.size<64)(hQ:∀(g:Heap) (out:List Value) (ns:List Int) (n:Nat) (s':Shared),IntsAre out ns→ns.Pairwise (·≤·)→ns.Nodup→(∀k,k∈ns↔k∈ks)→ns.length=es.size→s'.gens=s.gens→s'.os=s.os→s.toks≤s'.toks→(∀b o,s.heap.get? b=some o→g.get? b=some o)→(∀b o,g.get? b=some o→s'.heap.get? b=some o)→s'.heap.get? g.objs.size=some { cls:=.type "list",data:=.seq out.toArray n }→Q (.ref g.objs.size) s') :
  wpAny (model P w) A (call (.builtin "sorted") [.ref S]) Q E s:=by
 refine Calls.call_function_entry kind_sorted plain_sorted entry_sorted (args_sorted1 _) ?_
 unfold Builtin.«sorted»
 refine wpAny_bind (m:=checkCount "sorted" 1 1 _) (wpAny_pure (wpAny_bind (Ph (A:=A.in1) hh h.base hS fun vs s' hvs eg eo htk keep=>?_)))
 have hI:IntsAre vs (vs.map fun v=>eI (0,v)):=by
  have:∀v∈vs,∃i u,v=Value.int i u:=fun v hv=>by
   obtain⟨e,he,rfl⟩:=List.mem_map.mp (hvs.mem_iff.mp hv)
   obtain⟨i,u,rfl⟩:=h.el e he
   exact⟨i,u,rfl⟩
  clear hvs
  induction vs with
  |nil=>exact .nil
  |cons v r ih=>
   obtain⟨i,u,rfl⟩:=this v (by simp)
   exact .cons i u (ih fun x hx=>this x (by simp[hx]))
 have pn:(vs.map fun v=>eI (0,v)).Perm (es.toList.map eI):=by
  have:=hvs.map fun v=>eI (0,v)
  rw[List.map_map] at this
  exact this
 have hvl:vs.length<64:=by rw[hvs.length_eq];simpa using h64
 refine wpAny_bind (wpAny_newList ?_ (by rw[sizeLine_eq];omega))
 have hoL:(s'.heap.push (seqObj "list" vs.toArray 0)).get? s'.heap.objs.size=some (seqObj "list" vs.toArray 0):=Heap.get?_push_size _ rfl
 show wpAny _ _ _ _ _ { s' with heap:=s'.heap.push (seqObj "list" vs.toArray 0) }
 refine wpAny_bind (wpAny_holding (wpAny_call_entry slot_list_sort ⟨_,hoL,rfl⟩ entry_list_sort (list_sort_tree hoL hI hvl fun out ns' a1 a2 a3=>⟨_,rfl,?_⟩) (args_list_sort _)))
 obtain⟨n,hn⟩:=sortedHeap_at (vs:=vs) (out:=out) hoL
 refine wpAny_pure ⟨_,rfl,hQ s'.heap out.toList ns' n _ a1 a3 ((a2.trans pn).nodup_iff.mpr h.nd) (fun k=>((a2.trans pn).mem_iff).trans (h.mem k)) (by rw[(a2.trans pn).length_eq];simp) eg eo htk keep (fun b o h1=>?_) ?_⟩
 ·have hb:b<s'.heap.objs.size:=Heap.lt_size h1
  rw[sortedHeap_old (Nat.ne_of_lt hb) (by rw[size_push'];exact Nat.lt_succ_of_lt hb)]
  exact Heap.get?_push_of_some _ h1
 ·rw[hn]
end
end D3
namespace D3
open PySem PySem.Spec
open PyProof.Rows hiding St
open L2 hiding St
def Nl(x:Int):List Int→List Int
 |[]=>[x]
 |y::r=>if x<y then x::y::r else if x=y then y::r else y::Nl x r
def Ch:List Int→List Int
 |[]=>[]
 |x::r=>Nl x (Ch r)
theorem mem_insU{x z:Int}:∀{l:List Int},z∈Nl x l↔z=x∨z∈l
 |[]=>by simp[Nl]
 |y::r=>by
  rw[Nl]
  split
  ·simp
  ·split
   ·rename_i e;subst e;simp
   ·rw[List.mem_cons,mem_insU (l:=r),List.mem_cons]
    exact⟨fun h=>h.elim (fun a=>.inr (.inl a)) (fun a=>a.elim .inl fun b=>.inr (.inr b)),fun h=>h.elim (fun a=>.inr (.inl a)) fun a=>a.elim .inl fun b=>.inr (.inr b)⟩
theorem mem_sortU{z:Int}:∀{l:List Int},z∈Ch l↔z∈l
 |[]=>Iff.rfl
 |x::r=>by rw[Ch,mem_insU,mem_sortU,List.mem_cons]
theorem Lp{x:Int}:∀{l:List Int},l.Pairwise (· < ·)→(Nl x l).Pairwise (· < ·)
 |[],_=>by simp[Nl]
 |y::r,h=>by
  rw[Nl]
  obtain⟨h1,h2⟩:=List.pairwise_cons.mp h
  split
  ·rename_i hx
   refine List.pairwise_cons.mpr ⟨fun z hz=>?_,h⟩
   rcases List.mem_cons.mp hz with rfl|hz
   ·exact hx
   ·exact Int.lt_trans hx (h1 z hz)
  ·split
   ·exact h
   ·rename_i a b
    refine List.pairwise_cons.mpr ⟨fun z hz=>?_,Lp h2⟩
    rcases mem_insU.mp hz with rfl|hz
    ·omega
    ·exact h1 z hz
theorem Fb:∀l:List Int,(Ch l).Pairwise (· < ·)
 |[]=>List.Pairwise.nil
 |x::r=>Lp (Fb r)
theorem Lc:∀{a b:List Int},a.Pairwise (· < ·)→b.Pairwise (· < ·)→(∀k,k∈a↔k∈b)→a=b
 |[],[],_,_,_=>rfl
 |[],y::r,_,_,h=>absurd ((h y).mpr (by simp)) (by simp)
 |x::r,[],_,_,h=>absurd ((h x).mp (by simp)) (by simp)
 |x::r,y::q,ha,hb,h=>by
  obtain⟨a1,a2⟩:=List.pairwise_cons.mp ha
  obtain⟨b1,b2⟩:=List.pairwise_cons.mp hb
  have e:x=y:=by
   rcases List.mem_cons.mp ((h x).mp (by simp)) with e|e
   ·exact e
   ·rcases List.mem_cons.mp ((h y).mpr (by simp)) with e'|e'
    ·exact e'.symm
    ·have:=b1 x e;have:=a1 y e';omega
  subst e
  refine congrArg (x :: ·) (Lc a2 b2 fun k=>?_)
  constructor
  ·intro hk
   rcases List.mem_cons.mp ((h k).mp (List.mem_cons_of_mem _ hk)) with e|e
   ·have:=a1 k hk;omega
   ·exact e
  ·intro hk
   rcases List.mem_cons.mp ((h k).mpr (List.mem_cons_of_mem _ hk)) with e|e
   ·have:=b1 k hk;omega
   ·exact e
theorem Wi{ns ks:List Int}(h1:ns.Pairwise (·≤·))(h2:ns.Nodup)(h:∀k,k∈ns↔k∈ks):ns=Ch ks:=by
 refine Lc ?_ (Fb ks) fun k=>(h k).trans mem_sortU.symm
 induction ns with
 |nil=>exact .nil
 |cons x r ih=>
  obtain⟨a1,a2⟩:=List.pairwise_cons.mp h1
  obtain⟨b1,b2⟩:=List.nodup_cons.mp h2
  have:r.Pairwise (· < ·):=by
   clear ih h
   refine(List.pairwise_and_iff.mpr ⟨a2,b2⟩).imp fun⟨u,v⟩=>?_
   omega
  exact List.pairwise_cons.mpr ⟨fun y hy=>by have:=a1 y hy;have:x≠y:=fun e=>b1 (e ▸ hy);omega,this⟩
section
variable{X:Cx}{e:Expr}{te:DTE}{pos:Pos}
theorem Tt{pins:List (Addr×Obj)}{σ:St}{H:Hp}{s:Shared}{d:Drawn}(I:Inv X pins σ H s):Inv X pins σ H { s with drawn:=d }:=⟨I.ok,I.os,I.bare,I.base,I.loc,I.cell,I.free,I.freeC,I.pin,I.hok,I.len⟩
theorem Ev:∀{ns:List Int} {its:List Value},Vals (ns.map V.int) its→IntsAre its ns
 |[],_,.nil=>.nil
 |n::r,_,.cons ⟨t,rfl⟩ h=>.cons n t (Ev h)
theorem vals_ints:∀{ns:List Int} {its:List Value},IntsAre its ns→Vals (ns.map V.int) its
 |_,_,.nil=>.nil
 |_,_,.cons n t h=>.cons ⟨t,rfl⟩ (vals_ints h)
abbrev Ni(l:Addr)(es:Array (Int×Value))(ep:Nat)(t:SetTable):HO:=.ext fun h=>h.get? l=some (Ap es ep t)
theorem T2(hc:X.calm=true):CallR X (.type "set") (fun xs H Q=>∃p ns,xs=[.ref p]∧(SqL X.K H p (ns.map V.int)∨SqT X.K H p (ns.map V.int))∧ns.length<64∧
  ∀l es ep t,H l=none→SOk X.prog X.w es t ns→es.size<64→Q (.ref l) (upd H l (Ni l es ep t))):=by
 intro pins s σ H xs us Q I r h
 obtain⟨p,ns,rfl,hq,hn,q⟩:=h
 obtain⟨u,rfl,rx⟩:=Dg r
 cases rx
 have main:∀its:List Value,Vals (ns.map V.int) its→(s.heap.IsList p its.toArray∨s.heap.IsTuple p its.toArray)→wpAny (model X.prog X.w) X.A (call (.type "set") [.ref p]) (EP X pins σ Q) X.xe s:=fun its rv hl=>by
  have hl2:=rv.length
  rw[List.length_map] at hl2
  refine Wk (I.ok.hd hc) hl (by simpa using Ev rv) (by show its.toArray.size+1<4096;simp;omega) fun h' tk es ep t htk ho hO hz kp=>?_
  have kp':∀b o,s.heap.get? b=some o→h'.get? b=some o:=fun b o e=>kp b o (Heap.lt_size e) e
  refine⟨.ref s.heap.objs.size,_,I.laid (t':=tk) (o:=Ni s.heap.objs.size es ep t) kp' (Nat.le_refl _) ?_,rfl,q _ es ep t (I.hok.fresh (Nat.le_refl _)) hO (by omega)⟩
  exact⟨ho,⟨_,ho⟩,fun h1 h2 a b=>b _ a⟩
 rcases hq with hq|hq
 ·obtain⟨its,rv,pl,_⟩:=I.list hq
  exact main its rv (.inl pl.isList)
 ·obtain⟨its,rv,pl,_⟩:=I.tuple hq
  exact main its rv (.inr pl)
theorem M9(hc:X.calm=true):CallR X (.builtin "sorted") (fun xs H Q=>∃l es ep t ks,xs=[.ref l]∧H l=some (Ni l es ep t)∧SOk X.prog X.w es t ks∧es.size<64∧∀p,H p=none→Q (.ref p) (upd H p (.lst ((Ch ks).map V.int)))):=by
 intro pins s σ H xs us Q I r h
 obtain⟨l,es,ep,t,ks,rfl,hl,hO,hz,q⟩:=h
 obtain⟨u,rfl,rx⟩:=Dg r
 cases rx
 obtain⟨ho,_⟩:=(show ObjOk X.prog X.w H s.heap l (Ni l es ep t) from I.hok l _ hl)
 refine Qd (I.ok.hd hc) hO ho hz fun g out ns n s' hI hs hnd hm hlen eg eo htk k1 k2 hL=>?_
 obtain⟨h',g',d',tk',os'⟩:=s'
 have eg:g'=s.gens:=eg
 have eo:os'=s.os:=eo
 subst eg;subst eo
 have e:ns=Ch ks:=Wi hs hnd hm
 subst e
 have I1:Inv X pins σ H { s with heap:=g,toks:=tk' }:=I.kept k1
 have I2:=I1.laid (h':=h') (t':=tk') (o:=.lst ((Ch ks).map V.int)) k2 (Nat.le_refl _) (show ObjOk X.prog X.w _ h' _ (.lst _) from⟨by rw[List.length_map,sizeLine_eq];omega,out,n,vals_ints hI,hL⟩)
 exact⟨.ref g.objs.size,_,Tt I2,rfl,q _ (I1.hok.fresh (Nat.le_refl _))⟩
def Ix(te:DTE):DTE:=fun σ G Q=>te σ G fun d G1=>∃ns:List Int,Aq G1 d=some (ns.map D.int)∧ns.length<64∧∀p,G1 p=none→Q (.ref p) (Ac G1 p (.lst ((Ch ns).map D.int)))
theorem Dd{K:W.Frag}{H:Hp}:∀{ns:List Int} {xs:List V},DVs K H (ns.map D.int) xs→xs=ns.map V.int
 |[],_,.nil=>rfl
 |_::_,_,.cons (.int _) t=>by rw[Dd t];rfl
theorem Lf{p1 p2 p3:Pos}(hc:X.calm=true)(hm1:X.mg "sorted" = none)(hm2:X.mg "set" = none)(he:QE X e te)(hg1:Gl X "sorted":=by rfl)(hg2:Gl X "set":=by rfl)(hs1:starEach [.Call (.Name "set" p2) [e] [] p3] X.env=[(false,eval (.Call (.Name "set" p2) [e] [] p3) X.env)]:=by rfl)(hs2:starEach [e] X.env=[(false,eval e X.env)]:=by rfl) :
  QE X (.Call (.Name "sorted" p1) [.Call (.Name "set" p2) [e] [] p3] [] pos) (Ix te):=by
 refine(Iv (M9 hc) hg1 hm1 (by decide +kernel) (Fr (Li (T2 hc) hg2 hm2 (by decide +kernel) (Fr he pa_nil hs2) (he:=hs2)) pa_nil hs1) (he:=hs1)).imp fun σ H Q ⟨σD,G,Q',rs,rg,h,cl⟩=>?_
 refine⟨σD,G,_,rs,rg,h,fun d G1 ⟨ns,en,hn,q⟩ H1 x1 rg1 v dv=>?_⟩
 have go:∀a,v=.ref a→(SqL X.K H1 a (ns.map V.int)∨SqT X.K H1 a (ns.map V.int))→∃p ms,[v]=[V.ref p]∧(SqL X.K H1 p (ms.map V.int)∨SqT X.K H1 p (ms.map V.int))∧ms.length<64∧
   ∀l es ep t,H1 l=none→SOk X.prog X.w es t ms→es.size<64→Up σ (upd H1 l (Ni l es ep t)) (fun vs H2=>∃l' es' ep' t' ks,V.ref l::vs=[V.ref l']∧H2 l'=some (Ni l' es' ep' t')∧SOk X.prog X.w es' t' ks∧es'.size<64∧∀p,H2 p=none→Q (.ref p) (upd H2 p (.lst ((Ch ks).map V.int)))):=fun a e hq=>by
  subst e
  refine⟨a,ns,rfl,hq,hn,fun l es ep t hl hO hz=>⟨l,es,ep,t,ns,rfl,Ar,hO,hz,fun p hp=>?_⟩⟩
  have x2:Ext H1 (upd H1 l (Ni l es ep t)):=Ext.fresh hl
  have rg2:RelG X.K (upd H1 l (Ni l es ep t)) G1:=rg1.tup hl
  exact cl _ _ (q p (rg2.free hp)) _ (x1.trans (x2.trans (Ext.fresh hp))) (rg2.lst hp DVs.ints) _ (.ref p)
 cases dv with
 |tup e r=>cases en;rw[Dd r] at e;exact go _ rfl (.inr (.inl (.inl e)))
 |@lint ms a e=>
  have:ms=ns:=by
   simp only[Aq,Option.some.injEq] at en
   exact(List.map_inj_right (fun _ _ h=>by cases h;rfl)).mp en
  subst this
  exact go a rfl (.inl e.sq)
 |ref a=>
  simp only[Aq] at en
  split at en
  ·rename_i ds g
   cases en
   obtain⟨xs,e,r⟩:=rg1 a _ g
   rw[Dd r] at e
   exact go a rfl (.inl (.inl (.inl e)))
  ·cases en
 |_=>cases en
end
end D3
namespace D3
open PySem PySem.Spec
open PyProof.Rows hiding St
open L2 hiding St
section
variable{P:Program}{w:World}{A:Around}{R:Result→Shared→Prop}
theorem Uj{I ax:Addr}(hh:A.handled=none)(hne:ax≠I){its:Array Value}{cs:List (Addr×Array Value)}(hits:its.toList=cs.map fun c=>.ref c.1)(hsm:∀c∈cs,c.1≠I∧c.2.size≤sizeLine) :
  ∀(k i:Nat) (s:Shared),cs.length-i=k→i≤cs.length→s.heap.IsTupleIter I ax i→s.heap.IsTuple ax its→(∀c∈cs,s.heap.IsTuple c.1 c.2)→
   (∀h' tk,s.toks≤tk→(∀b o,b≠I→s.heap.get? b=some o→h'.get? b=some o)→R (.ok (.ret (.bool ((cs.drop i).all fun c=>!c.2.toList.isEmpty)))) { s with heap:=h',toks:=tk })→
   codeAny (model P w) A (.builtin "all.loop" ⟨[.ref I],[]⟩) R s:=by
 have hsz:its.size=cs.length:=by rw[←Array.length_toList,hits,List.length_map]
 intro k
 induction k with
 |zero=>
  intro i s hk hi hit ht hc hR
  have hin:i=cs.length:=by omega
  subst hin
  refine codeAny_builtin F.entry_all_loop ?_;rw[Around.under_plainId F.plain_all_loop _]
  show wpAny _ A.in1 (pyNext (.ref I) >>= _) _ _ s;refine wpAny_bind (wpAny_pyNext_tuple_end (A:=A.in1) hh hit ht (Array.getElem?_eq_none (by omega)) fun h' ext=>wpAny_bind (wpAny_rule (wpAny_pure ?_)))
  have q:=hR h' s.toks (Nat.le_refl _) fun b o hb e=>ext b o hb e
  rw[List.drop_length] at q
  exact q
 |succ k ih=>
  intro i s hk hi hit ht hc hR
  have hlt:i<cs.length:=by omega
  have hd:cs.drop i=cs[i]::cs.drop (i+1):=List.drop_eq_getElem_cons hlt
  have hx:its[i]? = some (.ref cs[i].1):=by rw[←Array.getElem?_toList,hits,List.getElem?_map,List.getElem?_eq_getElem hlt];rfl
  have hm:cs[i]∈cs:=List.getElem_mem hlt
  refine codeAny_builtin F.entry_all_loop ?_;rw[Around.under_plainId F.plain_all_loop _]
  show wpAny _ A.in1 (pyNext (.ref I) >>= _) _ _ s;refine wpAny_bind (wpAny_pyNext_tuple_item hit ht hx fun h' hit' same=>?_)
  have hc':∀c∈cs,h'.IsTuple c.1 c.2:=fun c hcm=>(hc c hcm).extBut same.extBut (hsm c hcm).1
  have ht':h'.IsTuple ax its:=ht.extBut same.extBut hne
  have hl63:=E8
  refine wpAny_bind (wpAny_holding (truthy_tuple (hc' _ hm) (by have:=(hsm _ hm).2;omega) (wpAny_bind (wpAny_letGo ?_))))
  rw[hd,List.all_cons] at hR
  cases hb:cs[i].2.toList.isEmpty with
  |false=>
   rw[hb] at hR
   rw[if_pos (by simpa using hb)]
   refine wpAny_pure ⟨plainId_quiet F.plain_all_loop _,ih (i+1) _ (by omega) hlt hit' ht' hc' fun h'' tk'' htk hk''=>?_⟩
   exact hR h'' tk'' (Nat.le_trans (show s.toks≤s.toks+1+1 by omega) htk) fun b o hbI e=>hk'' b o hbI (same.extBut b o hbI e)
  |true=>
   rw[hb] at hR
   rw[if_neg (by simpa using hb)]
   exact wpAny_bind (wpAny_rule (wpAny_pure (hR h' _ (show s.toks≤s.toks+1+1 by omega) fun b o hbI e=>same.extBut b o hbI e)))
end
section
variable{X:Cx}
theorem T7(hc:X.calm=true):CallR X (.builtin "all") (fun xs H Q=>∃(a:Addr) (ps:List (Addr×List V)),xs=[.ref a]∧H a=some (.tup (ps.map fun p=>.ref p.1))∧(∀p∈ps,H p.1=some (.tup p.2))∧Q (.bl (ps.all fun p=>!p.2.isEmpty)) H):=by
 intro pins s σ H xs us Q I r h
 obtain⟨a,ps,rfl,ha,hp,q⟩:=h
 obtain⟨u,rfl,ru⟩:=Dg r
 cases ru
 obtain⟨its,rv,pl,hz⟩:=I.tuple (.inl (.inl ha):SqT X.K H a _)
 have hlt:a<s.heap.objs.size:=by obtain⟨_,e,_⟩:=pl;exact Heap.lt_size e
 have key:∀(ps:List (Addr×List V)) (its:List Value),Vals (ps.map fun p=>V.ref p.1) its→(∀p∈ps,H p.1=some (.tup p.2))→∃cs:List (Addr×Array Value),its=cs.map (fun c=>.ref c.1)∧(∀c∈cs,s.heap.IsTuple c.1 c.2∧c.2.size≤sizeLine)∧(ps.all fun p=>!p.2.isEmpty)=cs.all fun c=>!c.2.toList.isEmpty:=by
  intro ps
  induction ps with
  |nil=>intro its r _;cases r;exact⟨[],rfl,by simp,rfl⟩
  |cons p ps ih=>
   intro its r hp
   rw[List.map_cons] at r
   cases r with
   |cons r1 r2=>
    cases r1
    obtain⟨cs,e1,e2,e3⟩:=ih _ r2 fun p hm=>hp p (List.mem_cons_of_mem _ hm)
    obtain⟨js,rj,pj,hj⟩:=I.tuple (.inl (.inl (hp p (by simp))):SqT X.K H p.1 _)
    have hlen:=rj.length
    refine⟨(p.1,js.toArray)::cs,by rw[e1];rfl,fun c hc=>?_,?_⟩
    ·rcases List.mem_cons.mp hc with rfl|hc
     ·exact⟨pj,by simp;omega⟩
     ·exact e2 c hc
    ·rw[List.all_cons,List.all_cons,e3]
     have:p.2.isEmpty=js.isEmpty:=by
      obtain⟨pa,pb⟩:=p
      dsimp only at rj ⊢
      cases rj<;>rfl
     rw[this]
 obtain⟨cs,e1,e2,e3⟩:=key ps its rv hp
 refine call_function_tree F.kind_all F.plain_all F.entry_all (F.args_all1 _) ?_
 unfold Builtin.«all»
 refine wpAny_bind (m:=oneArg "all" _) (wpAny_pure (wpAny_bind (wpAny_pyIter_tuple pl ?_)))
 have isnew:∀c∈cs,c.1≠s.heap.objs.size:=fun c hcm=>by obtain⟨⟨o,e,_⟩,_⟩:=e2 c hcm;exact Nat.ne_of_lt (Heap.lt_size e)
 refine wpAny_pure ⟨plainId_quiet F.plain_all_loop _,Uj (I:=s.heap.objs.size) (I.ok.hd hc) (Nat.ne_of_lt hlt) (its:=its.toArray) (cs:=cs) (by simpa using e1) (fun c hcm=>⟨isnew c hcm,(e2 c hcm).2⟩) _ 0 _ rfl (Nat.zero_le _) ⟨_,Heap.get?_push_size _ rfl,rfl,rfl⟩ (pl.push _) (fun c hcm=>(e2 c hcm).1.push _) fun h' tk htk k=>?_⟩
 rw[List.drop_zero,←e3]
 exact⟨.bl _,H,I.kept (t':=tk) fun b o e=>k b o (Nat.ne_of_lt (Heap.lt_size e)) (Heap.get?_push_of_some _ e),rfl,q⟩
theorem Oy{K:W.Frag}{H:Hp}:∀{cs:List (List D)} {xs:List V},DVs K H (cs.map D.tup) xs→∃ps:List (Addr×List V),xs=ps.map (fun p=>.ref p.1)∧(∀p∈ps,H p.1=some (.tup p.2))∧(cs.all fun c=>!c.isEmpty)=ps.all fun p=>!p.2.isEmpty
 |[],_,.nil=>⟨[],rfl,by simp,rfl⟩
 |c::cs,_,.cons (@DV.tup _ _ _ a ys e r) t=>by
  obtain⟨ps,h1,h2,h3⟩:=Oy t
  refine⟨(a,ys)::ps,by rw[h1];rfl,fun p hp=>?_,?_⟩
  ·rcases List.mem_cons.mp hp with rfl|hp
   ·exact e
   ·exact h2 p hp
  ·rw[List.all_cons,List.all_cons,h3,isE r]
theorem Ad2(hc:X.calm=true):QC X (.builtin "all") (fun ds G Q=>∃d,ds=[d]∧((∃a,d=.ref a∧∃bs:List Bool,G a=some (.lst (bs.map D.bl))∧Q (.bl (bs.all id)) G)∨∃cs:List (List D),d=.tup (cs.map D.tup)∧Q (.bl (cs.all fun c=>!c.isEmpty)) G)):=by
 intro pins s σ H xs us Q I r ⟨ds,G,Q',dv,rg,⟨d,e,h⟩,cl⟩
 rcases h with ⟨a,ea,h⟩|⟨cs,ec,q⟩
 ·exact c_all hc pins s σ H xs us Q I r ⟨ds,G,Q',dv,rg,⟨a,by rw[e,ea],h⟩,cl⟩
 ·subst e;subst ec
  obtain⟨v,rfl,r1⟩:=dv.one
  cases r1 with
  |@tup _ a ys e r2=>
   obtain⟨ps,h1,h2,h3⟩:=Oy r2
   subst h1
   exact T7 hc pins s σ H _ us Q I r ⟨a,ps,rfl,e,h2,by rw[←h3];exact cl _ G q H (Ext.refl H) rg _ (.bl _)⟩
end
end D3
namespace D3
open PySem PySem.Spec
open PyProof.Rows hiding St
open L2 hiding St
section
variable{X:Cx}{a:Expr}{ta:DTE}{pos:Pos}
theorem Y0:UnR X (unaryOp .Not) (fun x H Q=>∃k,Yv X.K x H k∧Q (.bl (!k)) H):=fun pins s σ H x v Q I r ⟨k,e,q⟩=>
 not_of (wpAny_mono (Vd pins s σ H x v (fun b H'=>Q (.bl (!b)) H') I r ⟨k,e,q⟩) (fun b s' ⟨H',I',q'⟩=>⟨.bl (!b),H',I',rfl,q'⟩) fun _ _ h=>h)
def Abf(ta:DTE):DTE:=fun σ G Q=>ta σ G fun x G1=>∃k,Kg G1 x=some k∧Q (.bl (!k)) G1
theorem Acc(ha:QE X a ta):QE X (.UnaryOp .Not a pos) (Abf ta):=(Abc Y0 ha).imp fun σ H Q ⟨σD,G,Q',rs,rg,h,cl⟩=>
 ⟨σD,G,_,rs,rg,h,fun d G1 ⟨k,e,q⟩ H1 x1 rg1 v dv=>⟨k,Rc rg1 e dv,cl _ _ q _ x1 rg1 _ (.bl _)⟩⟩
end
end D3
namespace D3
open PySem PySem.Spec
open PyProof.Rows hiding St
open L2 hiding St
structure FnIs(K:PySem.W.Frag)(x:Str)(st:Stmt):Prop where
 ex:∃f fd,Fun K x x st f fd∧PySem.W.nsIn K mainGlobals x=some (some (.ref f))∧PySem.W.keepIn K (.ref f)=true
theorem Ak{K:W.Frag}{x:Str}{st:Stmt}{f:Addr}{od an:Option Addr}{sl:Array (Option Value)}{oc kV dc pm cd ct:Value}(a:PySem.W.nsIn K mainGlobals x=some (some (.ref f)))(l:K.lookup f=some ⟨oc,od,.func (PySem.W.fnOf x x (Fv st) (D7 st) (Ad st) .none kV dc pm an cd ct),sl⟩)(c:PySem.W.codeIn K cd x=true)(k:PySem.W.keepIn K (.ref f)=true):FnIs K x st:=
 ⟨f,_,Adv l c k,a,k⟩
theorem Au{P:Program}{w:World}{K:W.Frag}{h:Heap}{mg:Str→Option Value}{base:Heap}{x:Str}{st:Stmt}{k:Nat}{ps:List Str}{sp:DSp}(I:FnIs K x st)(X:K.In h)(G:h.Ns mainGlobals mg)(hb:∀f fd,Fun K x x st f fd→Binds K fd ps [])(ok:∀f fd,Fun K x x st f fd→FnOk P w K mg base CX0 k f fd ps (Al K sp)):Def P w K mg base CX0 k x ps sp:=by
 obtain⟨f,fd,F,a,kp⟩:=I.ex
 exact⟨f,fd,ok f fd F,PySem.W.mg_of X G a,kp,hb f fd F⟩
def Q6:DSp:=fun ds G Q _=>∃ns:List Int,ds=[.lint ns]∧ns.length≤63∧∀G',Q (.bl true) G'
theorem Adi(K:PySem.W.Frag)(H:Hp)(a:Addr)(ns:List Int)(hl:ns.length≤63)(hO:Ur H)(hS:SqL K H a (ns.map V.int)):Al K Q6 [.ref a] H (fun v _=>v=.bl true) fun _ _ _=>False:=by
 have rd:RdI K H a (ns.map V.int):=by
  rcases hS with (h|h)|h
  ·rcases hO a with z|⟨o,xs,z⟩
   ·rw[h] at z;cases z
   ·rw[h] at z;cases z
  ·exact .inl h
  ·exact .inr h
 refine⟨[.lint ns],fun _=>none,fun d _=>d=.bl true,fun _ _=>False,.cons (.lint rd) .nil,(fun b o e=>by cases e),⟨ns,rfl,hl,fun _=>rfl⟩,fun d G' e H' _ _ v dv=>?_,fun c G' (e:False)=>e.elim⟩
 have e:d=.bl true:=e
 subst e
 cases dv
 rfl
end D3
namespace D3
open PySem PySem.Spec
open PyProof.Rows hiding St
open L2 hiding St
section
variable{X:Cx}{o e:Expr}{to te:DTE}{pos pos':Pos}{f:Str}{C:Addr}
theorem W6{α β:Type}{R:α→β→Prop}{xs:List α}{ys:List β}(h:Paired R xs ys):xs.length=ys.length:=by
 induction h with
 |nil=>rfl
 |cons _ _ ih=>exact congrArg (· + 1) ih
end
end D3
namespace D3
open PySem PySem.Spec
open PyProof.Rows hiding St
open L2 hiding St
section
variable{X:Cx}{pins:List (Addr×Obj)}{σ:St}{H:Hp}{s:Shared}{A:Around}{E:Value→Shared→Prop}
theorem Tx{a:Addr}{kvs:List (Key×V)}{k:Key}{v:V}{u r:Value}{Q:Unit→Shared→Prop}(I:Inv X pins σ H s)(e:H a=some (.dK kvs))(l:kvs.length<sizeLine)(ry:RelV (kV k) u)(rv:RelV v r)(h:∀s',Inv X pins σ (upd H a (.dK (D2 kvs k v))) s'→Q () s'):wpAny (model X.prog X.w) A (dictSet a u r) Q E s:=by
 obtain⟨z,hd,vs,rel,dd⟩:=Hb I.hok e
 have hz:vs.length≤sizeLine:=by rw[←rel.length];exact z
 have hl:(D2 kvs k v).length≤sizeLine:=by have:=Em kvs k v;omega
 unfold dictSet
 refine wpAny_holding (wpAny_bind ((A4 X.prog X.w).pyHash (Nx ry) ?_))
 refine wpAny_dictSetHashed_pairs (hsz:=hz) (Nx ry) dd fun h' dd' hs=>h _ ?_
 have he:∃q,h'.get? a=some q:=let ⟨q,_,_,hq,_⟩:=dd';⟨q,hq⟩
 exact Mr (I.tok _) (by rw[e];exact True.intro) hs he (V1 hl hd (rel.put k rv) dd')
end
def U9(P:Program)(w:World)(A:Around)(env:Env)(tg kx vx:Expr)(ifs:List Expr)(it:Value)(acc:Addr)(X:Value→Shared→Prop)(nxt:Shared→Prop)(v:Value)(t:Shared):Prop:=
 wpAny (model P w) A (letOwnedTupleGo tg it v) (fun _ a=>wpAny (model P w) A (assign tg env v) (fun _ b=>wpAny (model P w) A (Ih ifs env) (fun y c=>
  if y=true then wpAny (model P w) A (eval kx env) (fun e d=>wpAny (model P w) A (eval vx env) (fun e2 d2=>wpAny (model P w) A (dictSet acc e e2) (fun _ f=>nxt f) X d2) X d) X c else nxt c) X b) X a) X t
theorem Pg{P:Program}{w:World}{A:Around}{R:Result→Shared→Prop}{s:Shared}{kx vx tg src:Expr}{ifs:List Expr}{sc:Scope}{pl:Pos}{it:Value}{acc:Addr}{env:Env}(V:Nat→Shared→Prop)(go:∀k t,V k t→wpAny (model P w) A (pyNext it) (fun r u=>match r with
   |none=>R (.ok .next) u
   |some v=>U9 P w A env tg kx vx ifs it acc (notedBy (model P w) A env fun e z=>R (.error e) z) (fun z=>∃m,m<k∧V m z) v u) (notedBy (model P w) A env fun e z=>R (.error e) z) t)(k:Nat)(h0:V k s):codeAny (model P w) A (.compLoop (.DictComp kx vx [⟨tg,src,ifs,0⟩] sc pl) 0 it (.ref acc) env) R s:=by
 refine codeAny_loop rfl V (fun k t hv=>(show wpAny _ A ((compTurn (.DictComp kx vx [⟨tg,src,ifs,0⟩] sc pl) 0 it (.ref acc) env).onRaise (fun x=>do noteFrame x env;theTreesLotGoes x)) _ _ t from wpAny_noted ?_)) k h0
 rw[compTurn_dict];refine wpAny_bind (wpAny_standAt (wpAny_bind (wpAny_mono (go k t hv) (fun r u hr=>?_) fun _ _ z=>z)))
 cases r with
 |none=>exact wpAny_pure hr
 |some v=>
  refine wpAny_bind (wpAny_mono hr (fun _ a ha=>wpAny_bind (wpAny_mono ha (fun _ b hb=>wpAny_bind (wpAny_mono hb (fun y c hc=>?_) fun _ _ z=>z)) fun _ _ z=>z)) fun _ _ z=>z)
  cases y with
  |true=>exact wpAny_bind (wpAny_bind (wpAny_mono hc (fun e d hd=>wpAny_bind (wpAny_holding (wpAny_mono hd (fun e2 d2 hd2=>wpAny_bind (wpAny_standAt (wpAny_holding (wpAny_mono hd2 (fun _ f hf=>wpAny_pure ⟨rfl,hf⟩) fun _ _ z=>z)))) fun _ _ z=>z))) fun _ _ z=>z))
  |false=>refine wpAny_pure ⟨rfl,?_⟩;exact hc
end D3
namespace D3
open PySem PySem.Spec
open PyProof.Rows hiding St
open L2 hiding St
def Y3(n:Nat)(wi:TI)(g:TG)(tf:TT)(tk tv:TE):TE:=fun σ H Q=>wi σ H fun J H1=>∀p,H1 p=none→∃W:Nat→Nat→St→Hp→Prop,(∃m,W 0 m (List.replicate n none++σ) (upd H1 p (.dK [])))∧∀i m σ1 H,W i m σ1 H→
 ((J.stop i H∧Q (.ref p) H)∨(J.go i H∧∃N:St→Hp→Prop,(∀σ' H',N σ' H'→∃m',m'<m∧W (i+1) m' σ' H')∧
  ∀x H',J.yld i H x H'→g x σ1 H' fun σ2 H2=>tf σ2 H2 fun b H3=>if b=true then tk σ2 H3 fun y H4=>tv σ2 H4 fun z H5=>∃kvs k,y=kV k∧H5 p=some (.dK kvs)∧kvs.length<sizeLine∧N σ2 (upd H5 p (.dK (D2 kvs k z))) else N σ2 H3))
theorem Tb{X:Cx}{kx vx iter tg:Expr}{ifs:List Expr}{scope:Scope}{cl:List (Str×Addr)}{pos:Pos}{wi:TI}{g:TG}{tf:TT}{tk tv:TE}{T M:List Str}(hc:X.calm=true)(ok:CompOz X scope cl T M)(hi:PI X tg iter wi)(hg:∀s H fp,PG (Aj X scope cl T M s H fp) tg g)(hf:∀s H fp,PF (Aj X scope cl T M s H fp) ifs tf)(hk:∀s H fp,PE (Aj X scope cl T M s H fp) kx tk)(hv:∀s H fp,PE (Aj X scope cl T M s H fp) vx tv)(hs:∀x,foldedSetIterable iter X.env x=pure x:=by intro _;rfl):PE X (.DictComp kx vx [⟨tg,iter,ifs,0⟩] scope pos) (Y3 T.length wi g tf tk tv):=by
 intro pins s σ H Q I h
 rw[show eval (.DictComp kx vx [⟨tg,iter,ifs,0⟩] scope pos) X.env=comprehension (.DictComp kx vx [⟨tg,iter,ifs,0⟩] scope pos) scope X.env (firstIterPos [⟨tg,iter,ifs,0⟩] pos) newDict (firstAsync [⟨tg,iter,ifs,0⟩]) (firstIter [⟨tg,iter,ifs,0⟩] X.env) from rfl]
 refine wpAny_comprehension_free (use:=none) (cl:=cl) rfl hs ok.clos ok.kind ok.names (thn (hi pins s σ H _ I h) fun v s1 h1=>thn h1 fun itv s2 h2=>?_)
 obtain⟨it,fp,tn,J,H2,e,I2,Tn,st2,f2,q⟩:=h2
 subst e
 have q:=q s2.heap.objs.size (I2.hok.fresh (Nat.le_refl _))
 refine wpAny_newObj_type ?_
 -- the new list,tracked
 have I3:Inv X pins σ (upd H2 s2.heap.objs.size (.dK [])) { s2 with heap:=s2.heap.push { cls:=.type "dict",data:=.dict #[] } }:=
  I2.laid (t':=s2.toks) (fun b u e=>Heap.get?_push_of_some _ e) (Nat.le_refl _) (O0 _ I2.big)
 generalize hH3:upd H2 s2.heap.objs.size (.dK [])=H3 at I3 q
 generalize hs3:({ s2 with heap:=s2.heap.push { cls:=.type "dict",data:=.dict #[] } }:Shared)=s3 at I3
 have fpl:∀b∈fp,b<s2.heap.objs.size:=fun b hb=>let ⟨o,e,_⟩:=Tn.obj 0 _ st2 b hb;Heap.lt_size e
 have sz3:s2.heap.objs.size≤s3.heap.objs.size:=by rw[←hs3];show _≤(s2.heap.push _).objs.size;rw[Heap.size_push];exact Nat.le_succ _
 have fok:∀b∈fp,Eb X pins H3 b:=fun b hb=>⟨by rw[←hH3,Am (Nat.ne_of_lt (fpl b hb))];exact(f2 b hb).1,(f2 b hb).2⟩
 have k23:∀b o,s2.heap.get? b=some o→s3.heap.get? b=some o:=fun b o e=>by rw[←hs3];exact Heap.get?_push_of_some _ e
 have st3:tn 0 s3.heap:=Tn.keep _ _ _ st2 fun b _ o e=>k23 b o e
 refine Iw ok.kind (fun h4 hns4 k34 okc=>?_)
 have oldc:∀x c,cl.lookup x=some c→c<s3.heap.objs.size:=fun x c e=>by
  obtain⟨v,o,ho,_⟩:=I3.cell x c (ok.sub x c e).1
  exact Heap.lt_size ho
 have hc1:=Mv (h':=h4) ok okc oldc
 have hc2:=Mu (h':=h4) ok okc oldc
 have I4:Inv (Aj X scope cl T M s3 H3 fp) [] (Pr T σ) H3 { s3 with heap:=h4 }:=
  Gs ok I3 (fun b hb=>⟨fok b hb,Nat.lt_of_lt_of_le (fpl b hb) sz3⟩) hns4 k34 rfl rfl hc1 hc2
 have st4:tn 0 h4:=Tn.keep _ _ _ st3 fun b _ o e=>k34 b o e
 obtain⟨W,⟨m0,w0⟩,turn⟩:=q
 have cfpc:∀b∈fp,∀x c,(Ba scope cl s3.heap.objs.size).lookup x=some c→c≠b:=fun b hb x c e=>by
  rcases Ct ok s3.heap.objs.size x c e with ⟨_,a2⟩|⟨a1,_⟩
  ·exact Nat.ne_of_gt (Nat.lt_of_lt_of_le (Nat.lt_of_lt_of_le (fpl b hb) sz3) (Nat.le_of_succ_le a2))
  ·exact(fok b hb).2.2.2.2.1 x c (ok.sub x c a1).1
 have cfp:∀{H':Hp},(∀b∈fp,H' b=none)→∀b∈fp,Eb (Aj X scope cl T M s3 H3 fp) [] H' b:=fun hn b hb=>by
  refine⟨hn b hb,Nat.ne_of_lt (Nat.lt_of_lt_of_le (fpl b hb) sz3),fun z=>?_,.inl hb,fun x c e=>cfpc b hb x c e,fun p hp=>absurd (show p∈([]:List (Addr×Obj)) from hp) (by simp)⟩
  rcases List.mem_cons.mp (I3.stkSub b z) with e|e
  ·exact(fok b hb).2.1 e
  ·exact(fok b hb).2.2.1 e
 have fin:∀(σ':St) (H':Hp) (s':Shared),Inv (Aj X scope cl T M s3 H3 fp) [] σ' H' s'→Q (.ref s2.heap.objs.size) H'→compPost (model X.prog X.w) X.A X.xe none (EP X pins σ Q) (.ref s2.heap.objs.size) s3.heap.objs.size (.ok .next) s':=fun σ' H' s' J q=>by
  obtain⟨m',hm',_⟩:=J.loc
  refine⟨m',hm',fun h' hs'=>?_⟩
  have J0:Inv X pins σ H' s':=I3.call' (ch:=fp) J.os J.base J.hok J.bare fun b hb=>⟨(fok b hb).2.2.2.1,(fok b hb).2.1,(fok b hb).2.2.2.2.1,(fok b hb).2.2.2.2.2⟩
  have nC:=I3.fpOk (H':=H') (Nat.le_refl s3.heap.objs.size) J.free
  exact⟨.ref s2.heap.objs.size,H',J0.turned (t':=s'.toks) (fun b o hb e=>(hs'.2 b hb).trans e) nC.1 nC.2.1 nC.2.2.2.1 nC.2.2.2.2.1 nC.2.2.2.2.2,rfl,q⟩
 have loop:∀s5:Shared,s5={ s3 with heap:=h4 }→
   codeAny (model X.prog X.w) X.A (.compLoop (.DictComp kx vx [⟨tg,iter,ifs,0⟩] scope pos) 0 (.ref it) (.ref s2.heap.objs.size) (compEnvC scope (Ba scope cl s3.heap.objs.size) s3.heap.objs.size X.env))
    (compPost (model X.prog X.w) X.A X.xe none (EP X pins σ Q) (.ref s2.heap.objs.size) s3.heap.objs.size) s5:=by
  rintro s5 rfl
  refine Pg (fun k s'=>∃i σ' H',Inv (Aj X scope cl T M s3 H3 fp) [] σ' H' s'∧tn i s'.heap∧(∀b∈fp,H' b=none)∧W i k σ' H') ?_ m0 ⟨0,Pr T σ,H3,I4,st4,fun b hb=>(fok b hb).1,w0⟩
  rintro k s6 ⟨i,σ6,H6,I6,st6,fr6,w6⟩
  rcases turn i k σ6 H6 w6 with ⟨stop,qn⟩|⟨go,N,hN,step⟩
  ·refine wpAny_mono (Tn.done (Aj X scope cl T M s3 H3 fp) rfl rfl rfl hc i [] s6 _ H6 (fun _ _=>False) I6 (cfp fr6) st6 stop) (fun r s7 ⟨hr,I7⟩=>?_) fun _ _ z=>z.elim
   subst hr
   exact fin _ H6 s7 I7 qn
  ·refine wpAny_mono (Tn.item (Aj X scope cl T M s3 H3 fp) rfl rfl rfl hc i [] s6 _ H6 (fun _ _=>False) I6 (cfp fr6) st6 go) (fun r s7 ⟨u,hr,h7⟩=>?_) fun _ _ z=>z.elim
   subst hr
   show U9 _ _ _ _ _ _ _ _ _ _ _ _ _ _;unfold U9
   refine wpAny_mono h7 (fun _ s8 h8=>?_) fun _ _ z=>z.elim
   obtain⟨x7,H7,I7,r7,y7,st7,fr7⟩:=h8
   have I7':=I7.pinned (cfp fr7) (Tn.obj _ _ st7)
   have back:∀{σ8:St} {H8:Hp} {s9:Shared},Inv (Aj X scope cl T M s3 H3 fp) ([]++Dm fp s8.heap) σ8 H8 s9→tn (i+1) s9.heap∧∀b∈fp,H8 b=none:=fun {σ8 H8 s9} I8=>by
    refine⟨Tn.keep _ _ _ st7 fun b hb o e=>(I8.pin (b,o) (List.mem_append_right _ (List.mem_append_right _ (B1 hb e)))).1,fun b hb=>?_⟩
    obtain⟨o,e,d⟩:=Tn.obj _ _ st7 b hb
    exact(I8.pin (b,o) (List.mem_append_right _ (List.mem_append_right _ (B1 hb e)))).2.1
   have again:∀{σ9:St} {H9:Hp} {s9:Shared},Inv (Aj X scope cl T M s3 H3 fp) ([]++Dm fp s8.heap) σ9 H9 s9→N σ9 H9→
     ∃m,m<k∧∃i σ' H',Inv (Aj X scope cl T M s3 H3 fp) [] σ' H' s9∧tn i s9.heap∧(∀b∈fp,H' b=none)∧W i m σ' H':=fun {σ9 H9 s9} I9 n9=>by
    obtain⟨m',hm,w9⟩:=hN σ9 H9 n9
    obtain⟨b1,b2⟩:=back I9
    exact⟨m',hm,i+1,σ9,H9,I9.unpinned,b1,b2,w9⟩
   refine wpAny_mono (hg s3 H3 fp _ s8 σ6 H7 x7 u _ I7' r7 (step x7 H7 y7)) (fun _ s9 ⟨σ9,H9,I9,q9⟩=>?_) fun _ _ z=>z.elim
   refine wpAny_mono (hf s3 H3 fp _ s9 σ9 H9 _ I9 q9) (fun okb s10 ⟨H10,I10,q10⟩=>?_) fun _ _ z=>z.elim
   cases okb with
   |false=>
    rw[if_neg Bool.false_ne_true] at q10 ⊢
    exact again I10 q10
   |true=>
    rw[if_pos rfl] at q10 ⊢
    refine wpAny_mono (hk s3 H3 fp _ s10 σ9 H10 _ I10 q10) (fun y s11 ⟨yv,H11,I11,ry,q11⟩=>?_) fun _ _ z=>z.elim
    refine wpAny_mono (hv s3 H3 fp _ s11 σ9 H11 _ I11 q11) (fun z s12 ⟨zv,H12,I12,rz,kvs,k,ek,e12,l12,n12⟩=>?_) fun _ _ z=>z.elim
    subst ek
    exact Tx (X:=Aj X scope cl T M s3 H3 fp) I12 e12 l12 ry rz fun s13 I13=>again I13 n12
 exact codeAny_compStart_dict (loop _ rfl) (Tn.self _ 0 _ _ _ st4 (loop _ rfl))


end D3
namespace D3
open PySem PySem.Spec
open PyProof.Rows hiding St
open L2 hiding St
section
variable{κ:Type}[DecidableEq κ]
def D9(kvs:List (κ×D))(k:κ):Option D:=(kvs.find? fun kv=>decide (kv.1=k)).map (·.2)
def Pq(kvs:List (κ×D))(k:κ)(d:D):List (κ×D):=if (kvs.any fun kv=>decide (kv.1=k))=true then kvs.map (fun kv=>if kv.1=k then (kv.1,d) else kv) else kvs++[(k,d)]
abbrev Ent(κ:Type)(K:PySem.W.Frag)(H:Hp):κ×D→κ×V→Prop:=fun p q=>p.1=q.1∧DV K H p.2 q.2
variable{K:W.Frag}{H:Hp}
theorem R0{k:κ}:∀{kvs:List (κ×D)} {ks:List (κ×V)},Paired (Ent κ K H) kvs ks→(D9 kvs k=none∧Dp ks k=none)∨∃d v,D9 kvs k=some d∧Dp ks k=some v∧DV K H d v
 |_,_,.nil=>.inl ⟨rfl,rfl⟩
 |(a,x)::r,_,.cons (b:=(b,y)) h t=>by
  obtain⟨e,hv⟩:=h
  cases(show a=b from e)
  by_cases ha:a=k
  ·exact .inr ⟨x,y,by simp[D9,ha],by simp[Dp,ha],hv⟩
  ·have e1:D9 ((a,x)::r) k=D9 r k:=by simp[D9,List.find?_cons,ha]
   have e2:∀z,Dp ((a,y)::z) k=Dp z k:=fun z=>by simp[Dp,List.find?_cons,ha]
   rw[e1,e2]
   exact R0 t
theorem R9{k:κ}:∀{kvs:List (κ×D)} {ks:List (κ×V)},Paired (Ent κ K H) kvs ks→(kvs.any fun kv=>decide (kv.1=k))=(ks.any fun kv=>decide (kv.1=k))
 |_,_,.nil=>rfl
 |(a,x)::r,_,.cons (b:=(b,y)) h t=>by
  cases(show a=b from h.1)
  rw[List.any_cons,List.any_cons,R9 t]
theorem R6{k:κ}{d:D}{v:V}(hd:DV K H d v):∀{kvs:List (κ×D)} {ks:List (κ×V)},Paired (Ent κ K H) kvs ks→Paired (Ent κ K H) (kvs.map (fun kv=>if kv.1=k then (kv.1,d) else kv)) (ks.map (fun kv=>if kv.1=k then (kv.1,v) else kv))
 |_,_,.nil=>.nil
 |(a,x)::r,_,.cons (b:=(b,y)) h t=>by
  obtain⟨e,hv⟩:=h
  cases(show a=b from e)
  rw[List.map_cons,List.map_cons]
  refine .cons ?_ (R6 hd t)
  show Ent κ K H (if a=k then (a,d) else (a,x)) (if a=k then (a,v) else (a,y))
  by_cases ha:a=k
  ·rw[if_pos ha,if_pos ha];exact⟨rfl,hd⟩
  ·rw[if_neg ha,if_neg ha];exact⟨rfl,hv⟩
theorem Ow{p:κ×D}{q:κ×V}(h:Ent κ K H p q):∀{kvs:List (κ×D)} {ks:List (κ×V)},Paired (Ent κ K H) kvs ks→Paired (Ent κ K H) (kvs++[p]) (ks++[q])
 |_,_,.nil=>.cons h .nil
 |_::_,_,.cons h' t=>.cons h' (Ow h t)
theorem R5{k:κ}{d:D}{v:V}(hd:DV K H d v){kvs:List (κ×D)}{ks:List (κ×V)}(r:Paired (Ent κ K H) kvs ks):Paired (Ent κ K H) (Pq kvs k d) (D2 ks k v):=by
 unfold Pq D2
 rw[R9 r]
 split
 ·exact R6 hd r
 ·exact Ow ⟨rfl,hd⟩ r
theorem R7{kvs:List (κ×D)}{ks:List (κ×V)}(r:Paired (Ent κ K H) kvs ks):kvs.length=ks.length:=W6 r
end
theorem RelG.dkN{K:W.Frag}{H:Hp}{G:Gp}(r:RelG K H G){p:Addr}(hp:H p=none):RelG K (upd H p (.dK [])) (Ac G p (.dkk [])):=by
 intro a o ea
 by_cases ha:a=p
 ·subst ha
  rw[Aa] at ea
  cases ea
  exact⟨[],Ar,.nil⟩
 ·rw[Af ha] at ea
  exact(r a o ea).upd (Ext.fresh hp) (.inl hp)
theorem Ii{H:Hp}{p:Addr}{ks:List (Key×V)}{u:HO}(e:H p=some (.dK ks)):Ext H (upd H p u):=Ext.write e (fun xs z=>by cases z) (fun ob w z=>by cases z)
theorem RelG.dkW{K:W.Frag}{H:Hp}{G:Gp}(r:RelG K H G){p:Addr}{ks ks':List (Key×V)}{kvs':List (Key×D)}(e:H p=some (.dK ks))(pr:Paired (Ent Key K H) kvs' ks'):RelG K (upd H p (.dK ks')) (Ac G p (.dkk kvs')):=by
 have x:Ext H (upd H p (.dK ks')):=Ii e
 intro a o ea
 by_cases ha:a=p
 ·subst ha
  rw[Aa] at ea
  cases ea
  exact⟨ks',Ar,L2.Paired.mapP pr fun _ _ z=>⟨z.1,z.2.ext x⟩⟩
 ·rw[Af ha] at ea
  exact(r a o ea).upd x (.inr ha)
def Kh:D→Option Key
 |.int i=>some (.inl i)
 |.str x=>some (.inr x)
 |_=>none
theorem Mp{K:W.Frag}{H:Hp}{d:D}{v:V}{k:Key}(e:Kh d=some k)(dv:DV K H d v):v=kV k:=by
 cases d<;>simp only[Kh,Option.some.injEq,reduceCtorEq] at e
 ·subst e;cases dv;rfl
 ·subst e;cases dv;rfl

def U8(n:Nat)(p:Addr)(ds:List D)(same:Gp→Prop)(g:DTG)(tf:DTT)(tk tv:DTE)(σ:DSt)(G:Gp)(Q:DK):Prop:=∃P:Nat→List (Key×D)→Gp→Prop,P 0 [] G∧(∀i kvs G,i≤ds.length→P i kvs G→same G∧G p=some (.dkk kvs))∧
 (∀i x kvs G,ds[i]? = some x→P i kvs G→g x (List.replicate n none++σ) G fun σ2 G2=>Q9 n σ σ2∧tf σ2 G2 fun b G3=>if b=true then tk σ2 G3 fun y G4=>tv σ2 G4 fun z G5=>∃k,Kh y=some k∧G5 p=some (.dkk kvs)∧kvs.length<sizeLine∧Fg (P (i+1) (Pq kvs k z)) (Ac G5 p (.dkk (Pq kvs k z))) else Fg (P (i+1) kvs) G3)∧
 ∀kvs G,P ds.length kvs G→Q (.ref p) G
theorem Qt{K:W.Frag}{J:It}{n:Nat}{p:Addr}{ds:List D}{same:Gp→Prop}{g:DTG}{tf:DTT}{tk tv:DTE}{Q:DK}{QV:VK}{σD:DSt}{σ:St}{G:Gp}{H:Hp}(rs:RelS K H σD σ)(rg:RelG K H G)(hp:H p=none)(cl:∀d G',Q d G'→Fwd K H G' fun H'=>∀v,DV K H' d v→QV v H')(hJ:∀H' G',Ext H H'→RelG K H' G'→same G'→ItemsX K J H' ds)(h:U8 n p ds same g tf tk tv σD (Ac G p (.dkk [])) Q) :
  ∃W:Nat→Nat→St→Hp→Prop,(∃m,W 0 m (List.replicate n none++σ) (upd H p (.dK [])))∧∀i m σ1 H,W i m σ1 H→
   ((J.stop i H∧QV (.ref p) H)∨(J.go i H∧∃N:St→Hp→Prop,(∀σ' H',N σ' H'→∃m',m'<m∧W (i+1) m' σ' H')∧
    ∀x H',J.yld i H x H'→Di K g x σ1 H' fun σ2 H2=>Ds K tf σ2 H2 fun b H3=>if b=true then By K tk σ2 H3 fun y H4=>By K tv σ2 H4 fun z H5=>∃kvs k,y=kV k∧H5 p=some (.dK kvs)∧kvs.length<sizeLine∧N σ2 (upd H5 p (.dK (D2 kvs k z))) else N σ2 H3)):=by
 obtain⟨P,p0,keep,step,fin⟩:=h
 refine⟨fun i m σ' H'=>m=ds.length-i∧i≤ds.length∧RelS K H' (List.replicate n none++σD) σ'∧∃yd G',RelG K H' G'∧Ext H H'∧P i yd G',
  ⟨ds.length,rfl,Nat.zero_le _,(Rq n rs).ext (Ext.fresh hp),[],_,rg.dkN hp,Ext.fresh hp,p0⟩,?_⟩
 rintro i m σ1 H1 ⟨rfl,hi,rs1,yd,G1,rg1,x1,p1⟩
 obtain⟨sm,gp⟩:=keep i yd G1 hi p1
 have I:=hJ H1 G1 x1 rg1 sm
 by_cases hlt:i<ds.length
 ·refine .inr ⟨I.go i hlt,fun σ' H'=>RelS K H' (List.replicate n none++σD) σ'∧∃yd' G',RelG K H' G'∧Ext H H'∧P (i+1) yd' G',fun σ' H' ⟨a2,yd',G',a3,a4,a5⟩=>⟨ds.length-(i+1),by omega,rfl,hlt,a2,yd',G',a3,a4,a5⟩,fun x H' y=>?_⟩
  obtain⟨xe,rge,d,ed,dv⟩:=I.yl i x H' hlt y
  refine⟨d,_,G1,_,dv,rs1.ext xe,rge _ rg1,step i d yd G1 ed p1,fun σ2 G2 ⟨⟨pre,hpre,e2⟩,st2⟩ H2 x2 rg2 σ' rs2=>?_⟩
  have back:∀{H5:Hp} {σ5:St},RelS K H5 σ2 σ5→RelS K H5 (List.replicate n none++σD) σ5:=fun {H5 σ5} r=>by
   refine⟨by rw[←r.1,e2,List.length_append,List.length_append,List.length_replicate,hpre],fun j d e=>?_⟩
   refine r.2 j d ?_
   by_cases hj:j<n
   ·rw[List.getElem?_append_left (by simpa using hj),List.getElem?_replicate,if_pos hj] at e
    cases e
   ·rw[List.getElem?_append_right (by simpa using hj),List.length_replicate] at e
    rw[e2,List.getElem?_append_right (by omega),hpre];exact e
  refine⟨σ2,G2,_,rs2,rg2,st2,fun b G3 h3 H3 x3 rg3=>?_⟩
  have x13:=x1.trans (xe.trans (x2.trans x3))
  dsimp only at h3 ⊢
  cases b with
  |false=>
   rw[if_neg Bool.false_ne_true] at h3 ⊢
   obtain⟨G4,sb,p4⟩:=h3
   exact⟨back (rs2.ext x3),yd,G4,rg3.ext' sb,x13,p4⟩
  |true=>
   rw[if_pos rfl] at h3 ⊢
   refine⟨_,G3,_,rs2.ext x3,rg3,h3,fun y4 G4 h4 H4 x4 rg4 v4 d4=>?_⟩
   refine⟨_,G4,_,rs2.ext (x3.trans x4),rg4,h4,fun z G5 ⟨k,ek,e5,l5,G6,sb,p6⟩ H5 x5 rg5 v5 d5=>?_⟩
   obtain⟨xs,ex,r⟩:=rg5 p _ e5
   exact⟨xs,k,Mp ek d4,ex,by rw[←R7 r];exact l5,back ((rs2.ext (x3.trans (x4.trans x5))).ext (Ii ex)),_,G6,(rg5.dkW ex (R5 d5 r)).ext' sb,(x13.trans (x4.trans x5)).trans (Ii ex),p6⟩
 ·have e:i=ds.length:=by omega
  subst e
  exact .inl ⟨I.st,cl _ G1 (fin yd G1 p1) H1 x1 rg1 _ (.ref p)⟩
section
variable{X:Cx}{kx vx iter tg:Expr}{ifs:List Expr}{scope:Scope}{pos:Pos}{ti tk tv:DTE}{tf:DTT}{g:DTG}{T M:List Str}
def Ma(n:Nat)(ti:DTE)(g:DTG)(tf:DTT)(tk tv:DTE):DTE:=fun σ G Q=>ti σ G fun d G1=>∃ds,Aq G1 d=some ds∧∀p,G1 p=none→U8 n p ds (fun G'=>Aq G' d=some ds) g tf tk tv σ (Ac G1 p (.dkk [])) Q
theorem q_dcomp(hc:X.calm=true)(ok:CompOz X scope (Bz X.env.cells scope.names []) T M)(hi:QE X iter ti)(hg:QGz X scope T M tg g)(hf:QFz X scope T M ifs tf)(hk:QEz X scope T M kx tk)(hv:QEz X scope T M vx tv)(hs:∀x,foldedSetIterable iter X.env x=pure x:=by intro _;rfl):QE X (.DictComp kx vx [⟨tg,iter,ifs,0⟩] scope pos) (Ma T.length ti g tf tk tv):=
 (Tb (g:=Di X.K g) (tf:=Ds X.K tf) (tk:=By X.K tk) (tv:=By X.K tv) hc ok (L9 hi) hg hf hk hv hs).imp fun σ H Q ⟨σD,G,Q',rs,rg,h,cl⟩=>by
 refine⟨σD,G,_,rs,rg,h,fun d G1 ⟨ds,ei,L⟩ H1 x1 rg1 v dv=>?_⟩
 obtain⟨a,rfl⟩:=F1 ei dv
 refine⟨a,rfl,?_⟩
 have lp:=fun p hp=>Qt (J:=jOf X.K d a) (rs.ext x1) rg1 hp (fun d' G' q=>(cl d' G' q).go x1) (fun H' G' x' rg' s'=>Dz (Ej rg' s' (dv.ext x'))) (L p (rg1.free hp))
 cases dv with
 |tup e r=>exact .inr ⟨⟨_,.inl (.inl e)⟩,lp⟩
 |lint e=>exact .inl ⟨⟨_,e.sq⟩,lp⟩
 |ref=>
  simp only[Aq] at ei
  split at ei
  ·rename_i ds' q
   obtain⟨xs,e,r⟩:=rg1 a _ q
   exact .inl ⟨⟨_,.inl (.inl e)⟩,lp⟩
  ·cases ei
end
end D3
namespace D3
open PySem PySem.Spec
open PyProof.Rows hiding St
open L2 hiding St
def KDict(P:Program)(w:World)(K:PySem.W.Frag)(a:Addr)(kvs:List (Key×V)):Prop:=(a == sysModules)=false∧∃o vs,K.lookup a=some o∧KV kvs vs∧o.IsDictOf (A4 P w) vs
def DRd(P:Program)(w:World)(h:Heap)(a:Addr)(kvs:List (Key×V)):Prop:=(a == sysModules)=false∧∃vs,KV kvs vs∧h.DictOf (A4 P w) a vs
def RdK(P:Program)(w:World)(K:PySem.W.Frag)(H:Hp)(a:Addr)(kvs:List (Key×V)):Prop:=H a=some (.dK kvs)∨KDict P w K a kvs
section
variable{X:Cx}{pins:List (Addr×Obj)}{σ:St}{H:Hp}{s:Shared}{a:Addr}{k:Key}{v:V}{kvs:List (Key×V)}{u:Value}{A:Around}{E:Value→Shared→Prop}
theorem RdK.rd(h:RdK X.prog X.w X.K H a kvs)(I:Inv X pins σ H s):DRd X.prog X.w s.heap a kvs:=by
 rcases h with h|⟨h1,o,vs,h2,h3,h4⟩
 ·obtain⟨_,hd,vs,rel,dd⟩:=Hb I.hok h
  exact⟨hd,vs,rel,dd⟩
 ·exact⟨h1,vs,h3,Heap.dictOf_iff.mpr ⟨o,I.kIn _ _ h2,h4⟩⟩
theorem Ado{Q:Value→Shared→Prop}(g:DRd X.prog X.w s.heap a kvs)(I:Inv X pins σ H s)(l:Dp kvs k=some v)(ry:RelV (kV k) u)(h:∀w' s',Inv X pins σ H s'→RelV v w'→Q w' s'):wpAny (model X.prog X.w) A (getItem (.ref a) u) Q E s:=by
 obtain⟨hd,vs,rel,dd⟩:=g
 obtain⟨w',hw,rw'⟩:=RelO.some_of (v:=v) (o:=valueAt vs k) (by rw[←l];exact rel.val k)
 exact wpAny_getItem_of (Nx ry) dd.mapOf hw (h w' _ (I.tok _) rw')
end
section
variable{X:Cx}
def tKGet(P:Program)(w:World)(K:PySem.W.Frag)(td ty:TE):TE:=fun σ H Q=>td σ H fun x H1=>ty σ H1 fun y H2=>∃a kvs k v,x=.ref a∧RdK P w K H2 a kvs∧y=kV k∧Dp kvs k=some v∧Q v H2
theorem Zy{o i:Expr}{td ty:TE}{pos:Pos}(ho:PE X o td)(hi:PE X i ty)(hs:NoSl i):PE X (.Subscript o i pos) (tKGet X.prog X.w X.K td ty):=by
 intro pins s σ H Q I h
 refine Y4 PySem.F.slot_dict_getitem.lookup hs (thn (ho pins s σ H _ I h) fun u s1 ⟨x,H1,I1,rx,q1⟩=>thn (hi pins s1 σ H1 _ I1 q1) fun iv s2 ⟨y,H2,I2,ry,a,kvs,k,v,ex,g,ek,ev,q2⟩=>?_)
 subst ex ek
 obtain rfl:u=Value.ref a:=rx
 have g:=g.rd I2
 exact⟨let ⟨_,_,_,dd⟩:=g;dd.typeIs,Ado g I2 ev ry fun w' s3 I3 rw'=>⟨v,H2,I3,rw',q2⟩⟩
end
section
variable{X:Cx}{e i o:Expr}{te ti td:DTE}{pos pos':Pos}{a:Addr}{kvs:List (Key×D)}
def Nu(td ty:DTE):DTE:=fun σ G Q=>td σ G fun x G1=>ty σ G1 fun y G2=>∃p,x=.ref p∧∃kvs,G2 p=some (.dkk kvs)∧∃k,Kh y=some k∧∃d,D9 kvs k=some d∧Q d G2
theorem Ig(ho:QE X o td)(hi:QE X i ti)(hs:NoSl i:=by intro _ _;rfl):QE X (.Subscript o i pos) (Nu td ti):=(Zy ho hi hs).imp fun σ H Q ⟨σD,G,Q',rs,rg,h,cl⟩=>by
 refine⟨σD,G,_,rs,rg,h,fun x G1 h1 H1 x1 rg1 v dv=>?_⟩
 refine⟨σD,G1,_,rs.ext x1,rg1,h1,fun y G2 ⟨p,ep,kvs,eg,k,ek,d,ed,q⟩ H2 x2 rg2 v2 dv2=>?_⟩
 subst ep
 cases dv
 obtain⟨ks,eh,r⟩:=rg2 p _ eg
 rcases R0 (k:=k) r with ⟨e1,e2⟩|⟨d',w,e1,e2,dw⟩
 ·rw[ed] at e1;cases e1
 ·rw[ed] at e1;cases e1
  exact⟨p,ks,k,w,rfl,.inl eh,Mp ek dv2,e2,cl _ _ q H2 (x1.trans x2) rg2 _ dw⟩
end
end D3
namespace D3
open PySem PySem.Spec
open PyProof.Rows hiding St
open L2 hiding St
abbrev Hh:HO:=.ext fun _=>True
theorem Aa6{P:Program}{w:World}{H:Hp}{h:Heap}{a:Addr}{o:Obj}(e:h.get? a=some o):ObjOk P w H h a (.frz o Hh):=⟨e,True.intro,⟨o,e⟩,fun _ _ _ _=>True.intro⟩
section
variable{X:Cx}{pins:List (Addr×Obj)}{σ:List (Option V)}{H:Hp}{s:Shared}{h':Heap}
end
end D3
namespace D3
open PySem PySem.Spec
open PyProof.Rows hiding St
open L2 hiding St
section
variable{X:Cx}
theorem Ext.tbl{H:Hp}{p:Addr}{ps:Array Value}{u:HO}(e:H p=some (.tbl ps)):Ext H (upd H p u):=Ext.write e (fun xs z=>by cases z) (fun ob w z=>by cases z)
end
end D3
namespace D3
open PySem PySem.Spec
open PyProof.Rows hiding St
open L2 hiding St
end D3
namespace D3
open PySem PySem.Spec
open PyProof.Rows hiding St
open L2 hiding St
end D3
namespace D3
open PySem PySem.Spec
open PyProof.Rows hiding St
open L2 hiding St
section
variable{P:Program}{w:World}{A:Around}{E:Value→Shared→Prop}{s:Shared}
end
end D3
namespace D3
open PySem PySem.Spec
open PyProof.Rows hiding St
open L2 hiding St
open PySem.W (KdlSrc kdl_extend kdl_values)
section
variable{P:Program}{w:World}{A:Around}{E:Value→Shared→Prop}{s:Shared}
end
end D3
namespace D3
open PySem PySem.Spec
open PyProof.Rows hiding St
open L2 hiding St
open PySem.W (KdlSrc kdl_extend kdl_values)
abbrev Us(d:Addr):Obj:={ cls:=.type "dict_values",data:=.fields #[.ref d] }
abbrev Da(d:Addr):Obj:={ cls:=.type "dict_items",data:=.fields #[.ref d] }
section
variable{X:Cx}{o e:Expr}{to:TE}{apos cpos pos p:Pos}
def Uu(mk:Addr→Obj)(to:TE):TE:=fun σ H Q=>to σ H fun x H1=>∃a kvs,x=.ref a∧H1 a=some (.dK kvs)∧∀v,H1 v=none→Q (.ref v) (upd H1 v (.frz (mk a) Hh))
theorem Ta(ho:PE X o to)(hbase:attributeBase o "values" X.env (eval o X.env)=eval o X.env)(hline:(apos.endLine == cpos.line)=true):PE X (.Call (.Attribute o "values" apos) [] [] cpos) (Uu Us to):=by
 intro pins s σ H Q I h
 refine wpAny_Call_method0_late hbase hline (thn (ho pins s σ H _ I h) fun u s1 ⟨x,H1,I1,rx,a,kvs,ex,eh,q⟩=>?_)
 subst ex
 obtain rfl:u=Value.ref a:=rx
 obtain⟨t1,t2,t3⟩:=Vy I1 (.inl ⟨kvs,.inl eh⟩)
 obtain⟨_,_,vs,_,dd⟩:=Hb I1.hok eh
 refine⟨"dict", "dict.values",PySem.F.plainAttrs_dict,PySem.F.slot_dict_values,PySem.F.type_dict_values,t1,t2,Calls.callWith_builtin rfl (PySem.evalArgs_none ?_)⟩
 refine call_meetsIn PySem.F.slot_dict_values t1 PySem.F.entry_dict_values (PySem.F.args_dict_values_1 _) (meets_dict_values (A4 X.prog X.w) a t3) ⟨⟨vs,dd⟩,?_⟩
 exact⟨.ref s1.heap.objs.size,_,I1.laid (t':=s1.toks) (o:=.frz (Us a) Hh) (fun b u e=>Heap.get?_push_of_some _ e) (Nat.le_refl _) (Aa6 (Heap.get?_push_size _ rfl)),rfl,q _ (I1.hok.fresh (Nat.le_refl _))⟩
theorem W3(ho:PE X o to)(hbase:attributeBase o "items" X.env (eval o X.env)=eval o X.env)(hline:(apos.endLine == cpos.line)=true):PE X (.Call (.Attribute o "items" apos) [] [] cpos) (Uu Da to):=by
 intro pins s σ H Q I h
 refine wpAny_Call_method0_late hbase hline (thn (ho pins s σ H _ I h) fun u s1 ⟨x,H1,I1,rx,a,kvs,ex,eh,q⟩=>?_)
 subst ex
 obtain rfl:u=Value.ref a:=rx
 obtain⟨t1,t2,t3⟩:=Vy I1 (.inl ⟨kvs,.inl eh⟩)
 obtain⟨_,_,vs,_,dd⟩:=Hb I1.hok eh
 refine⟨"dict", "dict.items",PySem.F.plainAttrs_dict,PySem.F.slot_dict_items,PySem.F.type_dict_items,t1,t2,Calls.callWith_builtin rfl (PySem.evalArgs_none ?_)⟩
 refine call_meetsIn PySem.F.slot_dict_items t1 PySem.F.entry_dict_items (PySem.F.args_dict_items_1 _) (meets_dict_items (A4 X.prog X.w) a t3) ⟨⟨vs,dd⟩,?_⟩
 exact⟨.ref s1.heap.objs.size,_,I1.laid (t':=s1.toks) (o:=.frz (Da a) Hh) (fun b u e=>Heap.get?_push_of_some _ e) (Nat.le_refl _) (Aa6 (Heap.get?_push_size _ rfl)),rfl,q _ (I1.hok.fresh (Nat.le_refl _))⟩
end
end D3
namespace D3
open PySem PySem.Spec
open PyProof.Rows hiding St
open L2 hiding St
section
variable{X:Cx}{o:Expr}{to:DTE}{apos cpos pos p:Pos}
end
end D3
namespace D3
open PySem PySem.Spec
open PyProof.Rows hiding St
open L2 hiding St
section
variable{X:Cx}{pins:List (Addr×Obj)}{σ:List (Option V)}{H:Hp}{s:Shared}
theorem Inv.freeze{a:Addr}{ks:List (Key×V)}{o:Obj}(I:Inv X pins σ H s)(e:H a=some (.dK ks))(ho:s.heap.get? a=some o):Inv X pins σ (upd H a (.frz o (.dK ks))) s:=by
 have na:∀b,H b=none→b≠a:=fun b n z=>by rw[z,e] at n;cases n
 have z:({ s with heap:=s.heap,toks:=s.toks }:Shared)=s:=rfl
 rw[←z]
 refine I.un (t':=s.toks) ⟨fun b o' q n _ _=>q,fun b o' q n _ _=>⟨o'.slots,q⟩,fun b o' q n _=>by rw[Am (na b n)];exact n,fun b o' q _=>⟨o',q⟩,fun b xs q=>?_,fun b o' u q=>?_,fun b ps q=>⟨#[],?_⟩⟩ fun b u q=>?_
 ·rw[Am (Ha q e (fun z=>by cases z))];exact q
 ·rw[Am (Ha q e (fun z=>by cases z))];exact q
 ·rw[Am (Ha q e (fun z=>by cases z)),q];simp
 ·have tp:∀c xs,H c=some (.tup xs)→(upd H a (.frz o (.dK ks))) c=some (.tup xs):=fun c xs r=>by rw[Am (Ha r e (fun z=>by cases z))];exact r
  have ow:∀c x,H c=some (.own x)→(upd H a (.frz o (.dK ks))) c=some (.own x):=fun c x r=>by rw[Am (Ha r e (fun z=>by cases z))];exact r
  by_cases hb:b=a
  ·subst hb
   rw[Ar] at q;cases q
   exact⟨ho,(I.hok b _ e).stay (fun _ _ _ r=>r) (fun c r=>ow c b r) tp⟩
  ·rw[Am hb] at q
   exact(I.hok b u q).stay (fun _ _ _ r=>r) (fun c r=>ow c b r) tp
end
theorem Ks:entryFor table "dict_itemiterator.__iter__" = some Builtin.«dict_keyiterator.__iter__»:=entryFor_alias (id':="dict_keyiterator.__iter__") (by kernel_rfl) rfl (by decide +kernel) (by kernel_rfl)
theorem Aau{P:Program}{w:World}{A:Around}{E:Value→Shared→Prop}{s:Shared}{it d:Addr}{i n ep:Nat}{ok ov:Value}{Q:Value→Shared→Prop}(hit:IsItemIter s.heap it d i n ep ok ov)(h:Q (.ref it) s):wpAny (model P w) A (pyIter (.ref it)) Q E s:=by
 have ty:s.TypeIs (.ref it) "dict_itemiterator":=⟨_,hit,rfl⟩
 refine wpAny_pyIter_slot ty PySem.F.slot_dict_itemiterator_iter (wpAny_call_entry PySem.F.slot_dict_itemiterator_iter ty Ks ?_ (PySem.F.args_dict_itemiterator_iter_1 _))
 exact wpAny_pure ⟨_,rfl, "dict_itemiterator",_,ty,PySem.F.slot_dict_itemiterator_next.lookup,h⟩
section
variable{X:Cx}{elt o tg:Expr}{ifs:List Expr}{scope:Scope}{pos apos cpos:Pos}{to:DTE}{T M:List Str}
def Ge(G:Gp)(a:Addr):Gp:=fun b=>if b=a then none else G b
end
end D3
namespace D3
open PySem PySem.Spec
open PyProof.Rows hiding St
open L2 hiding St
section
variable{X:Cx}
theorem call_sortedL:CallR X (.builtin "sorted") (fun xs H Q=>∃(l:Addr) (ns:List Int),xs=[.ref l]∧SqL X.K H l (ns.map V.int)∧ns.length<64∧∀p (ms:List Int),H p=none→ms.Perm ns→ms.Pairwise (·≤·)→Q (.ref p) (upd H p (.lst (ms.map V.int)))):=by
 intro pins s σ H xs us Q I r h
 obtain⟨l,ns,rfl,hl,hn,q⟩:=h
 obtain⟨u,rfl,rx⟩:=Dg r
 cases rx
 obtain⟨its,rv,pl,_⟩:=I.list hl
 have hl2:=rv.length
 rw[List.length_map] at hl2
 refine sorted_ints pl.isList (D3.Ev rv) (by omega) fun out ms hI hp hs=>?_
 obtain⟨e,he⟩:=sortedAll_at s.heap its out
 have I2:=I.laid (h':=sortedAll s.heap its out) (t':=s.toks) (o:=.lst (ms.map V.int)) (fun b o z=>sortedAll_old z) (Nat.le_succ _) (show ObjOk X.prog X.w _ _ _ (.lst _) from⟨by rw[List.length_map,hp.length_eq,sizeLine_eq];omega,out.toList,e,D3.vals_ints hI,by rw[he]⟩)
 exact⟨.ref (s.heap.objs.size+1),_,I2,rfl,q _ ms (I.hok.fresh (Nat.le_succ _)) hp hs⟩
theorem X5:QC X (.builtin "sorted") (fun ds G Q=>∃d,ds=[d]∧∃p,d=.ref p∧∃ns:List Int,G p=some (.lst (ns.map D.int))∧ns.length<64∧∀l (ms:List Int),G l=none→ms.Perm ns→ms.Pairwise (·≤·)→Q (.ref l) (Ac G l (.lst (ms.map D.int)))):=call_sortedL.imp fun xs H Q ⟨ds,G,Q',dv,rg,⟨d,e,p,ep,ns,eg,hn,q⟩,cl⟩=>by
 subst e ep
 obtain⟨v,rfl,h⟩:=dv.one
 cases h
 obtain⟨ys,eh,r⟩:=rg p _ eg
 rw[Dd r] at eh
 exact⟨p,ns,rfl,.inl (.inl eh),hn,fun l ms hl h1 h2=>cl _ _ (q l ms (rg.free hl) h1 h2) _ (Ext.fresh hl) (rg.lst hl DVs.ints) _ (.ref l)⟩
end
end D3
namespace D3
open PySem PySem.Spec
open PyProof.Rows hiding St
open L2 hiding St
section
variable{P:Program}{w:World}{A:Around}{E:Value→Shared→Prop}{s:Shared}
end
section
variable{X:Cx}
end
end D3
namespace D3
open PySem PySem.Spec
open PyProof.Rows hiding St
open L2 hiding St
end D3
namespace D3
open PySem PySem.Spec
open PyProof.Rows hiding St
open L2 hiding St
end D3
namespace D3
open PySem PySem.Spec
open PyProof.Rows hiding St
open L2 hiding St
section
variable{X:Cx}{a b:Expr}{ta:TA}{tA:DTA}{p p0 pos pos0:Pos}
end
end D3
namespace D3
open PySem PySem.Spec
open PyProof.Rows hiding St
open L2 hiding St
section
variable{X:Cx}{e b:Expr}{te tb:DTE}{p2 pos:Pos}
end
end D3
namespace D3
open PySem PySem.Spec
open PyProof.Rows hiding St
open L2 hiding St
end D3
namespace D3
open PySem PySem.Spec
open PyProof.Rows hiding St
open L2 hiding St
section
variable{P:Program}{w:World}{K:W.Frag}{mg:Str→Option Value}{base:Heap}
end
end D3
namespace D3
open PySem PySem.Spec
open PyProof.Rows hiding St
open L2 hiding St
theorem Zq{X:Cx}{i0:Nat}{y0:Str}{py spos:Pos}{elt iter tg:Expr}{ifs:List Expr}{scope:Scope}{cl:List (Str×Addr)}{pos:Pos}{wi:TI}{g:TG}{tf:TT}{te:TE}{T M:List Str}(hc:X.calm=true)(ok:CompOz X scope cl T M)(hi:PI X tg iter wi)(hg:∀s H fp,PG (Aj X scope cl T M s H fp) tg g)(hf:∀s H fp,PF (Aj X scope cl T M s H fp) ifs tf)(he:∀s H fp,PE (Aj X scope cl T M s H fp) elt te)(hN:X.N.Nodup)(hi0:X.N[i0]? = some y0)(hy:Loc X.env.scope y0)(hfn:X.fn y0=true∨X.env.scope.names.lookup y0=some .local)(hsw:swapsWith (.ListComp elt [⟨tg,iter,ifs,0⟩] scope pos) (some (.Name y0 py)) spos.line X.env=pure true)(hs:∀x,foldedSetIterable iter X.env x=pure x:=by intro _;rfl):PS X (.Assign [.Name y0 py] (.ListComp elt [⟨tg,iter,ifs,0⟩] scope pos) spos) (Yk (P0 T.length wi g tf te) (U4 i0)):=by
 intro pins s σ H D I h
 have h:(P0 T.length wi g tf te) σ H (fun v H1=>D.nx (σ.set i0 (some v)) H1):=h
 rw[exec_Assign_Name_used _ _ _ _ hsw]
 refine wpAny_bind (wpAny_standAt (wpAny_bind ?_))
 show wpAny _ X.A (do let _ ←comprehension (.ListComp elt [⟨tg,iter,ifs,0⟩] scope pos) scope X.env _ (newList []) false (eval iter X.env) (some (assign (.Name y0 py) X.env))) _ _ s
 refine wpAny_bind (wpAny_mono (wpAny_comprehension_free (use:=some (assign (.Name y0 py) X.env)) (Q:=fun _ s'=>SP X pins D .next s') (cl:=cl) rfl hs ok.clos ok.kind ok.names (thn (hi pins s σ H _ I h) fun v s1 h1=>thn h1 fun itv s2 h2=>?_)) (fun _ s' hq=>wpAny_pure (wpAny_pure hq)) fun _ _ e=>e)
 obtain⟨it,fp,tn,J,H2,e,I2,Tn,st2,f2,q⟩:=h2
 subst e
 have q:=q s2.heap.objs.size (I2.hok.fresh (Nat.le_refl _))
 refine wpAny_newObj_type ?_
 -- the new list,tracked
 have I3:Inv X pins σ (upd H2 s2.heap.objs.size (.lst [])) { s2 with heap:=s2.heap.push { cls:=.type "list",dict:=none,data:=.seq ([]:List Value).toArray } }:=
  I2.laid (t':=s2.toks) (fun b u e=>Heap.get?_push_of_some _ e) (Nat.le_refl _) ⟨Nat.zero_le _,[],0,.nil,Heap.get?_push_size _ rfl⟩
 generalize hH3:upd H2 s2.heap.objs.size (.lst [])=H3 at I3 q
 generalize hs3:({ s2 with heap:=s2.heap.push { cls:=.type "list",dict:=none,data:=.seq ([]:List Value).toArray } }:Shared)=s3 at I3
 have fpl:∀b∈fp,b<s2.heap.objs.size:=fun b hb=>let ⟨o,e,_⟩:=Tn.obj 0 _ st2 b hb;Heap.lt_size e
 have sz3:s2.heap.objs.size≤s3.heap.objs.size:=by rw[←hs3];show _≤(s2.heap.push _).objs.size;rw[Heap.size_push];exact Nat.le_succ _
 have fok:∀b∈fp,Eb X pins H3 b:=fun b hb=>⟨by rw[←hH3,Am (Nat.ne_of_lt (fpl b hb))];exact(f2 b hb).1,(f2 b hb).2⟩
 have k23:∀b o,s2.heap.get? b=some o→s3.heap.get? b=some o:=fun b o e=>by rw[←hs3];exact Heap.get?_push_of_some _ e
 have st3:tn 0 s3.heap:=Tn.keep _ _ _ st2 fun b _ o e=>k23 b o e
 refine Iw ok.kind (fun h4 hns4 k34 okc=>?_)
 have oldc:∀x c,cl.lookup x=some c→c<s3.heap.objs.size:=fun x c e=>by
  obtain⟨v,o,ho,_⟩:=I3.cell x c (ok.sub x c e).1
  exact Heap.lt_size ho
 have hc1:=Mv (h':=h4) ok okc oldc
 have hc2:=Mu (h':=h4) ok okc oldc
 have I4:Inv (Aj X scope cl T M s3 H3 fp) [] (Pr T σ) H3 { s3 with heap:=h4 }:=
  Gs ok I3 (fun b hb=>⟨fok b hb,Nat.lt_of_lt_of_le (fpl b hb) sz3⟩) hns4 k34 rfl rfl hc1 hc2
 have st4:tn 0 h4:=Tn.keep _ _ _ st3 fun b _ o e=>k34 b o e
 obtain⟨W,⟨m0,w0⟩,turn⟩:=q
 have cfpc:∀b∈fp,∀x c,(Ba scope cl s3.heap.objs.size).lookup x=some c→c≠b:=fun b hb x c e=>by
  rcases Ct ok s3.heap.objs.size x c e with ⟨_,a2⟩|⟨a1,_⟩
  ·exact Nat.ne_of_gt (Nat.lt_of_lt_of_le (Nat.lt_of_lt_of_le (fpl b hb) sz3) (Nat.le_of_succ_le a2))
  ·exact(fok b hb).2.2.2.2.1 x c (ok.sub x c a1).1
 have cfp:∀{H':Hp},(∀b∈fp,H' b=none)→∀b∈fp,Eb (Aj X scope cl T M s3 H3 fp) [] H' b:=fun hn b hb=>by
  refine⟨hn b hb,Nat.ne_of_lt (Nat.lt_of_lt_of_le (fpl b hb) sz3),fun z=>?_,.inl hb,fun x c e=>cfpc b hb x c e,fun p hp=>absurd (show p∈([]:List (Addr×Obj)) from hp) (by simp)⟩
  rcases List.mem_cons.mp (I3.stkSub b z) with e|e
  ·exact(fok b hb).2.1 e
  ·exact(fok b hb).2.2.1 e
 have fin:∀(σ':St) (H':Hp) (s':Shared),Inv (Aj X scope cl T M s3 H3 fp) [] σ' H' s'→D.nx (σ.set i0 (some (.ref s2.heap.objs.size))) H'→compPost (model X.prog X.w) X.A X.xe (some (assign (.Name y0 py) X.env)) (fun _ s'=>SP X pins D .next s') (.ref s2.heap.objs.size) s3.heap.objs.size (.ok .next) s':=fun σ' H' s' J q=>by
  obtain⟨m',hm',_⟩:=J.loc
  have J0:Inv X pins σ H' s':=I3.call' (ch:=fp) J.os J.base J.hok J.bare fun b hb=>⟨(fok b hb).2.2.2.1,(fok b hb).2.1,(fok b hb).2.2.2.2.1,(fok b hb).2.2.2.2.2⟩
  have nC:=I3.fpOk (H':=H') (Nat.le_refl s3.heap.objs.size) J.free
  show wpAny _ X.A (assign (.Name y0 py) X.env (.ref s2.heap.objs.size)) _ _ s'
  refine wpAny_assign_Name (K9 J0 hN hi0 hy (v:=.ref s2.heap.objs.size) rfl (fun s'' J1 ⟨a,sb,ha⟩=>?_) hfn)
  have na:s3.heap.objs.size≠a:=by
   rcases ha with z|z
   ·rw[z];exact nC.2.1
   ·exact fun e=>nC.2.2.2.2.1 _ _ z e.symm
  obtain⟨oC,es,ep,hoC,rC⟩:=hm'
  exact⟨m',⟨oC,es,ep,(sb.2 _ na).trans hoC,rC⟩,fun h' hs'=>⟨_,H',J1.turned (t':=s''.toks) (fun b o hb e=>(hs'.2 b hb).trans e) nC.1 nC.2.1 nC.2.2.2.1 nC.2.2.2.2.1 nC.2.2.2.2.2,q⟩⟩
 have loop:∀s5:Shared,s5={ s3 with heap:=h4 }→
   codeAny (model X.prog X.w) X.A (.compLoop (.ListComp elt [⟨tg,iter,ifs,0⟩] scope pos) 0 (.ref it) (.ref s2.heap.objs.size) (compEnvC scope (Ba scope cl s3.heap.objs.size) s3.heap.objs.size X.env))
    (compPost (model X.prog X.w) X.A X.xe (some (assign (.Name y0 py) X.env)) (fun _ s'=>SP X pins D .next s') (.ref s2.heap.objs.size) s3.heap.objs.size) s5:=by
  rintro s5 rfl
  refine Hg (fun k s'=>∃i σ' H',Inv (Aj X scope cl T M s3 H3 fp) [] σ' H' s'∧tn i s'.heap∧(∀b∈fp,H' b=none)∧W i k σ' H') ?_ m0 ⟨0,Pr T σ,H3,I4,st4,fun b hb=>(fok b hb).1,w0⟩
  rintro k s6 ⟨i,σ6,H6,I6,st6,fr6,w6⟩
  rcases turn i k σ6 H6 w6 with ⟨stop,qn⟩|⟨go,N,hN,step⟩
  ·refine wpAny_mono (Tn.done (Aj X scope cl T M s3 H3 fp) rfl rfl rfl hc i [] s6 _ H6 (fun _ _=>False) I6 (cfp fr6) st6 stop) (fun r s7 ⟨hr,I7⟩=>?_) fun _ _ z=>z.elim
   subst hr
   exact fin _ H6 s7 I7 qn
  ·refine wpAny_mono (Tn.item (Aj X scope cl T M s3 H3 fp) rfl rfl rfl hc i [] s6 _ H6 (fun _ _=>False) I6 (cfp fr6) st6 go) (fun r s7 ⟨u,hr,h7⟩=>?_) fun _ _ z=>z.elim
   subst hr
   show Ny _ _ _ _ _ _ _ _ _ _ _ _ _;unfold Ny
   refine wpAny_mono h7 (fun _ s8 h8=>?_) fun _ _ z=>z.elim
   obtain⟨x7,H7,I7,r7,y7,st7,fr7⟩:=h8
   have I7':=I7.pinned (cfp fr7) (Tn.obj _ _ st7)
   have back:∀{σ8:St} {H8:Hp} {s9:Shared},Inv (Aj X scope cl T M s3 H3 fp) ([]++Dm fp s8.heap) σ8 H8 s9→tn (i+1) s9.heap∧∀b∈fp,H8 b=none:=fun {σ8 H8 s9} I8=>by
    refine⟨Tn.keep _ _ _ st7 fun b hb o e=>(I8.pin (b,o) (List.mem_append_right _ (List.mem_append_right _ (B1 hb e)))).1,fun b hb=>?_⟩
    obtain⟨o,e,d⟩:=Tn.obj _ _ st7 b hb
    exact(I8.pin (b,o) (List.mem_append_right _ (List.mem_append_right _ (B1 hb e)))).2.1
   have again:∀{σ9:St} {H9:Hp} {s9:Shared},Inv (Aj X scope cl T M s3 H3 fp) ([]++Dm fp s8.heap) σ9 H9 s9→N σ9 H9→
     ∃m,m<k∧∃i σ' H',Inv (Aj X scope cl T M s3 H3 fp) [] σ' H' s9∧tn i s9.heap∧(∀b∈fp,H' b=none)∧W i m σ' H':=fun {σ9 H9 s9} I9 n9=>by
    obtain⟨m',hm,w9⟩:=hN σ9 H9 n9
    obtain⟨b1,b2⟩:=back I9
    exact⟨m',hm,i+1,σ9,H9,I9.unpinned,b1,b2,w9⟩
   refine wpAny_mono (hg s3 H3 fp _ s8 σ6 H7 x7 u _ I7' r7 (step x7 H7 y7)) (fun _ s9 ⟨σ9,H9,I9,q9⟩=>?_) fun _ _ z=>z.elim
   refine wpAny_mono (hf s3 H3 fp _ s9 σ9 H9 _ I9 q9) (fun okb s10 ⟨H10,I10,q10⟩=>?_) fun _ _ z=>z.elim
   cases okb with
   |false=>
    rw[if_neg Bool.false_ne_true] at q10 ⊢
    exact again I10 q10
   |true=>
    rw[if_pos rfl] at q10 ⊢
    refine wpAny_mono (he s3 H3 fp _ s10 σ9 H10 _ I10 q10) (fun y s11 ⟨yv,H11,I11,ry,ys,e11,l11,n11⟩=>?_) fun _ _ z=>z.elim
    refine wpAny_mono (Gn (X:=Aj X scope cl T M s3 H3 fp) _ s11 σ9 H11 (.ref s2.heap.objs.size) [yv] (.ref s2.heap.objs.size) [y] (fun _ H12=>N σ9 H12) I11 rfl (.cons ry .nil) ⟨_,ys,yv,rfl,rfl,e11,l11,n11⟩) (fun _ s12 ⟨_,H12,I12,_,n12⟩=>?_) fun _ _ z=>z.elim
    exact again I12 n12
 exact codeAny_compStart_list (loop _ rfl) (Tn.self _ 0 _ _ _ st4 (loop _ rfl))


end D3
namespace D3
open PySem PySem.Spec
open PyProof.Rows hiding St
open L2 hiding St
theorem Ab3{K:W.Frag}{t:DTE}{i:Nat}{E:Ends}{σ:St}{H:Hp}(h:Ec K (Cg t (Ao i)) E σ H):By K t σ H fun v H1=>E.nx (σ.set i (some v)) H1:=by
 obtain⟨σD,G,D,rs,rg,h,cl⟩:=h
 exact⟨σD,G,fun x G1=>D.nx (σD.set i (some x)) G1,rs,rg,h,fun d G' q H' x' rg' v dv=>cl.nx _ _ q _ x' rg' _ ((rs.ext x').set dv i)⟩
section
variable{X:Cx}{elt iter tg kx vx:Expr}{ifs:List Expr}{scope:Scope}{pos:Pos}{ti te tk tv:DTE}{tf:DTT}{g:DTG}{T M:List Str}
theorem Og{i0:Nat}{y0:Str}{py spos:Pos}(hc:X.calm=true)(ok:CompOz X scope (Bz X.env.cells scope.names []) T M)(hi:QE X iter ti)(hg:QGz X scope T M tg g)(hf:QFz X scope T M ifs tf)(he:QEz X scope T M elt te)(hN:X.N.Nodup)(hsw:swapsWith (.ListComp elt [⟨tg,iter,ifs,0⟩] scope pos) (some (.Name y0 py)) spos.line X.env=pure true)(hi0:X.N[i0]? = some y0:=by rfl)(hy:Loc X.env.scope y0:=by first|exact .inl rfl|exact .inr rfl)(hfn:X.fn y0=true∨X.env.scope.names.lookup y0=some .local:=by first|exact .inl rfl|exact .inr rfl)(hs:∀x,foldedSetIterable iter X.env x=pure x:=by intro _;rfl):QS X (.Assign [.Name y0 py] (.ListComp elt [⟨tg,iter,ifs,0⟩] scope pos) spos) (Cg (Ci T.length ti g tf te) (Ao i0)):=
 (Zq (g:=Di X.K g) (tf:=Ds X.K tf) (te:=By X.K te) hc ok (L9 hi) hg hf he hN hi0 hy hfn hsw hs).imp fun E0 σ H h0=>by
 obtain⟨σD,G,Q',rs,rg,h,cl⟩:=Ab3 h0
 refine⟨σD,G,_,rs,rg,h,fun d G1 ⟨ds,ei,L⟩ H1 x1 rg1 v dv=>?_⟩
 obtain⟨a,rfl⟩:=F1 ei dv
 refine⟨a,rfl,?_⟩
 have lp:=fun p hp=>Cf (J:=jOf X.K d a) (rs.ext x1) rg1 hp (fun d' G' q=>(cl d' G' q).go x1) (fun H' G' x' rg' s'=>Dz (Ej rg' s' (dv.ext x'))) (L p (rg1.free hp))
 cases dv with
 |tup e r=>exact .inr ⟨⟨_,.inl (.inl e)⟩,lp⟩
 |lint e=>exact .inl ⟨⟨_,e.sq⟩,lp⟩
 |ref=>
  simp only[Aq] at ei
  split at ei
  ·rename_i ds' q
   obtain⟨xs,e,r⟩:=rg1 a _ q
   exact .inl ⟨⟨_,.inl (.inl e)⟩,lp⟩
  ·cases ei

end
end D3
namespace D3
open PySem PySem.Spec
open PyProof.Rows hiding St
open L2 hiding St
section
variable{X:Cx}{e:Expr}{te:DTE}{pos:Pos}
end
end D3
namespace D3
open PySem PySem.Spec
open PyProof.Rows hiding St
open L2 hiding St
section
variable{X:Cx}{e:Expr}{ta:DTE}
end
section
variable{X:Cx}{a b:Expr}{ta:TA}{tA:DTA}{p p0 pos pos0:Pos}
end
end D3
namespace D3
open PySem PySem.Spec
open PyProof.Rows hiding St
open L2 hiding St
section
variable{P:Program}{w:World}{A:Around}{R:Result→Shared→Prop}{it S:Addr}{fp wr:List Addr}{n:Nat}{V:Nat→Value→Prop}{st:Nat→Heap→Prop}{bt:Nat→Nat→Bool}{kw:List (Str×Value)}
end
section
variable{P:Program}{w:World}{A:Around}{E:Value→Shared→Prop}{s:Shared}
def EndIs(M:Model)(A:Around)(Q:Value→Shared→Prop)(E:Value→Shared→Prop)(f:Fin)(s':Shared):Prop:=match f with
 |.done (.ret v)=>Q v s'
 |.done _=>False
 |.again c=>c.quiet=true∧codeAny M A c (fun r s2=>match r with|.ok (.ret v)=>Q v s2|.ok _=>False|.error e=>E e s2) s'
theorem T3{id:String}{b:Builtin}{args:List Value}{kw:List (Str×Value)}{Q:Value→Shared→Prop}(hk:builtinKind id=none)(hp:plainId id=true)(hb:entryFor table id=some b)(ha:argsOk id ⟨args,kw⟩)(hc:wpAny (model P w) A.in1 (b ⟨args,kw⟩) (EndIs (model P w) A Q E) E s):wpAny (model P w) A (call (.builtin id) args kw) Q E s:=by
 refine wpAny_call (codeAny_call_builtin hp hb ?_)
 have go:=wpAny_mono hc (Q':=fun fin s'=>match fin with
   |.done f=>(match (Except.ok f:Result) with|.ok (.ret v)=>Q v s'|.ok _=>False|.error e=>E e s')|.again c'=>c'.quiet=true∧codeAny (model P w) A c' (fun r s'=>match r with|.ok (.ret v)=>Q v s'|.ok _=>False|.error e=>E e s') s')
  (fun fin s' z=>by
   cases fin with
   |done f=>cases f with
    |ret v=>exact z
    |_=>exact z.elim
   |again c=>exact z) fun _ _ z=>z
 simp only[checkBuiltinCall,hk]
 cases q:Manifest.signature? id with
 |none=>exact wpAny_pure go
 |some sig=>
  have e:Bind.checkArgs id sig ⟨args,kw⟩=pure ():=by simpa only[argsOk,q] using ha
  simp only[e];exact wpAny_pure go
end
section
variable{X:Cx}{e:Expr}{p pos:Pos}
end
end D3
namespace D3
open PySem PySem.Spec
open PyProof.Rows hiding St
open L2 hiding St
section
variable{X:Cx}{elt iter tg:Expr}{ifs:List Expr}{scope:Scope}{pos:Pos}{ti te:DTE}{tf:DTT}{g:DTG}{T M:List Str}
def Oo(n:Nat)(tA:DTA)(g:DTG)(tf:DTT)(te:DTE):DTE:=fun σ G Q=>tA σ G fun ds G1=>∃i j,ds=[.int i,.int j]∧(-(2 ^ 62)≤i∧i<2 ^ 62∧-(2 ^ 62)≤j∧j<2 ^ 62)∧∀p,G1 p=none→Fn n p (E9 i j) (fun _=>True) g tf te σ (Ac G1 p (.lst [])) Q
theorem S6{a b:Expr}{tA:DTA}{p p2:Pos}(hc:X.calm=true)(ok:CompOz X scope (Bz X.env.cells scope.names []) T M)(hm:X.mg "range" = none)(ha:QA X [a,b] tA)(hg:QGz X scope T M tg g)(hf:QFz X scope T M ifs tf)(he:QEz X scope T M elt te)(hgl:Gl X "range":=by rfl)(hst:starEach [a,b] X.env=[(false,eval a X.env),(false,eval b X.env)]:=by rfl)(hst2:starEach [b] X.env=[(false,eval b X.env)]:=by rfl)(hs:∀x,foldedSetIterable (.Call (.Name "range" p) [a,b] [] p2) X.env x=pure x:=by intro _;rfl):QE X (.ListComp elt [⟨tg,.Call (.Name "range" p) [a,b] [] p2,ifs,0⟩] scope pos) (Oo T.length tA g tf te):=
 (Eh (g:=Di X.K g) (tf:=Ds X.K tf) (te:=By X.K te) hc ok (S9 hgl hm ha hst hst2) hg hf he hs).imp fun σ H Q ⟨σD,G,Q',rs,rg,h,cl⟩=>by
 refine⟨σD,G,_,rs,rg,h,fun ds G1 ⟨i,j,ej,hij,L⟩ H1 x1 rg1 vs dv=>?_⟩
 subst ej
 obtain⟨v,w,rfl,r,r'⟩:=dv.two
 cases r;cases r'
 refine⟨i,j,rfl,hij,fun p hp=>Cf (J:=Itr i (j-i).toNat) (rs.ext x1) rg1 hp (fun d' G' q=>(cl d' G' q).go x1) (fun H' G' x' rg' _=>Dz (G:=G') ?_) (L p (rg1.free hp))⟩
 refine⟨fun k hk=>by rw[Fc] at hk;exact hk,fun k x H2 hk y=>?_,by show(j-i).toNat≤_;rw[Fc];exact Nat.le_refl _⟩
 rw[Fc] at hk
 obtain⟨e1,e2⟩:=y
 refine⟨e1,_,Qr hk,?_⟩
 rw[e2]
 exact .int _
end
section
variable{X:Cx}{elt iter tg kx vx:Expr}{ifs:List Expr}{scope:Scope}{pos:Pos}{ti te tk tv:DTE}{tf:DTT}{g:DTG}{T M:List Str}
end
end D3
namespace D3
open PySem PySem.Spec
open PyProof.Rows hiding St
open L2 hiding St
section
variable{X:Cx}
end
section
end
section
variable{X:Cx}
end
end D3
namespace D3
open PySem PySem.Spec PyProof.Rows L2
section
variable{X:Cx}{pos:Pos}
theorem q_v1{i:Nat}{x:Str}(h:X.N[i]? = some x∧X.env.scope.names.lookup x=some .local∧(x == ("__debug__" : Str))=false∧(x == ("__classdict__" : Str))=false):QE X (.Name x pos) (Ai i):=Aba h.1 (.inl h.2.1) h.2.2.1 h.2.2.2
theorem q_v2{i:Nat}{x:Str}(h:X.N[i]? = some x∧X.env.scope.names.lookup x=some .cell∧(x == ("__debug__" : Str))=false∧(x == ("__classdict__" : Str))=false):QE X (.Name x pos) (Ai i):=Aba h.1 (.inr (.inl h.2.1)) h.2.2.1 h.2.2.2
end
end D3
namespace D3
open PySem PySem.Spec
open PyProof.Rows
def Yn(rk:Keyed→Int)(arr:Array Keyed)(i:Nat):Int:=rk (arr.getD i (.none,.none))
section
variable{P:Program}{w:World}{A:Around}{E:Value→Shared→Prop}{s:Shared}{kd:SortKind}{ok:Keyed→Prop}{rk:Keyed→Int}
theorem ok_at{arr:Array Keyed}{i:Nat}(h:i<arr.size)(okA:∀x∈arr,ok x):ok (arr.getD i (.none,.none)):=by
 have e:arr.getD i (.none,.none)=arr[i]:=by simp[h]
 rw[e];exact okA _ (Array.getElem_mem h)
end
end D3
namespace D3
section
variable{α:Type}{rk:α→Int}
end
end D3
namespace D3
open PySem PySem.Spec
open PyProof.Rows
section
variable{rk:Keyed→Int}{a b out:Array Keyed}{ia ib k:Nat}
theorem Vg{a:Array Keyed}{i:Nat}(h:i<a.size):Yn rk a i=rk (a.toList[i]'(by simpa using h)):=by
 unfold Yn;simp[h]
end
end D3
namespace D3
open PySem PySem.Spec
open PyProof.Rows
structure Like(st st':SortSt):Prop where
 kind:kindOf st'=kindOf st
 arr:arrOf st'=arrOf st
 pend:pendingOf st'=pendingOf st
 failed:failedOf st'=failedOf st
theorem Like.trans{st st' st'':SortSt}(h:Like st st')(h2:Like st' st''):Like st st'':=⟨h2.kind.trans h.kind,h2.arr.trans h.arr,h2.pend.trans h.pend,h2.failed.trans h.failed⟩
section
variable{P:Program}{w:World}{A:Around}{E:Value→Shared→Prop}{s:Shared}{kd:SortKind}{ok:Keyed→Prop}{rk:Keyed→Int}
end
end D3
namespace D3
open PySem PySem.Spec
open PyProof.Rows
section
variable{rk:Keyed→Int}{a b out:Array Keyed}{na nb:Nat}
end
end D3
namespace D3
open PySem PySem.Spec
open PyProof.Rows
section
variable{P:Program}{w:World}{A:Around}{E:Value→Shared→Prop}{s:Shared}{kd:SortKind}{ok:Keyed→Prop}{rk:Keyed→Int}
end
end D3
namespace D3
open PySem PySem.Spec
open PyProof.Rows
structure Bas(rk:Keyed→Int)(kd:SortKind)(ok:Keyed→Prop)(a0:Array Keyed)(st:SortSt):Prop where
 kind:kindOf st=kd
 perm:(arrOf st).Perm a0
 fail:failedOf st=none
 okA:∀x∈a0,ok x
 dist:(a0.toList.map rk).Nodup
section
variable{P:Program}{w:World}{A:Around}{E:Value→Shared→Prop}{s:Shared}{kd:SortKind}{ok:Keyed→Prop}{rk:Keyed→Int}{a0:Array Keyed}{st:SortSt}
theorem Bas.ne(b:Bas rk kd ok a0 st){i j:Nat}(hij:i<j)(hj:j<(arrOf st).size):Yn rk (arrOf st) i≠Yn rk (arrOf st) j:=by
 have nd:((arrOf st).toList.map rk).Nodup:=((Array.perm_iff_toList_perm.mp b.perm).map rk).nodup_iff.mpr b.dist
 rw[Vg (show i<(arrOf st).size by omega),Vg hj]
 have:=List.pairwise_iff_getElem.mp nd i j (by simp;omega) (by simp;omega) hij
 simpa using this
structure Ahead(lo:Nat)(st st':SortSt):Prop where
 at_:∀i,i<lo→(arrOf st')[i]? = (arrOf st)[i]?
 pend:pendingOf st'=pendingOf st
theorem Ahead.trans{lo:Nat}{st st' st'':SortSt}(h:Ahead lo st st')(g:Ahead lo st' st''):Ahead lo st st'':=⟨fun i hi=>(g.at_ i hi).trans (h.at_ i hi),g.pend.trans h.pend⟩
end
end D3
namespace D3
open PySem PySem.Spec
open PyProof.Rows
section
variable{P:Program}{w:World}{A:Around}{E:Value→Shared→Prop}{s:Shared}{kd:SortKind}{ok:Keyed→Prop}{rk:Keyed→Int}{a0:Array Keyed}{st:SortSt}
end
end D3
namespace D3
open PySem PySem.Spec
open PyProof.Rows
section
variable{P:Program}{w:World}{A:Around}{E:Value→Shared→Prop}{s:Shared}{kd:SortKind}{ok:Keyed→Prop}{rk:Keyed→Int}{a0:Array Keyed}{st:SortSt}
end
end D3
namespace D3
open PySem PySem.Spec
open PyProof.Rows
section
variable{P:Program}{w:World}{A:Around}{E:Value→Shared→Prop}{s:Shared}{kd:SortKind}{ok:Keyed→Prop}{rk:Keyed→Int}
def PairAt(h:Heap)(v:Value)(ij:Int×Int):Prop:=∃a o t u n,v=.ref a∧h.get? a=some o∧o.cls=.type "tuple"∧o.data=.seq #[.int ij.1 t,.int ij.2 u] n
end
end D3
namespace D3
open PySem PySem.Spec
open PyProof.Rows
def RawD(h:Heap)(d:Addr)(es:Array DictEntry)(ep:Nat):Prop:=∃o,h.get? d=some o∧o.ExactDict∧o.data=.dict es ep
theorem RawD.keep{h g:Heap}{d:Addr}{es:Array DictEntry}{ep:Nat}(r:RawD h d es ep)(k:∀o,h.get? d=some o→g.get? d=some o):RawD g d es ep:=let ⟨o,a,b⟩:=r;⟨o,k o a,b⟩
section
variable{P:Program}{w:World}{A:Around}{E:Value→Shared→Prop}{s:Shared}{d it:Addr}{es:Array DictEntry}{ep i:Nat}
theorem RawD.ty(r:RawD s.heap d es ep):s.TypeIs (.ref d) "dict":=let ⟨o,a,b,_⟩:=r;⟨o,a,b.1⟩
end
end D3
namespace D3
open PySem PySem.Spec
open PyProof.Rows hiding St
open L2 hiding St
section
variable{P:Program}{w:World}{A:Around}{E:Value→Shared→Prop}{s:Shared}{d:Addr}{es:Array DictEntry}{ep:Nat}
end
end D3
namespace D3
open PySem PySem.Spec
open PyProof.Rows hiding St
open L2 hiding St
def U6(k:Int×Int):List Key:=[.inl k.1,.inl k.2]
def Bq(k:Int×Int):D:=.tup [.int k.1,.int k.2]
def Br(a b:Int×Int):Prop:=a.1<b.1∨(a.1=b.1∧a.2<b.2)
open Classical in
section
variable{X:Cx}
end
end D3
namespace D3
open PySem PySem.Spec
open PyProof.Rows hiding St
open L2 hiding St
section
variable{X:Cx}{k:Nat}
theorem Ab8(hr:Room k X.A):X.A.units+1<cLine:=by have:=hr.un;omega
end
section
variable{X:Cx}{k:Nat}
end
theorem Eu{α β:Type}{R:α→β→Prop}:∀{as:List α} {bs:List β} {i:Nat} {a:α},Paired R as bs→as[i]? = some a→∃b,bs[i]? = some b∧R a b
 |_,_,_,_,.nil,e=>by simp at e
 |_,_,0,_,.cons h _,e=>by simp at e;subst e;exact⟨_,rfl,h⟩
 |_,_,i+1,a,.cons _ t,e=>by
  obtain⟨b,h1,h2⟩:=Eu (i:=i) (a:=a) t (by simpa using e)
  exact⟨b,by simpa using h1,h2⟩
section
variable{X:Cx}{pins:List (Addr×Obj)}{σ:L2.St}{H:Hp}{p a it:Addr}{ys:List V}{es:List (List Key×V)}
end
end D3
namespace D3
open PySem PySem.Spec
open PyProof.Rows hiding St
open L2 hiding St
section
variable{X:Cx}{n:Nat}{a b:Expr}{ta tb:DTE}{pos:Pos}
end
end D3
namespace D3
open PySem PySem.Spec
open PyProof.Rows hiding St
open L2 hiding St
theorem Zb:Slot "reversed" "__init__" "object.__init__":=.of (owner:="object") (n:="__init__") (by rw[typeLookup_type,builtinLookup_eq_fast];kernel_rfl) (by decide +kernel) (by decide +kernel) (by decide +kernel)
 (by first|exact .inl (by decide +kernel)|exact .inr (by decide +kernel)) (by rw[isSubtype_type];kernel_rfl)
theorem S3:TypeCalled "reversed" "reversed.__new__" "object.__init__":=⟨by decide +kernel,F.create_reversed,⟨_,_,F.mro_reversed⟩,F.made_reversed,by decide +kernel,F.sub_reversed_self,Zb⟩
theorem Y9:typeLookup (.type "tuple") "__reversed__" = pure none:=by rw[typeLookup_type,builtinLookup_eq_fast];kernel_rfl
def rvO(t:Addr)(i:Int):Obj:={ cls:=.type "reversed",data:=.fields #[.ref t,rawInt i] }
section
variable{P:Program}{w:World}{A:Around}{E:Value→Shared→Prop}{s:Shared}{t:Addr}{items:Array Value}
theorem Ab5{Q:Value→Shared→Prop}(ht:IsTup s.heap t items)(hz:(items.size:Int)<2 ^ 63)(h:∀tk,Q (.ref s.heap.objs.size) { s with heap:=s.heap.push (rvO t ((items.size:Int)-1)),toks:=tk }) :
  wpAny (model P w) A (Builtin.«reversed.__new__» ⟨[.type "reversed",.ref t],[]⟩) (fun fin s'=>∃v,fin=.done (.ret v)∧Q v s') E s:=by
 unfold Builtin.«reversed.__new__»
 refine wpAny_bind (wpAny_of_eq (newClass_reversed _) (wpAny_bind (wpAny_of_eq (a:=()) (by first|rfl|kernel_rfl) (wpAny_bind (wpAny_of_eq (a:=()) (by first|rfl|kernel_rfl) ?_)))))
 refine wpAny_bind (wpAny_specialOf ht.typeIs Y9 ?_)
 show wpAny _ _ (_ >>= _) _ _ _
 k_delta "hasItemSlot"
 refine wpAny_bind (wpAny_bind (wpAny_isInstance (T:="tuple") (b:=false) ht.typeIs (by rw[isSubtype_type];kernel_rfl) ?_))
 show wpAny _ _ (specialOf _ _ >>= _) _ _ _
 refine wpAny_bind (wpAny_specialOf ht.typeIs PySem.F.slot_tuple_getitem.lookup ?_)
 refine wpAny_pure ?_
 show wpAny _ _ (call (Value.builtin "len") [Value.ref t] >>= _) _ _ _
 refine wpAny_bind (PyProof.Rows.len_tuple ht hz ?_)
 refine wpAny_bind (wpAny_of_eq (a:=some (items.size:Int)) rfl ?_)
 refine wpAny_bind ?_
 unfold Builtin.SmallTypes.newRecord
 refine wpAny_newObj_type (wpAny_pure ⟨_,rfl,h _⟩)
theorem Zc{Q:Value→Shared→Prop}(ht:IsTup s.heap t items)(hz:(items.size:Int)<2 ^ 63)(h:∀tk,Q (.ref s.heap.objs.size) { s with heap:=s.heap.push (rvO t ((items.size:Int)-1)),toks:=tk }) :
  wpAny (model P w) A (call (.type "reversed") [.ref t]) Q E s:=by
 refine callType_new S3 (by decide +kernel) (F.typeCall_reversed_1 _) (F.newCall_reversed_1 _) (fun obj=>PySem.F.args_object_init_2 _ _) F.entry_reversed_new (S:=fun _ R s=>IsTup s.heap t items∧∀tk,R (.ok (.ret (.ref s.heap.objs.size))) { s with heap:=s.heap.push (rvO t ((items.size:Int)-1)),toks:=tk }) (Meets.of_wp fun prog w A R s hs=>?_) ⟨ht,fun tk=>⟨⟨_,Heap.get?_push_size _ rfl,rfl⟩,h tk⟩⟩
 exact Ab5 hs.1 hz hs.2
end
def IsRv(h:Heap)(a t:Addr)(i:Int):Prop:=∃o,h.get? a=some o∧o.cls=.type "reversed"∧o.data=.fields #[.ref t,rawInt i]
theorem rv_snext:Slot "reversed" "__next__" "reversed.__next__":=.of (owner:="reversed") (n:="__next__") (by rw[typeLookup_type,builtinLookup_eq_fast];kernel_rfl) (by decide +kernel) (by decide +kernel) (by decide +kernel)
 (by first|exact .inl (by decide +kernel)|exact .inr (by decide +kernel)) (by rw[isSubtype_type];kernel_rfl)
theorem N9:Slot "reversed" "__iter__" "reversed.__iter__":=.of (owner:="reversed") (n:="__iter__") (by rw[typeLookup_type,builtinLookup_eq_fast];kernel_rfl) (by decide +kernel) (by decide +kernel) (by decide +kernel)
 (by first|exact .inl (by decide +kernel)|exact .inr (by decide +kernel)) (by rw[isSubtype_type];kernel_rfl)
theorem Oa:entryFor table "reversed.__next__" = some Builtin.«reversed.__next__»:=entryFor_of_tree (by kernel_rfl)
theorem Wl:entryFor table "reversed.__iter__" = some Builtin.«dict_keyiterator.__iter__»:=
 entryFor_alias (id':="dict_keyiterator.__iter__") (by kernel_rfl) (by first|rfl|decide +kernel|(unfold String.splitOn;simp +decide [String.splitOnAux])) (by decide +kernel) (by kernel_rfl)
theorem Ob(a:Value):argsOk "reversed.__next__" ⟨[a],[]⟩:=by unfold argsOk;kernel_rfl
theorem Wm(a:Value):argsOk "reversed.__iter__" ⟨[a],[]⟩:=by unfold argsOk;kernel_rfl
section
variable{P:Program}{w:World}{A:Around}{E:Value→Shared→Prop}{s:Shared}{a t:Addr}{items:Array Value}
theorem IsRv.typeIs{i:Int}(x:IsRv s.heap a t i):s.TypeIs (.ref a) "reversed":=let ⟨o,ho,hc,_⟩:=x;⟨o,ho,hc⟩
theorem IsRv.at{h h':Heap}{i:Int}(x:IsRv h a t i)(k:∀o,h.get? a=some o→h'.get? a=some o):IsRv h' a t i:=let ⟨o,ho,hc⟩:=x;⟨o,k o ho,hc⟩
theorem Ri{i:Int}{Q:Value→Shared→Prop}(hit:IsRv s.heap a t i)(h:Q (.ref a) s):wpAny (model P w) A (pyIter (.ref a)) Q E s:=by
 refine wpAny_pyIter_slot hit.typeIs N9 (wpAny_call_entry N9 hit.typeIs Wl ?_ (Wm _))
 show wpAny _ _ (ret (.ref a)) _ _ s
 exact wpAny_pure ⟨_,rfl, "reversed",_,hit.typeIs,rv_snext.lookup,h⟩
theorem Za{i:Nat}{x:Value}{Q:Option Value→Shared→Prop}(hit:IsRv s.heap a t (i:Int))(ht:IsTup s.heap t items)(hz:(items.size:Int)<2 ^ 63)(hx:items[i]? = some x)(hQ:∀h' tk,IsRv h' a t ((i:Int)-1)→Heap.SameBut a s.heap h'→Q (some x) { s with heap:=h',toks:=tk }):wpAny (model P w) A (pyNext (.ref a)) Q E s:=by
 obtain⟨o,ho,hc,hd⟩:=id hit
 have hl:i<items.size:=by
  rcases Nat.lt_or_ge i items.size with z|z
  ·exact z
  ·rw[Array.getElem?_eq_none z] at hx;cases hx
 unfold pyNext
 refine wpAny_bind (wpAny_attempt (wpAny_callSpecial?_slot (name:=Str.ofString "__next__") hit.typeIs rv_snext (wpAny_call_entry rv_snext hit.typeIs Oa ?_ (Ob _))))
 unfold Builtin.«reversed.__next__»
 refine wpAny_bind (wpAny_of_eq (a:=(Value.ref a,[])) rfl (wpAny_bind (wpAny_field ho hd (x:=.ref t) rfl (wpAny_bind (wpAny_field ho hd (x:=rawInt (i:Int)) rfl ?_)))))
 show wpAny _ _ (if (i:Int)<0 then _ else _) _ _ s
 rw[if_neg (by omega)]
 show wpAny _ _ (specialOf (.ref t) "__getitem__" >>= _) _ _ s
 refine wpAny_bind (wpAny_specialOf ht.typeIs PySem.F.slot_tuple_getitem.lookup ?_)
 show wpAny _ _ (mkInt (i:Int) >>= _) _ _ s
 refine wpAny_bind (wpAny_mkInt (wpAny_bind (wpAny_attempt (PyProof.Rows.getItem_tuple (s:={ s with toks:=s.toks+1 }) ht (by omega) (by omega) (j:=i) ?_ hx ?_))))
 ·unfold seqIndex?;simp;omega
 refine wpAny_bind (wpAny_field (s:={ s with toks:=s.toks+1 }) ho hd (x:=rawInt (i:Int)) rfl ?_)
 show wpAny _ _ (setField (.ref a) 1 _ >>= _) _ _ _
 refine wpAny_bind (wpAny_setField (s:={ s with toks:=s.toks+1 }) ho hd (by simp) (wpAny_pure ⟨x,rfl,wpAny_pure (hQ _ _ ⟨_,Heap.get?_update_self _ ho (Obj.isFreed_of_fields (Obj.data_mapFields hd _)),(Obj.cls_mapFields ..).trans hc,?_⟩ (Heap.SameBut.update ..))⟩))
 rw[Obj.data_mapFields hd];simp
theorem Ab6{Q:Option Value→Shared→Prop}(hh:A.handled=none)(hit:IsRv s.heap a t (-1))(hQ:∀h',Heap.ExtBut a s.heap h'→Q none { s with heap:=h' }):wpAny (model P w) A (pyNext (.ref a)) Q E s:=by
 obtain⟨o,ho,hc,hd⟩:=id hit
 unfold pyNext
 refine wpAny_bind (wpAny_attempt (wpAny_callSpecial?_slot (name:=Str.ofString "__next__") hit.typeIs rv_snext (wpAny_call_entry rv_snext hit.typeIs Oa ?_ (Ob _))))
 unfold Builtin.«reversed.__next__»
 refine wpAny_bind (wpAny_of_eq (a:=(Value.ref a,[])) rfl (wpAny_bind (wpAny_field ho hd (x:=.ref t) rfl (wpAny_bind (wpAny_field ho hd (x:=rawInt (-1)) rfl ?_)))))
 show wpAny _ _ (if (-1:Int)<0 then _ else _) _ _ s
 rw[if_pos (by decide)]
 refine wpAny_bind (wpAny_rule ?_)
 k_delta "reversedEnd"
 refine wpAny_bind (wpAny_bind (wpAny_setField ho hd (by simp) ?_))
 have h1:=Heap.get?_update_self (Obj.mapFields (·.setIfInBounds 1 (rawInt (-1)))) ho (Obj.isFreed_of_fields (Obj.data_mapFields hd _))
 refine wpAny_setField h1 (Obj.data_mapFields hd _) (by simp) ?_
 refine wpAny_bind ?_
 show wpAny _ _ (newExc (.type "StopIteration") [] >>= _) _ _ _
 refine wpAny_bind ?_
 simp only[newExc,newTuple]
 refine wpAny_bind (wpAny_newObj_type (wpAny_bind (m:=firstArgMember _ _) (wpAny_of_eq (a:=Value.none) (by first|rfl|(simp only[firstArgMember];rfl)) (wpAny_newObj_type ?_ (by size_fits)))) (by size_fits))
 simp only[raiseNew]
 refine wpAny_bind (wpAny_handled ?_)
 first|rw[show A.in1.handled=none from hh]|rw[hh]
 refine wpAny_bind (wpAny_pure (wpAny_throw ?_))
 refine wpAny_bind (wpAny_isInstance (T:="StopIteration") (b:=true) ⟨_,Heap.get?_push_size _ rfl,rfl⟩ isSubtype_stop ?_)
 have e0:Heap.ExtBut a s.heap ((s.heap.update a (Obj.mapFields (·.setIfInBounds 1 (rawInt (-1))))).update a (Obj.mapFields (·.setIfInBounds 0 Value.none))):=fun b o hb e=>(Heap.SameBut.update ..).extBut b o hb ((Heap.SameBut.update ..).extBut b o hb e)
 exact wpAny_pure (hQ _ ((e0.push _).push _))
end
end D3
namespace D3
open PySem PySem.Spec
open PyProof.Rows hiding St
open L2 hiding St
def Itv(K:PySem.W.Frag)(a:Addr)(n:Nat):It:=
 ⟨fun i H=>i<n∧∃xs,SqT K H a xs∧xs.length=n,fun i H x H'=>H'=H∧∀xs,SqT K H a xs→xs[n-1-i]? = some x,fun i H=>n≤i⟩
theorem Wd{P:Program}{w:World}{K:W.Frag}{tg:Expr}(a it:Addr)(n:Nat):Turn P w K tg (Itv K a n) [it] it (fun i h=>i≤n∧IsRv h it a ((n:Int)-1-i)) where
 mem:=by simp
 obj:=fun i h st b hb=>by
  have e:b=it:=by simpa using hb
  subst e
  obtain⟨_,o,e,c,d⟩:=st
  exact⟨o,e,fun v z=>by rw[d] at z;cases z⟩
 keep:=fun i h h' st k=>⟨st.1,st.2.at fun o e=>k it (by simp) o e⟩
 item:=by
  intro X hP hw hK hc i pins s σ H E I hf st hg
  subst hP hw hK
  obtain⟨hi,xs,hq,hl⟩:=hg
  obtain⟨its,rv,p,hz⟩:=I.tuple hq
  have hx:xs[n-1-i]? = some (xs[n-1-i]'(by omega)):=List.getElem?_eq_getElem (by omega)
  obtain⟨u,hu,ru⟩:=rv.get hx
  obtain⟨f0,f1,f2,f3,f4,f5⟩:=hf it (by simp)
  have st':IsRv s.heap it a ((n-1-i:Nat):Int):=by
   have:=st.2
   rwa [show(n:Int)-1-i=((n-1-i:Nat):Int) by omega] at this
  have hz2:((its.toArray.size:Nat):Int)<2 ^ 63:=by
   have:=rv.length
   rw[sizeLine_eq] at hz
   simp only[List.size_toArray];omega
  refine Za st' (show s.heap.IsTuple a its.toArray from p) hz2 (x:=u) (by simpa using hu) fun h' tk st2 sb=>?_
  have I1:Inv X pins σ H { s with heap:=h',toks:=tk }:=I.turned (t':=tk) (fun b o hb e=>(sb.2 b hb).trans e) f0 f1 f3 f4 f5
  have st3:IsRv h' it a ((n:Int)-1-((i+1:Nat):Int)):=by
   rwa [show((n-1-i:Nat):Int)-1=(n:Int)-1-((i+1:Nat):Int) by omega] at st2
  obtain⟨o,e,c,d⟩:=id st2
  exact⟨u,rfl,Q8 (s:={ s with heap:=h',toks:=tk }) e c d (by decide) ⟨_,H,I1,ru,⟨rfl,fun ys hy=>by rw[I.tuple_inj hy hq];exact hx⟩,⟨hi,st3⟩,fun b hb=>(hf b hb).1⟩⟩
 done:=by
  intro X hP hw hK hc i pins s σ H E I hf st hg
  subst hP hw hK
  have hg:n≤i:=hg
  have e:i=n:=Nat.le_antisymm st.1 hg
  subst e
  obtain⟨f0,f1,f2,f3,f4,f5⟩:=hf it (by simp)
  have st':IsRv s.heap it a (-1):=by
   have:=st.2
   rwa [show(i:Int)-1-i = -1 by omega] at this
  exact Ab6 (I.ok.hd hc) st' fun h' eb=>⟨rfl,I.turned (t':=s.toks) (fun b o hb e=>eb b o hb e) f0 f1 f3 f4 f5⟩
 self:=fun _ _ _ _ _ st h=>Ri st.2 h
theorem Ya:bootBuiltins "reversed" = some (.type "reversed"):=by decide +kernel
section
variable{X:Cx}{tg e:Expr}
def iRev(K:PySem.W.Frag)(tA:TA):TI:=fun σ H R=>tA σ H fun vs H1=>∃a xs,vs=[.ref a]∧SqT K H1 a xs∧R (Itv K a xs.length) H1
theorem Aco{tA:TA}{p pos:Pos}(hg:Gl X "reversed")(hm:X.mg "reversed" = none)(ha:PA X [e] tA)(hs:starEach [e] X.env=[(false,eval e X.env)]:=by rfl):PI X tg (.Call (.Name "reversed" p) [e] [] pos) (iRev X.K tA):=by
 intro pins s σ H R I h
 refine Call_ (Do I hg hm Ya (PyProof.Rows.callWith_type1 (thn (ha pos pins s σ H _ I h) fun us s1 ⟨vs,H1,I1,r1,q1⟩=>?_) hs rfl))
 obtain⟨a,xs,e,hq,q⟩:=q1
 subst e
 cases r1 with
 |cons r rr=>
  cases rr
  cases r
  obtain⟨its,rv,p,hz⟩:=I1.tuple hq
  have hl:=rv.length
  have hz2:((its.toArray.size:Nat):Int)<2 ^ 63:=by
   rw[sizeLine_eq] at hz
   simp only[List.size_toArray];omega
  refine Zc (show s1.heap.IsTuple a its.toArray from p) hz2 fun tk=>?_
  have hr:IsRv (s1.heap.push (rvO a ((its.toArray.size:Int)-1))) s1.heap.objs.size a ((xs.length:Int)-1-((0:Nat):Int)):=⟨_,Heap.get?_push_size _ rfl,rfl,by
   show Data.fields #[_,rawInt _]=_
   rw[show((its.toArray.size:Nat):Int)-1=(xs.length:Int)-1-((0:Nat):Int) by simp[hl]]⟩
  refine Ri (s:={ s1 with heap:=s1.heap.push (rvO a ((its.toArray.size:Int)-1)),toks:=tk }) hr ?_
  refine⟨s1.heap.objs.size,[s1.heap.objs.size],_,_,H1,rfl,I1.kept (t':=tk) fun b o e=>Heap.get?_push_of_some _ e,Wd a _ xs.length,⟨Nat.zero_le _,hr⟩,fun b hb=>?_,q⟩
  have e:b=s1.heap.objs.size:=by simpa using hb
  subst e
  exact I1.fpOk (Nat.le_refl _) (I1.hok.fresh (Nat.le_refl _))
end
section
variable{X:Cx}{a:Expr}{body:List Stmt}{pos:Pos}
def U1(tA:DTA)(g:DTG)(tb:DTS):DTS:=fun D σ G=>tA σ G fun ds G1=>∃xs,ds=[.tup xs]∧L4 xs.reverse (fun _=>True) g tb D σ G1
theorem qs_forV{tg:Expr}{g:DTG}{tb:DTS}{tA:DTA}{p p2:Pos}(hp:PassesOwn (model X.prog X.w) X.A X.env X.xe)(hc:X.calm=true)(hm:X.mg "reversed" = none)(ha:QA X [a] tA)(hg:QG X tg g)(hb:QSs X body tb)(hgl:Gl X "reversed":=by rfl)(hst:starEach [a] X.env=[(false,eval a X.env)]:=by rfl)(hs:∀x,foldedSetIterable (.Call (.Name "reversed" p) [a] [] p2) X.env x=pure x:=by intro _;rfl) :
  QS X (.For tg (.Call (.Name "reversed" p) [a] [] p2) body [] pos) (U1 tA g tb):=(Gi hp hc (Aco hgl hm ha hst) hg hb hs).imp fun E σ H ⟨σD,G,D,rs,rg,h,cl⟩=>by
 refine⟨σD,G,_,rs,rg,h,fun ds G1 ⟨xs,ej,L⟩ H1 x1 rg1 vs dv=>?_⟩
 subst ej
 obtain⟨v,rfl,r⟩:=dv.one
 cases r with
 |@tup _ a vs e r=>
  have hl:xs.length=vs.length:=r.length
  refine⟨a,vs,rfl,.inl (.inl e),Go (J:=Itv X.K a vs.length) (rs.ext x1) rg1 (cl.go x1) (fun H' G' x' rg' _=>?_) L⟩
  have e':=x'.tup _ _ e
  have r':=DVs.ext x' r
  refine⟨fun i hi=>⟨by simp at hi;omega,vs,.inl (.inl e'),rfl⟩,fun i x H2 hi y=>?_,by show vs.length≤_;simp[hl]⟩
  rw[List.length_reverse] at hi
  obtain⟨e1,e2⟩:=y
  have:=e2 vs (.inl (.inl e'))
  obtain⟨d,hd,dx⟩:=r'.get' this
  refine⟨e1,d,?_,dx⟩
  rw[List.getElem?_reverse (by omega),hl]
  exact hd
end
end D3
namespace D3
open PySem PySem.Spec
open PyProof.Rows hiding St
open L2 hiding St
open PySem.W (kdl_call kdl_dict)
section
variable{P:Program}{w:World}{A:Around}{E:Value→Shared→Prop}{s:Shared}
theorem We{l:Addr}{vs:List Value}{ns:List Int}{Q:Value→Shared→Prop}(hh:A.handled=none)(hl:s.heap.IsList l vs.toArray)(hi:IntsAre vs ns)(h:∀(h':Heap) (t tk:Tok),(∀b o,s.heap.get? b=some o→h'.get? b=some o)→Q (.int ns.sum t) { s with heap:=h',toks:=tk }):wpAny (model P w) A (call (.builtin "sum") [.ref l]) Q E s:=by
 obtain⟨xs,e⟩:=hi.allInts.items
 have hns:ns=xs.toList.map (·.1):=by rw[←hi.numsOf,←nums_intItems,←e]
 rw[e] at hl
 refine sum_intListG hh hl fun h' tk t' hk=>?_
 have:=h h' t' tk hk
 rw[preSum_eq,List.take_of_length_le (by simp),←hns]
 exact this
theorem Vm(ns:List Int):∀j,j≤ns.length→preSum (fun i=>ns.getD i 0) j=(ns.take j).sum
 |0,_=>by simp[preSum]
 |j+1,h=>by
  have hj:j<ns.length:=by omega
  have e:ns.take (j+1)=ns.take j++[ns[j]]:=by rw[List.take_add_one,List.getElem?_eq_getElem hj];rfl
  have e2:ns.getD j 0=ns[j]:=by simp[List.getD,List.getElem?_eq_getElem hj]
  rw[preSum,Vm ns j (by omega),e,List.sum_append,e2]
  simp
end
theorem Vp{α β:Type}{F:α→β→Prop}:∀{l:List α} {m:List β},l.length=m.length→(∀(i:Nat) a b,l[i]? = some a→m[i]? = some b→F a b)→Paired F l m
 |[],[],_,_=>.nil
 |[],_::_,h,_=>by cases h
 |_::_,[],h,_=>by cases h
 |_::_,_::_,h,k=>.cons (k 0 _ _ rfl rfl) (Vp (by simpa using h) fun i a b h1 h2=>k (i+1) a b h1 h2)
theorem Q7{κ:Type}:∀{kvs:List (κ×V)} {vs:List (κ×Value)} (i:Nat) {q:κ×Value},KV kvs vs→vs[i]? = some q→∃p,kvs[i]? = some p∧p.1=q.1∧RelV p.2 q.2
 |_,_,0,_,.cons h _,e=>by cases e;exact⟨_,rfl,h⟩
 |_,_,i+1,_,.cons _ t,e=>Q7 i t e
 |_,_,0,_,.nil,e=>by cases e
 |_,_,_+1,_,.nil,e=>by cases e
section
variable{X:Cx}{o e:Expr}{to:DTE}{apos cpos pos p:Pos}
theorem T1(hc:X.calm=true):CallR X (.builtin "sum") (fun xs H Q=>∃(l:Addr) (ns:List Int),xs=[.ref l]∧SqL X.K H l (ns.map V.int)∧Q (.int ns.sum) H):=by
 intro pins s σ H xs us Q I r h
 obtain⟨l,ns,rfl,hl,q⟩:=h
 obtain⟨u,rfl,rx⟩:=Dg r
 cases rx
 obtain⟨its,rv,pl,_⟩:=I.list hl
 exact We (I.ok.hd hc) pl.isList (D3.Ev rv) fun h' t tk k=>⟨.int _,H,I.kept k,⟨t,rfl⟩,q⟩
theorem c_sumL(hc:X.calm=true):QC X (.builtin "sum") (fun ds G Q=>∃d,ds=[d]∧∃p,d=.ref p∧∃ns:List Int,G p=some (.lst (ns.map D.int))∧Q (.int ns.sum) G):=(T1 hc).imp fun xs H Q ⟨ds,G,Q',dv,rg,⟨d,e,p,ep,ns,eg,q⟩,cl⟩=>by
 subst e ep
 obtain⟨v,rfl,h⟩:=dv.one
 cases h
 obtain⟨ys,eh,r⟩:=rg p _ eg
 rw[Dd r] at eh
 exact⟨p,ns,rfl,.inl (.inl eh),cl _ _ q _ (Ext.refl H) rg _ (.int _)⟩
theorem T0(hc:X.calm=true):CallR X (.builtin "sum") (fun xs H Q=>∃(v a:Addr) (kvs:List (Key×V)) (ns:List Int),xs=[.ref v]∧H v=some (.frz (Us a) Hh)∧H a=some (.dK kvs)∧kvs.map (·.2)=ns.map V.int∧Q (.int ns.sum) H):=by
 intro pins s σ H xs us Q I r h
 obtain⟨v,a,kvs,ns,rfl,hv,ha,hn,q⟩:=h
 obtain⟨u,rfl,rx⟩:=Dg r
 cases rx
 obtain⟨_,hd,vs,rel,dd⟩:=Hb I.hok ha
 obtain⟨ep,hat⟩:=dd.dictAt
 have hvv:s.heap.IsValuesView v a:=⟨_,(I.hok v _ hv).1,rfl,rfl⟩
 have hh:=I.ok.hd hc
 have hlen:vs.length=ns.length:=by
  have h1:kvs.length=vs.length:=Paired.length rel
  have h2:=congrArg List.length hn
  simp only[List.length_map] at h2
  omega
 refine call_sum_walkG (wpAny_pyIter_values hvv hat ⟨_,_,_,_,_,_,fun i=>ns.getD i 0,rfl,Walks.dictValues (A:=X.A.in1) hh _ a (Nat.ne_of_lt hat.lt_size) vs ep,⟨⟨_,Heap.get?_push_size _ rfl,rfl,rfl⟩,hat.push _⟩,fun b hb=>?_,fun i z ⟨k,hz⟩=>?_,fun h' tk t' hk=>?_⟩)
 ·show b<(s.heap.push _).objs.size
  rw[Heap.size_push]
  simp only[List.mem_cons,List.not_mem_nil,or_false] at hb
  rcases hb with rfl|rfl
  ·exact Nat.lt_succ_self _
  ·exact Nat.lt_succ_of_lt hat.lt_size
 ·obtain⟨p,e1,e2,e3⟩:=Q7 i rel hz
  have e4:(kvs.map (·.2))[i]? = some p.2:=by rw[List.getElem?_map,e1];rfl
  rw[hn,List.getElem?_map] at e4
  obtain⟨n,e5,e6⟩:=Option.map_eq_some_iff.mp e4
  rw[←e6] at e3
  obtain⟨t,e7⟩:=e3
  exact⟨t,by have e8:z=Value.int n t:=e7;rw[e8];simp[List.getD,e5]⟩
 ·rw[hlen,Vm ns _ (Nat.le_refl _),List.take_length]
  exact⟨.int _,H,I.kept (t':=tk) fun b o e=>hk b o (by simp;exact Nat.ne_of_lt (Heap.lt_size e)) (Heap.get?_push_of_some _ e),⟨t',rfl⟩,q⟩
def Abd(to:DTE):DTE:=fun σ G Q=>to σ G fun x G1=>∃p,x=.ref p∧∃kvs,G1 p=some (.dkk kvs)∧∃ns:List Int,kvs.map (·.2)=ns.map D.int∧Q (.int ns.sum) G1
theorem Ox{K:W.Frag}{H:Hp}:∀{kvs:List (Key×D)} {ks:List (Key×V)} {ns:List Int},Paired (fun(p:Key×D) (q:Key×V)=>p.1=q.1∧DV K H p.2 q.2) kvs ks→kvs.map (·.2)=ns.map D.int→ks.map (·.2)=ns.map V.int
 |[],_,ns,.nil,e=>by
  cases ns with
  |nil=>rfl
  |cons n r=>cases e
 |(k,d)::r,_,ns,.cons (b:=q) h t,e=>by
  cases ns with
  |nil=>cases e
  |cons n ns=>
   simp only[List.map_cons,List.cons.injEq] at e ⊢
   have h2:=h.2
   rw[e.1] at h2
   cases q with
   |mk k' v=>
    dsimp only at h2 ⊢
    cases h2
    exact⟨rfl,Ox t e.2⟩
theorem Acb(hc:X.calm=true)(hm:X.mg "sum" = none)(ho:QE X o to)(hg:Gl X "sum":=by rfl)(hbase:attributeBase o "values" X.env (eval o X.env)=eval o X.env:=by rfl)(hline:(apos.endLine == cpos.line)=true:=by rfl)(he:starEach [.Call (.Attribute o "values" apos) [] [] cpos] X.env=(false,eval (.Call (.Attribute o "values" apos) [] [] cpos) X.env)::starEach [] X.env:=by rfl)(hpl:(backTo pos (starEach [] X.env)).any (·.1)=false:=by rfl) :
  QE X (.Call (.Name "sum" p) [.Call (.Attribute o "values" apos) [] [] cpos] [] pos) (Abd to):=
 (Iv (T0 hc) hg hm (by decide +kernel) (Fr (Ta ho hbase hline) pa_nil he) (by decide) (by decide) he hpl).imp fun σ H Q ⟨σD,G,Q',rs,rg,h,cl⟩=>by
 refine⟨σD,G,_,rs,rg,h,fun d G1 ⟨p,ep,kvs,eg,ns,en,q⟩ H1 x1 rg1 v dv=>?_⟩
 subst ep;cases dv
 obtain⟨ks,ek,r⟩:=rg1 p _ eg
 refine⟨p,ks,rfl,ek,fun v hv=>⟨v,p,ks,ns,rfl,Ar,by rw[Am (Bf ek hv)];exact ek,Ox r en,cl _ _ q _ (x1.trans (Ext.fresh hv)) (rg1.tup hv) _ (.int _)⟩⟩
theorem Oz{K:W.Frag}{H:Hp}:∀{kvs:List (Key×D)} {ks:List (Key×V)},Paired (fun(p:Key×D) (q:Key×V)=>p.1=q.1∧DV K H p.2 q.2) kvs ks→∀{H':Hp},DVs K H' (kvs.map fun p=>kD p.1) (ks.map fun p=>kV p.1)
 |_,_,.nil,_=>.nil
 |(k,d)::_,(k',v)::_,.cons h t,_=>by
  have e:k=k':=h.1
  subst e
  refine .cons ?_ (Oz t)
  cases k with
  |inl i=>exact .int i
  |inr x=>exact .str x
theorem Qu(hc:X.calm=true):CallR X (.type "list") (fun xs H Q=>∃(a:Addr) (kvs:List (Key×V)),xs=[.ref a]∧H a=some (.dK kvs)∧∀l,H l=none→Q (.ref l) (upd H l (.lst (kvs.map fun p=>kV p.1)))):=by
 intro pins s σ H xs us Q I r h
 obtain⟨a,kvs,rfl,ha,q⟩:=h
 obtain⟨u,rfl,rx⟩:=Dg r
 cases rx
 obtain⟨hz,hd,vs,rel,dd⟩:=Hb I.hok ha
 obtain⟨ep,hat⟩:=dd.dictAt
 have hl:kvs.length=vs.length:=Paired.length rel
 refine kdl_call (kdl_dict (knd:=A4 X.prog X.w) (kvs:=vs) (ep:=ep) hd) (I.ok.hd hc) hat (by omega) fun h' tk acc c hk hS hI=>?_
 have rv:Vals (kvs.map fun p=>kV p.1) acc.toList:=by
  refine Vp (by have:=hI.1;simp only[List.length_map,Array.length_toList];omega) fun i x y e1 e2=>?_
  obtain⟨k,z,h1,h2⟩:=hI.2 i y (by rw[←Array.getElem?_toList];exact e2)
  obtain⟨p,h3,h4,_⟩:=Q7 i rel h1
  rw[List.getElem?_map,h3] at e1
  cases e1
  dsimp only at h4 ⊢
  rw[h4]
  rcases A7 h2 with ⟨j,t,rfl,rfl⟩|⟨j,t,rfl,rfl⟩
  ·exact⟨t,rfl⟩
  ·exact⟨t,rfl⟩
 refine⟨.ref s.heap.objs.size,_,I.laid (t':=tk) hk (Nat.le_refl _) (show ObjOk X.prog X.w _ h' _ (.lst (kvs.map fun p=>kV p.1)) from⟨by rw[List.length_map];exact hz,acc.toList,c,rv,by simpa using hS⟩),rfl,q _ (I.hok.fresh (Nat.le_refl _))⟩
theorem Sg(hc:X.calm=true):QC X (.type "list") (fun ds G Q=>∃d,ds=[d]∧∃p,d=.ref p∧∃kvs,G p=some (.dkk kvs)∧∀l,G l=none→Q (.ref l) (Ac G l (.lst (kvs.map fun q=>kD q.1)))):=(Qu hc).imp fun xs H Q ⟨ds,G,Q',dv,rg,⟨d,e,p,ep,kvs,eg,q⟩,cl⟩=>by
 subst e ep
 obtain⟨v,rfl,h⟩:=dv.one
 cases h
 obtain⟨ks,ek,r⟩:=rg p _ eg
 exact⟨p,ks,rfl,ek,fun l hl=>cl _ _ (q l (rg.free hl)) _ (Ext.fresh hl) (rg.new hl ⟨_,Ar,Oz r⟩) _ (.ref l)⟩
theorem Sa{K:W.Frag}{H:Hp}:∀{ds:List D} {vs:List V},DVs K H ds vs→DVs K H ds.reverse vs.reverse
 |_,_,.nil=>.nil
 |_,_,.cons h t=>by rw[List.reverse_cons,List.reverse_cons];exact(Sa t).append (.cons h .nil)
def Uz(to:DTE):DTE:=fun σ G Q=>to σ G fun x G1=>∃p,x=.ref p∧∃ds,G1 p=some (.lst ds)∧Q .non (Ac G1 p (.lst ds.reverse))
theorem Vk(ho:QE X o to)(hbase:attributeBase o "reverse" X.env (eval o X.env)=eval o X.env:=by rfl)(hline:(apos.endLine == cpos.line)=true:=by rfl):QE X (.Call (.Attribute o "reverse" apos) [] [] cpos) (Uz to):=
 (Acy PySem.F.plainAttrs_list PySem.F.slot_list_reverse PySem.F.type_list_reverse Ql ho hbase hline).imp fun σ H Q ⟨σD,G,Q',rs,rg,h,cl⟩=>by
 refine⟨σD,G,_,rs,rg,h,fun d G1 ⟨p,ep,ds,eg,q⟩ H1 x1 rg1 v dv=>?_⟩
 subst ep;cases dv
 obtain⟨xs,ex,r⟩:=rg1 p _ eg
 refine⟨.inl ⟨rfl,xs,.inl (.inl ex)⟩,p,xs,rfl,rfl,ex,cl _ _ q _ (x1.trans (D6 ex)) (rg1.lstw ex (Sa r)) _ .non⟩
end
end D3
namespace D3
open PySem PySem.Spec
open PyProof.Rows hiding St
open L2 hiding St
def fiv(m i:Nat):Nat:=(i*5+1) % (m+1)
def orb(m:Nat):Nat→Nat→List Nat
 |0,_=>[]
 |n+1,i=>i::orb m n (fiv m i)
def Pu(m:Nat):Nat→Nat→Nat
 |0,i=>i
 |n+1,i=>Pu m n (fiv m i)
theorem Mk(m:Nat):∀(n i e:Nat),e∈orb m n i→∃k,k<n∧Pu m k i=e
 |0,_,_,h=>by simp[orb] at h
 |n+1,i,e,h=>by
  rcases List.mem_cons.mp h with rfl|h
  ·exact⟨0,by omega,rfl⟩
  ·obtain⟨k,hk,e⟩:=Mk m n _ e h
   exact⟨k+1,by omega,e⟩
theorem F2(m:Nat):∀(a b i:Nat),Pu m (a+b) i=Pu m b (Pu m a i)
 |0,b,i=>by rw[Nat.zero_add];rfl
 |a+1,b,i=>by rw[show a+1+b=(a+b)+1 by omega];exact F2 m a b _
structure Round(m:Nat):Prop where
 all:∀e,e<m+1→e∈orb m (m+1) 0
 rnd:Pu m (m+1) 0=0
theorem Round.to{m:Nat}(R:Round m){i e:Nat}(hi:i≤m)(he:e≤m):∃k,k≤m∧Pu m k i=e:=by
 obtain⟨a,ha,ea⟩:=Mk m _ _ _ (R.all i (by omega))
 obtain⟨b,hb,eb⟩:=Mk m _ _ _ (R.all e (by omega))
 by_cases h:a≤b
 ·refine⟨b-a,by omega,?_⟩
  rw[←ea,←F2,show a+(b-a)=b by omega,eb]
 ·refine⟨(m+1-a)+b,by omega,?_⟩
  rw[←ea,←F2,show a+(m+1-a+b)=(m+1)+b by omega,F2,R.rnd,eb]
end D3
namespace D3
open PySem PySem.Spec
open PyProof.Rows hiding St
open L2 hiding St
end D3
namespace D3
open PySem PySem.Spec
open PyProof.Rows hiding St
open L2 hiding St
structure SOkC(w:World)(es:Array (Int×Value))(t:SetTable)(L:List (Int×Value)):Prop where
 tok:TOk w t
 fit:t.fits es.size=true
 pm:es.toList.Perm L
 bnd:∀x∈t.place.toList,x≤t.mask
 msk:t.mask=7∧L.length≤4∨t.mask=31∧L.length≤18∨t.mask=127∧L.length≤76∨t.mask=511∧L.length≤300
section
variable{P:Program}{w:World}{A:Around}{E:Value→Shared→Prop}{s:Shared}{es:Array (Int×Value)}{t:SetTable}{L:List (Int×Value)}
theorem SOkC.len(h:SOkC w es t L):es.size=L.length:=by rw[←h.pm.length_eq,Array.length_toList]
theorem SOkC.base(h:SOkC w es t L):SBase w es t:=⟨h.tok,h.fit,by rw[h.len];have:=h.msk;show L.length<4096;omega⟩
end
end D3
namespace D3
open PySem PySem.Spec
open PyProof.Rows hiding St
open L2 hiding St
section
variable{P:Program}{w:World}{A:Around}{R:Result→Shared→Prop}{E:Value→Shared→Prop}{s:Shared}
def AreC(P:Program)(w:World)(h:Heap)(cs:List (Int×Int))(vs:List Value)(no:List Addr):Prop:=∀p∈cs.zip vs,∃b,p.2=.ref b∧b ∉ no∧IsTupleKey (intKind P w) h [p.1.1,p.1.2] b
theorem AreC.keep{h g:Heap}{cs:List (Int×Int)}{vs:List Value}{no:List Addr}(a:AreC P w h cs vs no)(k:∀b o,b ∉ no→h.get? b=some o→g.get? b=some o):AreC P w g cs vs no:=fun p hp=>by
 obtain⟨b,e,hn,o,items,n,ho,hr⟩:=a p hp
 exact⟨b,e,hn,o,items,n,k b o hn ho,hr⟩
end
end D3
namespace D3
open PySem PySem.Spec
open PyProof.Rows hiding St
open L2 hiding St
section
variable{P:Program}{w:World}{A:Around}{E:Value→Shared→Prop}{s:Shared}
end
end D3
namespace D3
open PySem PySem.Spec
open PyProof.Rows hiding St
open L2 hiding St
section
variable{P:Program}{w:World}{A:Around}{E:Value→Shared→Prop}{s:Shared}
end
def Fw(H:Hp)(bs:List Addr)(cs:List (Int×Int)):Prop:=Paired (fun b m=>H b=some (.tup [.int m.1,.int m.2])) bs cs
section
variable{X:Cx}{pins:List (Addr×Obj)}{σ:L2.St}{H:Hp}{s:Shared}{bs:List Addr}{cs:List (Int×Int)}
theorem W7(I:Inv X pins σ H s){b:Addr}{m:Int×Int}(e:H b=some (.tup [.int m.1,.int m.2])):PairAt s.heap (.ref b) m:=by
 obtain⟨_,its,rv,ox,hx,hc,n,hd⟩:=(show ObjOk X.prog X.w H s.heap b (.tup _) from I.hok _ _ e)
 match its,rv,hd with
 |[_,_],.cons ⟨t1,rfl⟩ (.cons ⟨t2,rfl⟩ .nil),hd=>exact⟨_,ox,t1,t2,n,rfl,hx,hc,hd⟩
end
section
variable{X:Cx}
theorem Gr{K:W.Frag}{H:Hp}:∀{cs:List (Int×Int)} {xs:List V},DVs K H (cs.map Bq) xs→∃bs:List Addr,xs=bs.map V.ref∧Fw H bs cs
 |[],_,.nil=>⟨[],rfl,.nil⟩
 |c::r,_,.cons (.tup (a:=a) e z) t=>by
  obtain⟨bs,e1,c1⟩:=Gr t
  cases z with
  |cons h1 t1=>
   cases h1
   cases t1 with
   |cons h2 t2=>
    cases h2
    cases t2
    exact⟨a::bs,by rw[e1];rfl,.cons e c1⟩
end
end D3
namespace D3
open PySem PySem.Spec
open PyProof.Rows hiding St
open L2 hiding St
section
variable{X:Cx}{e:Expr}{te:DTE}{pos:Pos}{n:Nat}
end
end D3
namespace D3
open PySem PySem.Spec
open PyProof.Rows hiding St
open L2 hiding St
def Cw:List Int→List Int→Bool
 |[],[]=>false
 |[],_::_=>true
 |_::_,[]=>false
 |x::r,y::q=>if x=y then Cw r q else decide (x<y)
section
variable{P:Program}{w:World}{A:Around}{E:Value→Shared→Prop}{s:Shared}
theorem Ki{x y:List Int}{a b:Addr}{Q:Fin→Shared→Prop}(hx:IsTupleKey (intKind P w) s.heap x a)(hy:IsTupleKey (intKind P w) s.heap y b)(h:Q (.done (.ret (.bool (Cw x y)))) s) :
  wpAny (model P w) A (Builtin.«tuple.__lt__» ⟨[.ref a,.ref b],[]⟩) Q E s:=by
 have hTb:=hy.typeIs
 obtain⟨oa,xs,na,hoa,_,hda,hia⟩:=hx
 obtain⟨ob,ys,nb,hob,_,hdb,hib⟩:=hy
 show wpAny _ _ (isInstance (.ref b) (.type "tuple") >>= _) _ _ s
 refine wpAny_bind (wpAny_isInstance hTb isSubtype_tuple_tuple ?_)
 simp only[Bool.not_true,Bool.false_eq_true,if_false]
 refine wpAny_bind (wpAny_tupleItemsOf hoa hda ?_)
 refine wpAny_bind (wpAny_tupleItemsOf hob hdb ?_)
 refine wpAny_bind ?_
 refine wpAny_forIn_list _
  (fun rest r s'=>r.1=none∧s'=s∧∃x' y' xs' ys',rest=List.zip xs' ys'∧ItemsAre (intKind P w) x' xs'∧ItemsAre (intKind P w) y' ys'∧Cw x' y'=Cw x y∧decide (xs'.length<ys'.length)=decide (xs.size<ys.size))
  _ ?_ ?_ _ _ ⟨rfl,rfl,x,y,xs.toList,ys.toList,rfl,hia,hib,rfl,by simp⟩
 ·rintro⟨u,v⟩ rest r s' ⟨hr,rfl,x',y',xs',ys',hz,hx',hy',hdec,hlen⟩
  cases hx' with
  |nil=>simp at hz
  |@cons k1 u' x'' xs'' h1 hx''=>
   cases hy' with
   |nil=>simp at hz
   |@cons k2 v' y'' ys'' h2 hy''=>
    simp only[List.zip_cons_cons,List.cons.injEq,Prod.mk.injEq] at hz
    obtain⟨⟨rfl,rfl⟩,rfl⟩:=hz
    refine wpAny_bind ((intKind P w).eqBool (a:=k1) (b:=k2) h1 h2 ?_)
    by_cases hk:k1=k2
    ·subst hk
     rw[decide_eq_true rfl]
     simp only[Bool.not_true,Bool.false_eq_true,if_false]
     refine wpAny_pure ⟨rfl,rfl,x'',y'',xs'',ys'',rfl,hx'',hy'',?_,by simpa using hlen⟩
     rw[←hdec,Cw,if_pos rfl]
    ·rw[decide_eq_false hk]
     simp only[Bool.not_false,if_true]
     have hf:Cw x y=decide (k1<k2):=by rw[←hdec,Cw,if_neg hk]
     rw[hf] at h
     obtain⟨t1,rfl⟩:=Value.isInt_shape h1
     obtain⟨t2,rfl⟩:=Value.isInt_shape h2
     refine wpAny_bind (wpAny_rule (wpAny_bind (show wpAny _ _ (compareOp .Lt (.int k1 t1) (.int k2 t2)) _ _ _ from wpAny_lt_int ?_)))
     exact wpAny_bind (wpAny_pure (wpAny_pure (wpAny_pure h)))
 ·rintro⟨r1,r2⟩ s' ⟨hr,rfl,x',y',xs',ys',hz,hx',hy',hdec,hlen⟩
  simp only at hr
  subst hr
  refine wpAny_pure ?_
  have hfin:decide (xs.size<ys.size)=Cw x y:=by
   rw[←hdec,←hlen]
   cases hx' with
   |nil=>
    cases hy' with
    |nil=>rfl
    |cons _ _=>simp[Cw]
   |cons _ _=>
    cases hy' with
    |nil=>simp[Cw]
    |cons _ _=>simp at hz
  show Q (.done (.ret (.bool (decide (xs.size<ys.size))))) s'
  rw[hfin];exact h
theorem Op{x y:List Int}{a b:Addr}{Q:Value→Shared→Prop}(hu:A.units<cLine)(hx:IsTupleKey (intKind P w) s.heap x a)(hy:IsTupleKey (intKind P w) s.heap y b)(h:Q (.bool (Cw x y)) s):wpAny (model P w) A (richCompare .Lt (.ref a) (.ref b)) Q E s:=
 wpAny_richCompare_same_room (op:=.Lt) hx.typeIs hy.typeIs F.slot_tuple_lt (wpAny_call_entry F.slot_tuple_lt hx.typeIs F.entry_tuple_lt (Ki hx hy ⟨_,rfl,(fun e=>nomatch e),h⟩) (F.args_tuple_lt_2 _ _)) hu
end
instance (a b:Int×Int):Decidable (Br a b):=inferInstanceAs (Decidable (_∨_))
theorem Tm{a b:Int×Int}:Cw [a.1,a.2] [b.1,b.2]=decide (Br a b):=by
 rw[Bool.eq_iff_iff,decide_eq_true_eq]
 unfold Br
 simp only[Cw]
 by_cases h1:a.1=b.1
 ·rw[if_pos h1]
  by_cases h2:a.2=b.2
  ·rw[if_pos h2];constructor
   ·intro z;cases z
   ·intro z;omega
  ·rw[if_neg h2,decide_eq_true_eq];omega
 ·rw[if_neg h1,decide_eq_true_eq];omega
theorem PairAt.key{P:Program}{w:World}{h:Heap}{v:Value}{p:Int×Int}(x:PairAt h v p):∃a,v=.ref a∧IsTupleKey (intKind P w) h [p.1,p.2] a:=by
 obtain⟨a,o,t,u,n,e,x2,x3,x4⟩:=x
 exact⟨a,e,o,_,n,x2,x3,x4,.cons (intKind_is _ _ _ _) (.cons (intKind_is _ _ _ _) .nil)⟩
section
variable{X:Cx}{n:Nat}
theorem Jw{P:Program}{w:World}:∀{ns:List Int} {its:List Value},Vals (ns.map V.int) its→ItemsAre (intKind P w) ns its
 |[],_,.nil=>.nil
 |n::r,_,.cons ⟨t,rfl⟩ h=>.cons (intKind_is _ _ _ _) (Jw h)
theorem op_ltT(hr:Room n X.A):OpR X (compareOp .Lt) (fun x y H Q=>∃a b ns ms,x=.ref a∧y=.ref b∧H a=some (.tup (ns.map V.int))∧H b=some (.tup (ms.map V.int))∧Q (.bl (Cw ns ms)) H):=by
 intro pins s σ H x y v u Q I rx ry h
 obtain⟨a,b,ns,ms,rfl,rfl,ha,hb,q⟩:=h
 obtain rfl:v=Value.ref a:=rx
 obtain rfl:u=Value.ref b:=ry
 have key:∀{c:Addr} {ks:List Int},H c=some (.tup (ks.map V.int))→IsTupleKey (intKind X.prog X.w) s.heap ks c:=fun {c ks} e=>by
  obtain⟨_,its,rv,o,ho,hc,n,hd⟩:=(show ObjOk X.prog X.w H s.heap c (.tup _) from I.hok _ _ e)
  exact⟨o,_,n,ho,hc,hd,by simpa using Jw rv⟩
 exact Op (by have:=hr.un;omega) (key ha) (key hb) ⟨.bl _,H,I,rfl,q⟩
def dLtT:DR2:=fun x y G Q=>∃ns ms:List Int,x=.tup (ns.map D.int)∧y=.tup (ms.map D.int)∧Q (.bl (Cw ns ms)) G
theorem o_ltT(hr:Room n X.A):QOp X (compareOp .Lt) dLtT:=L2.OpR.imp (op_ltT hr) fun x y H Q ⟨dx,dy,G,Q',hx,hy,rg,⟨ns,ms,e1,e2,q⟩,cl⟩=>by
 subst e1 e2
 cases hx with
 |tup e r=>
  cases hy with
  |tup e' r'=>
   rw[Dd r] at e
   rw[Dd r'] at e'
   exact⟨_,_,ns,ms,rfl,rfl,e,e',cl _ _ q H (Ext.refl H) rg _ (.bl _)⟩
end
end D3
namespace D3
open PySem PySem.Spec
open PyProof.Rows hiding St
open L2 hiding St
def CmpH(P:Program)(w:World)(A:Around)(Hv:Heap→Prop)(V:Nat→Value→Prop)(bt:Nat→Nat→Bool):Prop:=
 ∀i j vi vj (s:Shared) (Q:Value→Shared→Prop) (E:Value→Shared→Prop),Hv s.heap→V i vi→V j vj→Q (.bool (bt i j)) s→wpAny (model P w) A (richCompare .Lt vi vj) Q E s
section
variable{P:Program}{w:World}{A:Around}{R:Result→Shared→Prop}{it S:Addr}{fp wr:List Addr}{n:Nat}{V:Nat→Value→Prop}{st:Nat→Heap→Prop}{bt:Nat→Nat→Bool}{kw:List (Str×Value)}{Hv:Heap→Prop}
abbrev MnEnd(R:Result→Shared→Prop)(V:Nat→Value→Prop)(bt:Nat→Nat→Bool)(n:Nat)(wr:List Addr)(S:Addr)(s:Shared):Prop:=
 ∀v g tk,V (argBest bt (n-1)) v→(∀b o,b ∉ wr→b≠S→s.heap.get? b=some o→g.get? b=some o)→R (.ok (.ret v)) { s with heap:=g,toks:=tk }
theorem Ft:(toString "min" ++ toString ".loop" : String) = "min.loop":=by decide
theorem Aal(W:Walks P w A.in1 it fp wr n V st)(cmp:CmpH P w A.in1 Hv V bt)(hv:∀h h',Hv h→(∀b o,b ∉ wr→b≠S→h.get? b=some o→h'.get? b=some o)→Hv h')(off:S ∉ fp)(k:Nat):∀(j:Nat) (s:Shared) (best:Value) (c:Nat),n-(j+1)=k→j+1≤n→Hv s.heap→st (j+1) s.heap→V (argBest bt j) best→
  s.heap.get? S=some (seqObj "list" #[best,best] c)→MnEnd R V bt n wr S s→codeAny (model P w) A (.builtin "min.loop" ⟨[.ref it,.none,.ref S],kw⟩) R s:=by
 have offW:S ∉ wr:=fun z=>off (W.sub _ z)
 induction k with
 |zero=>
  intro j s best c e1 e2 hH h0 hb hS fin
  have e3:j+1=n:=by omega
  refine codeAny_builtin F.entry_min_loop ?_;rw[Around.under_plainId F.plain_min_loop _]
  show wpAny _ A.in1 (seqItems? (.ref S) >>= _) _ _ s;refine wpAny_bind (wpAny_seqItems hS rfl ?_)
  show wpAny _ A.in1 (tryCatch (pyNext (.ref it)) _ >>= _) _ _ s;refine wpAny_bind (wpAny_tryCatch (W.done s _ _ (e3 ▸ h0) fun g tk kp=>?_))
  show wpAny _ A.in1 (updateSeq S (fun _=>#[]) >>= _) _ _ _;refine wpAny_bind (wpAny_updateSeq (kp S _ offW hS) rfl (wpAny_bind (wpAny_letGo (wpAny_pure ?_))))
  exact fin best _ tk (by rw[←e3];exact hb) fun b o nw nS e=>(Heap.get?_update_other _ _ (Ne.symm nS)).trans (kp b o nw e)
 |succ k ih=>
  intro j s best c e1 e2 hH h0 hb hS fin
  have e3:j+1<n:=by omega
  refine codeAny_builtin F.entry_min_loop ?_;rw[Around.under_plainId F.plain_min_loop _]
  show wpAny _ A.in1 (seqItems? (.ref S) >>= _) _ _ s;refine wpAny_bind (wpAny_seqItems hS rfl ?_)
  show wpAny _ A.in1 (tryCatch (pyNext (.ref it)) _ >>= _) _ _ s;refine wpAny_bind (wpAny_tryCatch (W.item (j+1) s _ _ e3 h0 fun v g tk hv1 h1 kp=>?_))
  have hS2:=kp S _ offW hS
  show wpAny _ A.in1 (tryCatch (holding [v,v] (richCompare .Lt v best >>= _)) _ >>= _) _ _ _
  refine wpAny_bind (wpAny_tryCatch (wpAny_holding (wpAny_bind (cmp (j+1) (argBest bt j) v best _ _ _ (hv _ _ hH fun b o nw _ e=>kp b o nw e) hv1 hb (wpAny_bind (wpAny_holding (wpAny_truthy_bool (wpAny_bind (wpAny_letGo (wpAny_pure ?_))))))))));cases q:bt (j+1) (argBest bt j) with
  |true=>
   simp only[if_true];refine wpAny_bind (wpAny_updateSeq hS2 rfl (wpAny_bind (wpAny_letGo ?_)));rw[Ft]
   refine wpAny_pure ⟨plainId_quiet F.plain_min_loop _,ih (j+1) _ v _ (by omega) e3 (hv _ _ hH fun b o nw nS e=>(Heap.get?_update_other _ _ (Ne.symm nS)).trans (kp b o nw e)) (W.frame _ _ _ h1 fun b hf o e=>?_) (by simp only[argBest,q,if_true];exact hv1) (Heap.get?_update_self _ hS2 rfl) fun v' g' tk' hv' kp'=>?_⟩
   ·exact(Heap.get?_update_other _ _ fun z:S=b=>off (by rw[z];exact hf)).trans e
   ·exact fin v' g' tk' hv' fun b o nw nS e=>kp' b o nw nS ((Heap.get?_update_other _ _ (Ne.symm nS)).trans (kp b o nw e))
  |false=>
   simp only[Bool.false_eq_true,if_false];refine wpAny_bind (wpAny_letGo ?_);rw[Ft]
   refine wpAny_pure ⟨plainId_quiet F.plain_min_loop _,ih (j+1) _ best c (by omega) e3 (hv _ _ hH fun b o nw _ e=>kp b o nw e) h1 (by simp only[argBest,q,Bool.false_eq_true,if_false];exact hb) hS2 fun v' g' tk' hv' kp'=>?_⟩
   exact fin v' g' tk' hv' fun b o nw nS e=>kp' b o nw nS (kp b o nw e)
theorem Xk(W:Walks P w A.in1 it fp wr n V st)(cmp:CmpH P w A.in1 Hv V bt)(hv:∀h h',Hv h→(∀b o,b ∉ wr→b≠S→h.get? b=some o→h'.get? b=some o)→Hv h')(off:S ∉ fp)(hn:0<n){s:Shared}{c:Nat}(hH:Hv s.heap)(h0:st 0 s.heap)(hS:s.heap.get? S=some (seqObj "list" #[] c))(fin:MnEnd R V bt n wr S s) :
  codeAny (model P w) A (.builtin "min.loop" ⟨[.ref it,.none,.ref S],kw⟩) R s:=by
 have offW:S ∉ wr:=fun z=>off (W.sub _ z)
 refine codeAny_builtin F.entry_min_loop ?_;rw[Around.under_plainId F.plain_min_loop _]
 show wpAny _ A.in1 (seqItems? (.ref S) >>= _) _ _ s;refine wpAny_bind (wpAny_seqItems hS rfl ?_)
 show wpAny _ A.in1 (tryCatch (pyNext (.ref it)) _ >>= _) _ _ s;refine wpAny_bind (wpAny_tryCatch (W.item 0 s _ _ hn h0 fun v g tk hv1 h1 kp=>?_))
 have hS2:=kp S _ offW hS
 show wpAny _ A.in1 (updateSeq S (fun _=>#[v,v]) >>= _) _ _ _;refine wpAny_bind (wpAny_updateSeq hS2 rfl ?_);rw[Ft]
 refine wpAny_pure ⟨plainId_quiet F.plain_min_loop _,Aal W cmp hv off _ 0 _ v _ rfl hn (hv _ _ hH fun b o nw nS e=>(Heap.get?_update_other _ _ (Ne.symm nS)).trans (kp b o nw e)) (W.frame _ _ _ h1 fun b hf o e=>?_) hv1 (Heap.get?_update_self _ hS2 rfl) fun v' g' tk' hv' kp'=>?_⟩
 ·exact(Heap.get?_update_other _ _ fun z:S=b=>off (by rw[z];exact hf)).trans e
 ·exact fin v' g' tk' hv' fun b o nw nS e=>kp' b o nw nS ((Heap.get?_update_other _ _ (Ne.symm nS)).trans (kp b o nw e))
theorem Aam{d:Value}{k:Str}(W:Walks P w A.in1 it fp wr 0 V st)(off:S ∉ fp){s:Shared}{c:Nat}(h0:st 0 s.heap)(hS:s.heap.get? S=some (seqObj "list" #[] c))(fin:∀g tk,(∀b o,b ∉ wr→s.heap.get? b=some o→g.get? b=some o)→R (.ok (.ret d)) { s with heap:=g,toks:=tk }) :
  codeAny (model P w) A (.builtin "min.loop" ⟨[.ref it,.none,.ref S],[(k,d)]⟩) R s:=by
 refine codeAny_builtin F.entry_min_loop ?_;rw[Around.under_plainId F.plain_min_loop _]
 show wpAny _ A.in1 (seqItems? (.ref S) >>= _) _ _ s;refine wpAny_bind (wpAny_seqItems hS rfl ?_)
 show wpAny _ A.in1 (tryCatch (pyNext (.ref it)) _ >>= _) _ _ s;refine wpAny_bind (wpAny_tryCatch (W.done s _ _ h0 fun g tk kp=>?_))
 show wpAny _ A.in1 (rule _ >>= _) _ _ _
 exact wpAny_bind (wpAny_rule (wpAny_pure (fin g tk kp)))
end
section
variable{P:Program}{w:World}{A:Around}{E:Value→Shared→Prop}{s:Shared}
def Et(P:Program)(w:World)(N:Nat)(vs:List Value)(ps:List (Int×Int))(h:Heap):Prop:=∀(i:Nat) v p,vs[i]? = some v→ps[i]? = some p→∃a,v=.ref a∧a<N∧IsTupleKey (intKind P w) h [p.1,p.2] a
def btP(ps:List (Int×Int))(i j:Nat):Bool:=decide (Br (ps.getD i (0,0)) (ps.getD j (0,0)))
theorem Adg{a:Int×Int}:¬Br a a:=by unfold Br;omega
theorem Adf{a b c:Int×Int}(h:Br a b)(h2:Br b c):Br a c:=by unfold Br at *;omega
theorem Ly(ps:List (Int×Int)):∀n,argBest (btP ps) n≤n∧∀j,j≤n→¬Br (ps.getD j (0,0)) (ps.getD (argBest (btP ps) n) (0,0))
 |0=>⟨Nat.le_refl _,fun j hj=>by obtain rfl:j=0:=Nat.le_zero.mp hj;exact Adg⟩
 |n+1=>by
  obtain⟨h1,h2⟩:=Ly ps n
  rw[argBest]
  by_cases hb:btP ps (n+1) (argBest (btP ps) n)=true
  ·rw[if_pos hb]
   refine⟨Nat.le_refl _,fun j hj z=>?_⟩
   have hb':Br (ps.getD (n+1) (0,0)) (ps.getD (argBest (btP ps) n) (0,0)):=of_decide_eq_true hb
   by_cases e:j=n+1
   ·subst e;unfold Br at z;omega
   ·exact h2 j (by omega) (Adf z hb')
  ·rw[if_neg hb]
   refine⟨by omega,fun j hj z=>?_⟩
   by_cases e:j=n+1
   ·subst e;exact hb (decide_eq_true z)
   ·exact h2 j (by omega) z
theorem Tz{N:Nat}{vs:List Value}{ps:List (Int×Int)}(hl:vs.length=ps.length)(hu:A.units<cLine):CmpH P w A (Et P w N vs ps) (fun i v=>vs.toArray[i]? = some v) (btP ps):=by
 intro i j vi vj s Q E hH hi hj q
 have hi':vs[i]? = some vi:=by simpa using hi
 have hj':vs[j]? = some vj:=by simpa using hj
 have li:i<ps.length:=by rw[←hl];exact(List.getElem?_eq_some_iff.mp hi').1
 have lj:j<ps.length:=by rw[←hl];exact(List.getElem?_eq_some_iff.mp hj').1
 obtain⟨a,rfl,_,ka⟩:=hH i vi _ hi' (List.getElem?_eq_getElem li)
 obtain⟨b,rfl,_,kb⟩:=hH j vj _ hj' (List.getElem?_eq_getElem lj)
 refine Op hu ka kb ?_
 have e:btP ps i j=Cw [ps[i].1,ps[i].2] [ps[j].1,ps[j].2]:=by
  rw[Tm];unfold btP
  rw[List.getD_eq_getElem?_getD,List.getD_eq_getElem?_getD,List.getElem?_eq_getElem li,List.getElem?_eq_getElem lj];rfl
 rw[←e];exact q
theorem Rr{l:Addr}{vs:List Value}{ps:List (Int×Int)}{kw:List (Str×Value)}{R:Result→Shared→Prop}(hh:A.handled=none)(hu:A.units+1<cLine)(hl:s.heap.IsList l vs.toArray)(hlen:vs.length=ps.length)(hH:Et P w s.heap.objs.size vs ps s.heap)(hne:0<ps.length)(fin:∀(g:Heap) (tk:Tok) (v:Value) (i:Nat) (M:Int×Int),(∀b o,s.heap.get? b=some o→g.get? b=some o)→vs[i]? = some v→ps[i]? = some M→(∀a∈ps,¬Br a M)→R (.ok (.ret v)) { s with heap:=g,toks:=tk }) :
  codeAny (model P w) A (.builtin "min.loop" ⟨[.ref s.heap.objs.size,.none,.ref (s.heap.objs.size+1)],kw⟩) R { s with heap:=(s.heap.push { cls:=.type "list_iterator",data:=.fields #[.ref l,.int 0 0] }).push { cls:=.type "list",data:=.seq ([]:List Value).toArray } }:=by
 have hlt:l<s.heap.objs.size:=by obtain⟨o,e,_⟩:=hl;exact Heap.lt_size e
 have W:=Walks.list (prog:=P) (w:=w) (A:=A.in1) hh s.heap.objs.size l (Nat.ne_of_lt hlt) vs.toArray
 have k2:∀b o,s.heap.get? b=some o→((s.heap.push { cls:=.type "list_iterator",data:=.fields #[.ref l,.int 0 0] }).push { cls:=.type "list",data:=.seq ([]:List Value).toArray }).get? b=some o:=fun b o e=>Heap.get?_push_of_some _ (Heap.get?_push_of_some _ e)
 have off:s.heap.objs.size+1 ∉ [s.heap.objs.size,l]:=by
  simp only[List.mem_cons,List.not_mem_nil,or_false,not_or]
  exact⟨Nat.succ_ne_self _,Nat.ne_of_gt (Nat.lt_succ_of_lt hlt)⟩
 have hS:((s.heap.push { cls:=.type "list_iterator",data:=.fields #[.ref l,.int 0 0] }).push { cls:=.type "list",data:=.seq ([]:List Value).toArray }).get? (s.heap.objs.size+1)=some (seqObj "list" #[] 0):=by
  have:=Heap.get?_push_size (h:=s.heap.push { cls:=.type "list_iterator",data:=.fields #[.ref l,.int 0 0] }) (o:={ cls:=.type "list",data:=.seq ([]:List Value).toArray }) rfl
  rw[Heap.size_push] at this;exact this
 have hvsz:vs.toArray.size=ps.length:=by simp[hlen]
 have hsz:vs.toArray.size-1<ps.length:=by omega
 refine Xk (Hv:=Et P w s.heap.objs.size vs ps) W (Tz hlen hu) (fun h h' hv kp i v p e1 e2=>?_) off (by omega) (fun i v p e1 e2=>?_) ⟨⟨_,Heap.get?_push_of_some _ (Heap.get?_push_size _ rfl),rfl,rfl⟩,(hl.push _).push _⟩ hS fun v g tk hv kp=>?_
 ·obtain⟨a,e,hlt',o,items,n,ho,hr⟩:=hv i v p e1 e2
  exact⟨a,e,hlt',o,items,n,kp a o (by simp only[List.mem_singleton];exact Nat.ne_of_lt hlt') (Nat.ne_of_lt (Nat.lt_succ_of_lt hlt')) ho,hr⟩
 ·obtain⟨a,e,hlt',o,items,n,ho,hr⟩:=hH i v p e1 e2
  exact⟨a,e,hlt',o,items,n,k2 a o ho,hr⟩
 ·obtain⟨h1,h2⟩:=Ly ps (vs.toArray.size-1)
  have hlb:argBest (btP ps) (vs.toArray.size-1)<ps.length:=by omega
  refine fin g tk v _ (ps[argBest (btP ps) (vs.toArray.size-1)]) (fun b o e=>?_) (by simpa using hv) (List.getElem?_eq_getElem hlb) fun a ha=>?_
  ·have hb:=Heap.lt_size e
   exact kp b o (by simp only[List.mem_singleton];exact Nat.ne_of_lt hb) (Nat.ne_of_lt (Nat.lt_succ_of_lt hb)) (k2 b o e)
  ·obtain⟨j,hj,rfl⟩:=List.getElem_of_mem ha
   have:=h2 j (by omega)
   rw[List.getD_eq_getElem?_getD,List.getD_eq_getElem?_getD,List.getElem?_eq_getElem hj,List.getElem?_eq_getElem hlb] at this
   exact this
end
end D3
namespace D3
open PySem PySem.Spec
open PyProof.Rows hiding St
open L2 hiding St
section
variable{P:Program}{w:World}{A:Around}{E:Value→Shared→Prop}{s:Shared}
theorem Aan{l:Addr}{vs:List Value}{ps:List (Int×Int)}{Q:Value→Shared→Prop}(hh:A.handled=none)(hu:A.units+1<cLine)(hl:s.heap.IsList l vs.toArray)(hlen:vs.length=ps.length)(hH:Et P w s.heap.objs.size vs ps s.heap)(hne:0<ps.length)(q:∀(g:Heap) (tk:Tok) (v:Value) (i:Nat) (M:Int×Int),(∀b o,s.heap.get? b=some o→g.get? b=some o)→vs[i]? = some v→ps[i]? = some M→(∀a∈ps,¬Br a M)→Q v { s with heap:=g,toks:=tk }) :
  wpAny (model P w) A (call (.builtin "min") [.ref l]) Q E s:=by
 refine call_function_tree F.kind_min F.plain_min F.entry_min (F.args_min1 _) ?_
 show wpAny _ A.in1 (Builtin.Builtins.bindParams "min" ["key", "default"] 0 ⟨[],[]⟩ >>= _) _ _ s
 refine wpAny_bind (wpAny_of_eq (show Builtin.Builtins.bindParams "min" ["key", "default"] 0 ⟨[],[]⟩=pure [none,none] from rfl) ?_)
 refine wpAny_bind (wpAny_pure ?_)
 refine wpAny_bind (wpAny_pyIter_list hl ?_)
 refine wpAny_bind (wpAny_newObj_type ?_)
 rw[Ft,Heap.size_push]
 exact wpAny_pure ⟨plainId_quiet F.plain_min_loop _,Rr hh hu hl hlen hH hne q⟩
theorem Aao(x d:Value):argsOk "min" ⟨[x],[(Str.ofString "default",d)]⟩:=by unfold argsOk;kernel_rfl
theorem Xl{l:Addr}{vs:List Value}{ps:List (Int×Int)}{d:Value}{Q:Value→Shared→Prop}(hh:A.handled=none)(hu:A.units+1<cLine)(hl:s.heap.IsList l vs.toArray)(hlen:vs.length=ps.length)(hH:Et P w s.heap.objs.size vs ps s.heap)(h0:ps=[]→∀g tk,(∀b o,s.heap.get? b=some o→g.get? b=some o)→Q d { s with heap:=g,toks:=tk })(q:∀(g:Heap) (tk:Tok) (v:Value) (i:Nat) (M:Int×Int),(∀b o,s.heap.get? b=some o→g.get? b=some o)→vs[i]? = some v→ps[i]? = some M→(∀a∈ps,¬Br a M)→Q v { s with heap:=g,toks:=tk }) :
  wpAny (model P w) A (call (.builtin "min") [.ref l] [(Str.ofString "default",d)]) Q E s:=by
 refine T3 F.kind_min F.plain_min F.entry_min (Aao _ _) ?_
 show wpAny _ A.in1 (Builtin.Builtins.bindParams "min" ["key", "default"] 0 ⟨[],[(Str.ofString "default",d)]⟩ >>= _) _ _ s
 refine wpAny_bind (wpAny_of_eq (show Builtin.Builtins.bindParams "min" ["key", "default"] 0 ⟨[],[(Str.ofString "default",d)]⟩=pure [none,some d] from rfl) (wpAny_bind (wpAny_pure ?_)))
 refine wpAny_bind (wpAny_pyIter_list hl ?_)
 refine wpAny_bind (wpAny_newObj_type ?_)
 rw[Ft,Heap.size_push]
 rcases Nat.eq_zero_or_pos ps.length with z|z
 ·have hlt:l<s.heap.objs.size:=by obtain⟨o,e,_⟩:=hl;exact Heap.lt_size e
  have W:=Walks.list (prog:=P) (w:=w) (A:=A.in1) hh s.heap.objs.size l (Nat.ne_of_lt hlt) vs.toArray
  have hv0:vs.toArray.size=0:=by simp[hlen,z]
  rw[hv0] at W
  have off:s.heap.objs.size+1 ∉ [s.heap.objs.size,l]:=by
   simp only[List.mem_cons,List.not_mem_nil,or_false,not_or]
   exact⟨Nat.succ_ne_self _,Nat.ne_of_gt (Nat.lt_succ_of_lt hlt)⟩
  have hS:((s.heap.push { cls:=.type "list_iterator",data:=.fields #[.ref l,.int 0 0] }).push { cls:=.type "list",data:=.seq ([]:List Value).toArray }).get? (s.heap.objs.size+1)=some (seqObj "list" #[] 0):=by
   have:=Heap.get?_push_size (h:=s.heap.push { cls:=.type "list_iterator",data:=.fields #[.ref l,.int 0 0] }) (o:={ cls:=.type "list",data:=.seq ([]:List Value).toArray }) rfl
   rw[Heap.size_push] at this;exact this
  refine wpAny_pure ⟨plainId_quiet F.plain_min_loop _,Aam W off ⟨⟨_,Heap.get?_push_of_some _ (Heap.get?_push_size _ rfl),rfl,rfl⟩,(hl.push _).push _⟩ hS fun g tk kp=>?_⟩
  refine h0 (List.eq_nil_of_length_eq_zero z) g tk fun b o e=>?_
  exact kp b o (by simp only[List.mem_singleton];exact Nat.ne_of_lt (Heap.lt_size e)) (Heap.get?_push_of_some _ (Heap.get?_push_of_some _ e))
 ·exact wpAny_pure ⟨plainId_quiet F.plain_min_loop _,Rr hh hu hl hlen hH z q⟩
end
section
variable{X:Cx}{e:Expr}{p pos:Pos}{n:Nat}
theorem Ol{pins:List (Addr×Obj)}{σ:L2.St}{H:Hp}{s:Shared}(I:Inv X pins σ H s){bs:List Addr}{cs:List (Int×Int)}(c:Fw H bs cs):Et X.prog X.w s.heap.objs.size (bs.map Value.ref) cs s.heap:=fun i v m e1 e2=>by
 rw[List.getElem?_map] at e1
 obtain⟨b,eb,rfl⟩:=Option.map_eq_some_iff.mp e1
 obtain⟨m',em,hc⟩:=Eu c eb
 rw[e2] at em;cases em
 obtain⟨a,ea,k⟩:=PairAt.key (P:=X.prog) (w:=X.w) (W7 I hc)
 cases ea
 obtain⟨o,_,_,ho,_⟩:=id k
 exact⟨b,rfl,Heap.lt_size ho,k⟩
theorem Mi:∀{bs:List Addr} {its:List Value},Vals (bs.map V.ref) its→its=bs.map Value.ref
 |[],_,.nil=>rfl
 |_::_,_,.cons rfl t=>by rw[Mi t];rfl
theorem T4(hc:X.calm=true)(hr:Room n X.A):CallR X (.builtin "min") (fun xs H Q=>∃(l:Addr) (bs:List Addr) (cs:List (Int×Int)),xs=[.ref l]∧SqL X.K H l (bs.map V.ref)∧Fw H bs cs∧0<cs.length∧∀b M,H b=some (.tup [.int M.1,.int M.2])→M∈cs→(∀a∈cs,¬Br a M)→Q (.ref b) H):=by
 intro pins s σ H xs us Q I r h
 obtain⟨l,bs,cs,rfl,hl,c,hn,q⟩:=h
 obtain⟨u,rfl,rx⟩:=Dg r
 cases rx
 obtain⟨its,rv,pl,_⟩:=I.list hl
 obtain rfl:=Mi rv
 refine Aan (I.ok.hd hc) (by have:=hr.un;omega) pl.isList (by rw[List.length_map];exact Paired.length c) (Ol I c) hn fun g tk v i M k e1 e2 h2=>?_
 rw[List.getElem?_map] at e1
 obtain⟨b,eb,rfl⟩:=Option.map_eq_some_iff.mp e1
 obtain⟨m',em,hcm⟩:=Eu c eb
 rw[e2] at em;cases em
 exact⟨.ref b,H,I.kept k,rfl,q b M hcm (List.mem_of_getElem? e2) h2⟩
theorem Adz(hc:X.calm=true)(hr:Room n X.A):QC X (.builtin "min") (fun ds G Q=>∃d,ds=[d]∧∃p,d=.ref p∧∃cs:List (Int×Int),G p=some (.lst (cs.map Bq))∧0<cs.length∧∀M∈cs,(∀a∈cs,¬Br a M)→Q (Bq M) G):=(T4 hc hr).imp fun xs H Q ⟨ds,G,Q',dv,rg,⟨d,e,p,ep,cs,eg,hn,q⟩,cl⟩=>by
 subst e ep
 obtain⟨v,rfl,h⟩:=dv.one
 cases h
 obtain⟨ys,eh,r⟩:=rg p _ eg
 obtain⟨bs,rfl,c⟩:=Gr r
 exact⟨p,bs,cs,rfl,.inl (.inl eh),c,hn,fun b M hb h1 h2=>cl _ _ (q M h1 h2) _ (Ext.refl H) rg _ (.tup hb (.cons (.int _) (.cons (.int _) .nil)))⟩
def Aby(te:TE):TE:=fun σ H Q=>te σ H fun x H1=>∃(l:Addr) (bs:List Addr) (cs:List (Int×Int)),x=.ref l∧SqL X.K H1 l (bs.map V.ref)∧Fw H1 bs cs∧(cs=[]→Q .non H1)∧∀b M,H1 b=some (.tup [.int M.1,.int M.2])→M∈cs→(∀a∈cs,¬Br a M)→Q (.ref b) H1
theorem W2{te:TE}{kp np:Pos}{j:Nat}(hc:X.calm=true)(hr:Room n X.A)(hg:Gl X "min")(hm:X.mg "min" = none)(he:PE X e te)(hs:starEach [e] X.env=[(false,eval e X.env)]:=by rfl):PE X (.Call (.Name "min" p) [e] [⟨some "default",.Constant .none j np,kp⟩] pos) (Aby (X:=X) te):=by
 intro pins s σ H Q I h
 refine wpAny_Call_Name_kw (Do I hg hm boot_min ?_ (by decide) (by decide))
 have ha:PA X [e] (Q5 te Up):=Fr he pa_nil hs
 have hkw:PK X [⟨some "default",.Constant .none j np,kp⟩] (Q5 (tC .non) Up):=Zu Vo Acn
 refine PyProof.Rows.callWith_kw (thn (ha pos pins s σ H (fun vs H1=>match vs with
   |[x]=>∃(l:Addr) (bs:List Addr) (cs:List (Int×Int)),x=.ref l∧SqL X.K H1 l (bs.map V.ref)∧Fw H1 bs cs∧(cs=[]→Q .non H1)∧∀b M,H1 b=some (.tup [.int M.1,.int M.2])→M∈cs→(∀a∈cs,¬Br a M)→Q (.ref b) H1
   |_=>False) I h) fun us s1 ⟨vs,H1,I1,r1,q1⟩=>?_) (by rw[hs];rfl) (by rw[hs];rfl) rfl rfl
 match vs,r1,q1 with
 |[x],.cons (b:=u) rx .nil,⟨l,bs,cs,ex,hl,c,q0,q⟩=>
  subst ex
  obtain rfl:u=Value.ref l:=rx
  refine thn (hkw pos pins s1 σ H1 (fun zs H2=>zs=[.non]∧H2=H1) I1 ⟨rfl,rfl⟩) fun ws s2 ⟨zs,H2,I2,r2,ez,eH⟩=>?_
  subst ez eH
  obtain⟨z,rfl,rz⟩:=Dg r2
  obtain rfl:z=Value.none:=rz
  obtain⟨its,rv,pl,_⟩:=I2.list hl
  obtain rfl:=Mi rv
  refine Xl (I2.ok.hd hc) (by have:=hr.un;omega) pl.isList (by rw[List.length_map];exact Paired.length c) (Ol I2 c) (fun e0 g tk k=>⟨.non,H2,I2.kept k,rfl,q0 e0⟩) fun g tk v i M k e1 e2 h2=>?_
  rw[List.getElem?_map] at e1
  obtain⟨b,eb,rfl⟩:=Option.map_eq_some_iff.mp e1
  obtain⟨m',em,hcm⟩:=Eu c eb
  rw[e2] at em;cases em
  exact⟨.ref b,H2,I2.kept k,rfl,q b M hcm (List.mem_of_getElem? e2) h2⟩
def Vt(te:DTE):DTE:=fun σ G Q=>te σ G fun x G1=>∃p,x=.ref p∧∃cs:List (Int×Int),G1 p=some (.lst (cs.map Bq))∧(cs=[]→Q .non G1)∧∀M∈cs,(∀a∈cs,¬Br a M)→Q (Bq M) G1
theorem Zk{te:DTE}{kp np:Pos}{j:Nat}(hc:X.calm=true)(hr:Room n X.A)(hm:X.mg "min" = none)(he:QE X e te)(hg:Gl X "min":=by rfl)(hs:starEach [e] X.env=[(false,eval e X.env)]:=by rfl):QE X (.Call (.Name "min" p) [e] [⟨some "default",.Constant .none j np,kp⟩] pos) (Vt te):=
 (W2 hc hr hg hm he hs).imp fun σ H Q ⟨σD,G,Q',rs,rg,h,cl⟩=>by
  refine⟨σD,G,_,rs,rg,h,fun x G1 ⟨l,ex,cs,eg,q0,q⟩ H1 x1 rg1 v dv=>?_⟩
  subst ex
  cases dv
  obtain⟨ys,eh,r⟩:=rg1 l _ eg
  obtain⟨bs,rfl,c⟩:=Gr r
  exact⟨l,bs,cs,rfl,.inl (.inl eh),c,fun e0=>cl _ _ (q0 e0) _ x1 rg1 _ .non,fun b M hb h1 h2=>cl _ _ (q M h1 h2) _ x1 rg1 _ (.tup hb (.cons (.int _) (.cons (.int _) .nil)))⟩
end
end D3
namespace D3
open PySem PySem.Spec
open PyProof.Rows hiding St
open L2 hiding St
def ItI(a:Addr)(o:Obj)(ks:List (Key×V)):It:=⟨fun i H=>H a=some (.frz o (.dK ks))∧i<ks.length,fun i H x H'=>∃p k v,H p=none∧ks[i]? = some (k,v)∧x=.ref p∧H'=upd H p (.tup [kV k,v]),fun i H=>H a=some (.frz o (.dK ks))∧i=ks.length⟩
theorem Aat{P:Program}{w:World}{k:Key}{key:Value}(h:(A4 P w).is k key=true):RelV (kV k) key:=by
 rcases A7 h with ⟨j,t,rfl,rfl⟩|⟨j,t,rfl,rfl⟩
 ·exact⟨t,rfl⟩
 ·exact⟨t,rfl⟩
theorem Qc{P:Program}{w:World}{K:W.Frag}{elts:List Expr}{kk:Nat}{tp:Pos}{a it:Addr}{o:Obj}{es:Array DictEntry}{ep:Nat}{ks:List (Key×V)}(hd:o.data=.dict es ep) :
  Turn P w K (.Tuple elts kk tp) (ItI a o ks) [it] it (fun i h=>∃ok ov,IsItemIter h it a i ks.length ep ok ov) where
 mem:=by simp
 obj:=fun i h ⟨ok,ov,st⟩ b hb=>by
  have e:b=it:=by simpa using hb
  subst e
  exact⟨_,st,fun v z=>by cases z⟩
 keep:=fun i h h' ⟨ok,ov,st⟩ k=>⟨ok,ov,k it (by simp) _ st⟩
 item:=by
  intro X hP hw hK hc i pins s σ H E I hf ⟨ok,ov,st⟩ hg
  subst hP hw hK
  obtain⟨hg,hi⟩:=(show H a=some (.frz o (.dK ks))∧i<ks.length from hg)
  obtain⟨h1,h2⟩:=(show ObjOk X.prog X.w H s.heap a (.frz o (.dK ks)) from I.hok a _ hg)
  obtain⟨_,_,vs,rel,ob,es',ep',q1,q2,q3,q4⟩:=h2
  rw[h1] at q1;cases q1
  rw[hd] at q3;cases q3
  have hlen:ks.length=vs.length:=Paired.length rel
  have hx:vs[i]? = some (vs[i]'(by omega)):=List.getElem?_eq_getElem (by omega)
  obtain⟨p,e1,e2,e3⟩:=Q7 i rel hx
  obtain⟨f0,f1,f2,f3,f4,f5⟩:=hf it (by simp)
  rw[hlen] at st
  generalize (vs[i]'(by omega))=q at *
  obtain⟨qk,qv⟩:=q
  obtain⟨pk,pv⟩:=p
  dsimp only at e2 e3
  subst e2
  refine wpAny_pyNext_items_item (knd:=A4 X.prog X.w) (kvs:=vs) st ⟨o,es,h1,q2,hd,q4⟩ hx fun key h' hkey hio htup hsz keep=>⟨_,rfl,wpAny_letOwnedTupleGo_items (s:={ s with heap:=h' }) hio fun h3 hit3 sb=>?_⟩
  have hlt:it<s.heap.objs.size:=Heap.lt_size st
  have I1:Inv X pins σ (upd H s.heap.objs.size (.tup [kV pk,pv])) { s with heap:=s.heap.push { cls:=.type "tuple",data:=.seq #[key,qv] } }:=
   I.laid (t':=s.toks) (fun b u e=>Heap.get?_push_of_some _ e) (Nat.le_refl _) ⟨szl (show 2≤1000 by decide),[key,qv],.cons (Aat hkey) (.cons e3 .nil),⟨_,Heap.get?_push_size _ rfl,rfl,_,rfl⟩⟩
  have hn1:(upd H s.heap.objs.size (.tup [kV pk,pv])) it=none:=by rw[Am (Nat.ne_of_lt hlt)];exact f0
  have I2:=I1.turned (t':=s.toks) (h':=h3) (fun b u hb e=>?_) hn1 f1 f3 f4 f5
  ·refine⟨.ref s.heap.objs.size,_,I2,rfl,⟨s.heap.objs.size,pk,pv,I.hok.fresh (Nat.le_refl _),e1,rfl,rfl⟩,⟨_,_,by rw[hlen];exact hit3⟩,fun b hb=>?_⟩
   have e:b=it:=by simpa using hb
   subst e;exact hn1
  ·refine sb.extBut _ _ hb ?_
   rcases Heap.get?_push_cases e with ⟨rfl,rfl⟩|e
   ·exact htup
   ·exact keep b u hb e
 done:=by
  intro X hP hw hK hc i pins s σ H E I hf ⟨ok,ov,st⟩ hg
  subst hP hw hK
  obtain⟨hg,hi⟩:=(show H a=some (.frz o (.dK ks))∧i=ks.length from hg)
  obtain⟨h1,h2⟩:=(show ObjOk X.prog X.w H s.heap a (.frz o (.dK ks)) from I.hok a _ hg)
  obtain⟨_,_,vs,rel,ob,es',ep',q1,q2,q3,q4⟩:=h2
  rw[h1] at q1;cases q1
  rw[hd] at q3;cases q3
  have hlen:ks.length=vs.length:=Paired.length rel
  obtain⟨f0,f1,f2,f3,f4,f5⟩:=hf it (by simp)
  rw[hi,hlen] at st
  exact wpAny_pyNext_items_end (knd:=A4 X.prog X.w) (kvs:=vs) (I.ok.hd hc) st ⟨o,es,h1,q2,hd,q4⟩ (List.getElem?_eq_none (Nat.le_refl _)) fun h' eb=>⟨rfl,I.turned (t':=s.toks) (fun b u hb e=>eb b u hb e) f0 f1 f3 f4 f5⟩
 self:=fun _ _ _ _ _ ⟨ok,ov,st⟩ h=>Aau st h
def Adu(to:TE):TI:=fun σ H R=>Uu Da to σ H fun y H2=>∃v a ks,y=.ref v∧H2 v=some (.frz (Da a) Hh)∧H2 a=some (.dK ks)∧∀ob,R (ItI a ob ks) (upd H2 a (.frz ob (.dK ks)))
theorem Wz{X:Cx}{o:Expr}{elts:List Expr}{kk:Nat}{tp:Pos}{to:TE}{apos cpos:Pos}(hc:X.calm=true)(ho:PE X o to)(hbase:attributeBase o "items" X.env (eval o X.env)=eval o X.env)(hline:(apos.endLine == cpos.line)=true):PI X (.Tuple elts kk tp) (.Call (.Attribute o "items" apos) [] [] cpos) (Adu to):=by
 intro pins s σ H R I h
 refine thn (W3 (to:=to) ho hbase hline pins s σ H _ I h) fun u s1 ⟨y,H2,I2,ry,v,a,ks,ey,ev,ea,q⟩=>?_
 subst ey
 obtain rfl:u=Value.ref v:=ry
 have hv:s1.heap.get? v=some (Da a):=(show ObjOk X.prog X.w H2 s1.heap v (.frz (Da a) Hh) from I2.hok v _ ev).1
 obtain⟨_,hd,vs,rel,ob,es,ep,q1,q2,q3,q4⟩:=Hb I2.hok ea
 have hlen:ks.length=vs.length:=Paired.length rel
 refine wpAny_pyIter_items (knd:=A4 X.prog X.w) (kvs:=vs) ⟨_,hv,rfl,rfl⟩ ⟨ob,es,q1,q2,q3,q4⟩ ?_
 have I3:Inv X pins σ H2 { s1 with heap:=s1.heap.push { cls:=.type "dict_itemiterator",data:=.fields #[.none,.bool false,.ref a,.int 0 0,.int vs.length 0,.int ep 0,.none,.none] } }:=I2.kept (t':=s1.toks) fun b u e=>Heap.get?_push_of_some _ e
 have I4:=Inv.freeze I3 ea (Heap.get?_push_of_some _ q1)
 have na:s1.heap.objs.size≠a:=Nat.ne_of_gt (Heap.lt_size q1)
 refine⟨s1.heap.objs.size,[s1.heap.objs.size],_,ItI a ob ks,_,rfl,I4,Qc q3,⟨.none,.none,by rw[hlen];exact Heap.get?_push_size _ rfl⟩,fun b hb=>?_,q ob⟩
 have e:b=s1.heap.objs.size:=by simpa using hb
 subst e
 have f:=I2.fpOk (H':=H2) (Nat.le_refl s1.heap.objs.size) (I2.hok.fresh (Nat.le_refl _))
 exact⟨by rw[Am na];exact f.1,f.2⟩
section
variable{X:Cx}{elt o:Expr}{ifs:List Expr}{scope:Scope}{pos apos cpos tp:Pos}{elts:List Expr}{kk:Nat}{to te:DTE}{tf:DTT}{g:DTG}{T M:List Str}
def Vw(q:Key×D):D:=.tup [kD q.1,q.2]
def Vu(n:Nat)(to:DTE)(g:DTG)(tf:DTT)(te:DTE):DTE:=fun σ G Q=>to σ G fun x G1=>∃a,x=.ref a∧∃kvs,G1 a=some (.dkk kvs)∧∀p,G1 p=none→Fn n p (kvs.map Vw) (fun _=>True) g tf te σ (Ac (Ge G1 a) p (.lst [])) Q
theorem Adx{K:W.Frag}{H:Hp}{kvs:List (Key×D)}{ks:List (Key×V)}(r:Paired (Ent Key K H) kvs ks){i:Nat}{k:Key}{v:V}(e:ks[i]? = some (k,v)):∃d,kvs[i]? = some (k,d)∧DV K H d v:=by
 induction r generalizing i with
 |nil=>simp at e
 |@cons x y xs ys h t ih=>
  cases i with
  |zero=>
   simp only[List.getElem?_cons_zero,Option.some.injEq] at e
   subst e
   obtain⟨h1,h2⟩:=h
   exact⟨x.2,by simp only[List.getElem?_cons_zero];exact congrArg some (Prod.ext h1 rfl),h2⟩
  |succ i=>simpa using ih (by simpa using e)
theorem R8{K:W.Frag}{H H':Hp}(x:Ext H H'):∀{kvs:List (Key×D)} {ks:List (Key×V)},Paired (Ent Key K H) kvs ks→Paired (Ent Key K H') kvs ks
 |_,_,.nil=>.nil
 |_,_,.cons h t=>.cons ⟨h.1,h.2.ext x⟩ (R8 x t)
theorem kD_dv{K:W.Frag}{H:Hp}(k:Key):DV K H (kD k) (kV k):=by
 cases k with
 |inl i=>exact .int i
 |inr x=>exact .str x
theorem Zl(hc:X.calm=true)(ok:CompOz X scope (Bz X.env.cells scope.names []) T M)(ho:QE X o to)(hg:QGz X scope T M (.Tuple elts kk tp) g)(hf:QFz X scope T M ifs tf)(he:QEz X scope T M elt te)(hbase:attributeBase o "items" X.env (eval o X.env)=eval o X.env:=by rfl)(hline:(apos.endLine == cpos.line)=true:=by rfl)(hs:∀x,foldedSetIterable (.Call (.Attribute o "items" apos) [] [] cpos) X.env x=pure x:=by intro _;rfl) :
  QE X (.ListComp elt [⟨.Tuple elts kk tp,.Call (.Attribute o "items" apos) [] [] cpos,ifs,0⟩] scope pos) (Vu T.length to g tf te):=
 (Eh (g:=Di X.K g) (tf:=Ds X.K tf) (te:=By X.K te) hc ok (Wz hc ho hbase hline) hg hf he hs).imp fun σ H Q ⟨σD,G,Q',rs,rg,h,cl⟩=>by
  refine⟨σD,G,_,rs,rg,h,fun x G1 ⟨a,ex,kvs,ea,L⟩ H1 x1 rg1 v dv=>?_⟩
  subst ex
  cases dv
  obtain⟨ks,eh,r⟩:=rg1 a _ ea
  refine⟨a,ks,rfl,eh,fun w hw=>⟨w,a,ks,rfl,Ar,by rw[Am (Bf eh hw)];exact eh,fun ob p hp=>?_⟩⟩
  have e2:(upd H1 w (.frz (Da a) Hh)) a=some (.dK ks):=by rw[Am (Bf eh hw)];exact eh
  have x2:Ext H1 (upd H1 w (.frz (Da a) Hh)):=Ext.fresh hw
  have x3:Ext (upd H1 w (.frz (Da a) Hh)) (upd (upd H1 w (.frz (Da a) Hh)) a (.frz ob (.dK ks))):=Ii e2
  have rg3:RelG X.K (upd (upd H1 w (.frz (Da a) Hh)) a (.frz ob (.dK ks))) (Ge G1 a):=fun b u eb=>by
   by_cases hb:b=a
   ·subst hb;rw[Ge,if_pos rfl] at eb;cases eb
   ·rw[Ge,if_neg hb] at eb
    exact((rg1 b u eb).upd x2 (.inl hw)).upd x3 (.inr hb)
  have pG:G1 p=none:=by
   cases z:G1 p with
   |none=>rfl
   |some u=>
    by_cases hb:p=a
    ·subst hb;rw[Ar] at hp;cases hp
    ·have:=rg3.free hp
     rw[Ge,if_neg hb,z] at this;cases this
  have hlen:kvs.length=ks.length:=Paired.length r
  refine Cf (J:=ItI a ob ks) (rs.ext (x1.trans (x2.trans x3))) rg3 hp (fun d' G' q=>(cl d' G' q).go (x1.trans (x2.trans x3))) (fun H' G' x' rg' s'=>?_) (L p pG)
  have fz:H' a=some (.frz ob (.dK ks)):=x'.frz _ _ _ Ar
  have r':=R8 ((x2.trans x3).trans x') r
  refine⟨fun i hi=>⟨fz,by rw[List.length_map] at hi;omega⟩,fun i x H'' hi y=>?_,⟨fz,by rw[List.length_map];exact hlen⟩⟩
  obtain⟨p',k,v,hp',ek,rfl,rfl⟩:=y
  obtain⟨d,ed,dv⟩:=Adx r' ek
  exact⟨Ext.fresh hp',fun G r=>r.tup hp',_,by rw[List.getElem?_map,ed];rfl,.tup Ar (.cons (kD_dv k) (.cons (dv.ext (Ext.fresh hp')) .nil))⟩
end
end D3
namespace D3
open PySem PySem.Spec
open PyProof.Rows hiding St
open L2 hiding St
section
variable{X:Cx}{n:Nat}
theorem Sx(hr:Room n X.A):PSet X (fun o i v H Q=>∃a kvs k,o=.ref a∧H a=some (.dK kvs)∧i=kV k∧kvs.length<sizeLine∧Q (upd H a (.dK (D2 kvs k v)))):=by
 intro pins s σ H o i v ov iv u Q I ro ri rv h
 obtain⟨a,kvs,k,rfl,ea,rfl,hl,q⟩:=h
 obtain rfl:ov=Value.ref a:=ro
 exact Tw (Ab8 hr) I (DPut.k ea hl) ri rv fun s' I'=>⟨_,I',q⟩
def Abm:K4:=fun o i v G Q=>∃p,o=.ref p∧∃k,Kh i=some k∧∃kvs,G p=some (.dkk kvs)∧kvs.length<sizeLine∧Q (Ac G p (.dkk (Pq kvs k v)))
theorem Y8(hr:Room n X.A):QSet X Abm:=(Sx hr).imp fun o i v H Q ⟨d1,d2,d3,G,Q',h1,h2,h3,rg,⟨p,e1,k,ek,kvs,eg,hl,q⟩,cl⟩=>by
 subst e1
 cases h1
 obtain⟨ks,eh,r⟩:=rg p _ eg
 exact⟨p,ks,k,rfl,eh,Mp ek h2,by rw[←R7 r];exact hl,cl _ q _ (Ii eh) (rg.dkW eh (R5 h3 r))⟩
end
end D3
namespace D3
open PySem PySem.Spec
open PyProof.Rows hiding St
open L2 hiding St
def ItE(K:PySem.W.Frag)(l:Addr):It:=⟨fun i H=>∃xs,SqL K H l xs∧i<xs.length,fun i H x H'=>∃p v,H p=none∧(∀xs,SqL K H l xs→xs[i]? = some v)∧x=.ref p∧H'=upd H p (.tup [.int i,v]),fun i H=>∃xs,SqL K H l xs∧i=xs.length⟩
theorem Sr{P:Program}{w:World}{K:W.Frag}{elts:List Expr}{kk:Nat}{tp:Pos}{l e it:Addr}(hne:e≠it) :
  Turn P w K (.Tuple elts kk tp) (ItE K l) [e,it] e (fun i h=>(∃old,IsEnum h e it i old)∧h.IsListIter it l i) where
 mem:=by simp
 obj:=fun i h ⟨⟨old,st⟩,o,ho,hc,hd⟩ b hb=>by
  simp only[List.mem_cons,List.not_mem_nil,or_false] at hb
  rcases hb with rfl|rfl
  ·exact⟨_,st,fun v z=>by cases z⟩
  ·exact⟨_,ho,fun v z=>by rw[hd] at z;cases z⟩
 keep:=fun i h h' ⟨⟨old,st⟩,sl⟩ k=>⟨⟨old,k e (by simp) _ st⟩,sl.at fun o z=>k it (by simp) o z⟩
 item:=by
  intro X hP hw hK hc i pins s σ H E I hf ⟨⟨old,st⟩,sl⟩ hg
  subst hP hw hK
  obtain⟨xs,hq,hi⟩:=(show ∃xs,SqL X.K H l xs∧i<xs.length from hg)
  obtain⟨its,rv,pl,_⟩:=I.list hq
  obtain⟨v,hv⟩:∃v,xs[i]? = some v:=⟨xs[i],List.getElem?_eq_getElem hi⟩
  obtain⟨u,hu,ru⟩:=rv.get hv
  refine wpAny_pyNext_enum_item st sl pl.isList (x:=u) (by simpa using hu) hne fun h' hE hI htup hsz keep=>⟨_,rfl,wpAny_letOwnedTupleGo_enum (s:={ s with heap:=h',toks:=s.toks+1 }) hE fun h3 hE3 sb=>?_⟩
  have l1:e<s.heap.objs.size:=Heap.lt_size st
  have l2:it<s.heap.objs.size:=by obtain⟨o,ho,_⟩:=sl;exact Heap.lt_size ho
  have I1:Inv X pins σ (upd H s.heap.objs.size (.tup [.int i,v])) { s with heap:=s.heap.push { cls:=.type "tuple",data:=.seq #[.int i s.toks,u] } }:=
   I.laid (t':=s.toks) (fun b u e=>Heap.get?_push_of_some _ e) (Nat.le_refl _) ⟨szl (show 2≤1000 by decide),[.int i s.toks,u],.cons ⟨_,rfl⟩ (.cons ru .nil),⟨_,Heap.get?_push_size _ rfl,rfl,_,rfl⟩⟩
  have hf1:∀b∈[e,it],Eb X pins (upd H s.heap.objs.size (.tup [.int i,v])) b:=fun b hb=>by
   have hlt:b<s.heap.objs.size:=by
    simp only[List.mem_cons,List.not_mem_nil,or_false] at hb
    rcases hb with rfl|rfl
    ·exact l1
    ·exact l2
   exact⟨by rw[Am (Nat.ne_of_lt hlt)];exact(hf b hb).1,(hf b hb).2⟩
  have I2:=Md (t':=s.toks+1) (h':=h3) I1 (fp:=[e,it]) (fun b o hb z=>?_) hf1
  ·refine⟨.ref s.heap.objs.size,_,I2,rfl,⟨s.heap.objs.size,v,I.hok.fresh (Nat.le_refl _),fun ys hy=>by rw[I.list_inj hy hq];exact hv,rfl,rfl⟩,⟨⟨_,by simpa using hE3⟩,hI.at fun o z=>sb.extBut _ _ (Ne.symm hne) z⟩,fun b hb=>(hf1 b hb).1⟩
  ·simp only[List.mem_cons,List.not_mem_nil,or_false,not_or] at hb
   refine sb.extBut _ _ hb.1 ?_
   rcases Heap.get?_push_cases z with ⟨rfl,rfl⟩|z
   ·exact htup
   ·exact keep b o hb.1 hb.2 z
 done:=by
  intro X hP hw hK hc i pins s σ H E I hf ⟨⟨old,st⟩,sl⟩ hg
  subst hP hw hK
  obtain⟨xs,hq,hi⟩:=(show ∃xs,SqL X.K H l xs∧i=xs.length from hg)
  obtain⟨its,rv,pl,_⟩:=I.list hq
  have hl:=rv.length
  obtain⟨f0,f1,f2,f3,f4,f5⟩:=hf it (by simp)
  exact wpAny_pyNext_enum_end (I.ok.hd hc) st sl pl.isList (by simp;omega) fun h' eb=>⟨rfl,I.turned (t':=s.toks) (fun b u hb z=>eb b u hb z) f0 f1 f3 f4 f5⟩
 self:=fun _ _ _ _ _ ⟨⟨old,st⟩,_⟩ h=>wpAny_pyIter_enum st h
theorem Adw:bootBuiltins "enumerate" = some (.type "enumerate"):=by decide +kernel
def iEnum(K:PySem.W.Frag)(ta:TA):TI:=fun σ H R=>ta σ H fun vs H1=>∃l,vs=[.ref l]∧(∃xs,SqL K H1 l xs)∧R (ItE K l) H1
section
variable{X:Cx}{a:Expr}{elts:List Expr}{kk:Nat}{tp p pos:Pos}{body:List Stmt}
theorem Zw{ta:TA}(hg:Gl X "enumerate")(hm:X.mg "enumerate" = none)(ha:PA X [a] ta)(hs:starEach [a] X.env=(false,eval a X.env)::starEach [] X.env:=by rfl)(hpl:(backTo pos (starEach [] X.env)).any (·.1)=false:=by rfl) :
  PI X (.Tuple elts kk tp) (.Call (.Name "enumerate" p) [a] [] pos) (iEnum X.K ta):=by
 intro pins s σ H R I h
 refine Call_ (Do I hg hm Adw (PyProof.Rows.callWith_type1 (thn (ha pos pins s σ H _ I h) fun us s1 ⟨vs,H1,I1,r1,q1⟩=>?_) hs hpl))
 obtain⟨l,e,⟨xs,hq⟩,q⟩:=q1
 subst e
 obtain⟨u,rfl,rx⟩:=Dg r1
 cases rx
 obtain⟨its,rv,pl,_⟩:=I1.list hq
 refine call_enumerate_list pl.isList fun h' hE hI hsz hk=>wpAny_pyIter_enum hE ?_
 have I2:Inv X pins σ H1 { s1 with heap:=h' }:=I1.kept (t':=s1.toks) hk
 refine⟨s1.heap.objs.size+1,[s1.heap.objs.size+1,s1.heap.objs.size],_,ItE X.K l,H1,rfl,I2,Sr (Nat.succ_ne_self _),⟨⟨_,hE⟩,hI⟩,fun b hb=>?_,q⟩
 simp only[List.mem_cons,List.not_mem_nil,or_false] at hb
 rcases hb with rfl|rfl
 ·exact I1.fpOk (H':=H1) (Nat.le_succ _) (I1.hok.fresh (Nat.le_succ _))
 ·exact I1.fpOk (H':=H1) (Nat.le_refl _) (I1.hok.fresh (Nat.le_refl _))
def Ib(ds:List D):List D:=ds.mapIdx fun i d=>.tup [.int i,d]
def Abg(tA:DTA)(g:DTG)(tb:DTS):DTS:=fun D σ G=>tA σ G fun ds G1=>∃d,ds=[d]∧∃l,d=.ref l∧∃xs,G1 l=some (.lst xs)∧L4 (Ib xs) (fun G'=>G' l=some (.lst xs)) g tb D σ G1
theorem Zj{g:DTG}{tb:DTS}{tA:DTA}(hp:PassesOwn (model X.prog X.w) X.A X.env X.xe)(hc:X.calm=true)(hm:X.mg "enumerate" = none)(ha:QA X [a] tA)(hg:QG X (.Tuple elts kk tp) g)(hb:QSs X body tb)(hgl:Gl X "enumerate":=by rfl)(hst:starEach [a] X.env=(false,eval a X.env)::starEach [] X.env:=by rfl)(hpl:(backTo pos (starEach [] X.env)).any (·.1)=false:=by rfl)(hs:∀x,foldedSetIterable (.Call (.Name "enumerate" p) [a] [] pos) X.env x=pure x:=by intro _;rfl){pos2:Pos} :
  QS X (.For (.Tuple elts kk tp) (.Call (.Name "enumerate" p) [a] [] pos) body [] pos2) (Abg tA g tb):=(Gi hp hc (Zw hgl hm ha hst hpl) hg hb hs).imp fun E σ H h=>by
 obtain⟨σD,G,D,rs,rg,h,cl⟩:=h
 refine⟨σD,G,_,rs,rg,h,fun ds G1 ⟨d,ed,l,el,xs,eg,L⟩ H1 x1 rg1 vs dv=>?_⟩
 subst ed el
 obtain⟨v,rfl,hv⟩:=dv.one
 cases hv
 obtain⟨ys,eh,r⟩:=rg1 l _ eg
 refine⟨l,rfl,⟨ys,.inl (.inl eh)⟩,?_⟩
 refine Jt (rs.ext x1) rg1 (cl.go x1) (fun H' G' x' rg' s'=>?_) L
 obtain⟨ys',eh',r'⟩:=rg' l _ s'
 have hl:xs.length=ys'.length:=r'.length
 have sq:SqL X.K H' l ys':=.inl (.inl eh')
 refine⟨fun i hi=>⟨ys',sq,by simp only[Ib,List.length_mapIdx] at hi;omega⟩,fun i x H'' hi y=>?_,⟨ys',sq,by simp only[Ib,List.length_mapIdx];exact hl⟩⟩
 obtain⟨p',v',hp',hv',rfl,rfl⟩:=y
 simp only[Ib,List.length_mapIdx] at hi
 have hxi:xs[i]? = some xs[i]:=List.getElem?_eq_getElem hi
 obtain⟨v2,e2,dv2⟩:=r'.get hxi
 rw[hv' _ sq] at e2;cases e2
 exact⟨Ext.fresh hp',fun G r=>r.tup hp',.tup [.int i,xs[i]],by simp[Ib,hxi],.tup Ar (.cons (.int _) (.cons (dv2.ext (Ext.fresh hp')) .nil))⟩
end
end D3
namespace K2
open PySem L2 D3
def top(i:Nat):Stmt:=PySem.Challenge.pw_laidmarks_k35_whole_ways_and_bars.main.body.getD i (.Pass ⟨0,0,0,0⟩)
abbrev O5:List Str:=["len", "range", "abs", "divmod", "max", "min", "tuple", "int", "bool", "list", "str", "isinstance", "all", "sorted", "repr", "dict", "zip", "set", "sum", "reversed", "enumerate"]
theorem exPow{p:Int→Int→Prop}{i j:Int}:(∃a b,D.int i=D.int a∧D.int j=D.int b∧p a b)↔p i j:=⟨fun⟨_,_,e1,e2,h⟩=>by cases e1;cases e2;exact h,fun h=>⟨i,j,rfl,rfl,h⟩⟩
theorem Aaz{α:Type}{xs:List α}{i:Int}(h0:0≤i)(h1:i<xs.length):∃x,atI xs i=some x∧x∈xs:=by
 obtain⟨k,rfl⟩:=Int.eq_ofNat_of_zero_le h0
 have hk:k<xs.length:=by omega
 exact⟨xs[k],C5 (List.getElem?_eq_getElem hk),List.getElem_mem hk⟩
section
variable{P:Program}{w:World}{K:W.Frag}{mg:Str→Option Value}{base:Heap}
def Bn(lo hi:Int):D→Bool
 |.int i=>decide (lo≤i)&&decide (i≤hi)
 |_=>false
structure Blt(mg:Str→Option Value):Prop where
 blt:∀{x:Str},x∈O5→mg x=none
abbrev s_L_cell:Stmt:=top 34
abbrev Yj:List Str:=["_law_script", "_law_k"]
abbrev p_L_cell:List Str:=["_law_script", "_law_k"]
theorem S2:FnScope Yj p_L_cell (Ad s_L_cell):=⟨rfl,rfl,rfl,by decide +kernel,rfl,by decide +kernel,by decide +kernel⟩
def spCell:DSp:=fun ds G Q _=>∃ns k,ds=[.lint ns,.int k]∧0≤k∧∀n,Q (.int n) G
theorem Aae{f:Addr}{fd:FuncData}(F:Fun K "_law_cell" "_law_cell" s_L_cell f fd)(T:Blt mg):FnOk P w K mg base CX0 1 f fd p_L_cell (Al K spCell):=by
 refine okD F S2 (fun ds G Q E h=>?_) (fun cdv A outer s H XE ds G Q E hr h=>?_)
 ·obtain⟨a,c,rfl,_⟩:=h;rfl
 ·obtain⟨ns,k,rfl,k0,q⟩:=h
  refine⟨_,(@qss_cons _ _ _ _ _ (@qs_if _ _ _ _ _ _ _ _ (@qt_cmp _ _ _ _ _ _ _ _ (@o_lt _) (@q_v1 _ _ 1 _ (by exact⟨rfl,rfl,rfl,rfl⟩)) (@q_callB _ _ _ _ _ _ _ _ _ (@c_len _) (T.blt (by decide)) (by decide +kernel) (@qa_consP _ _ _ _ _ (@q_v1 _ _ 0 _ (by exact⟨rfl,rfl,rfl,rfl⟩)) (@qa_nil _) (by rfl)) (by rfl) (by decide) (by decide) (by rfl) (by rfl)) (nomark _)) (@qss_one _ _ _ (@qs_ret _ _ _ _ (@q_ix _ _ _ _ _ _ (@q_v1 _ _ 0 _ (by exact⟨rfl,rfl,rfl,rfl⟩)) (@q_v1 _ _ 1 _ (by exact⟨rfl,rfl,rfl,rfl⟩)) (by intro _ _ ;rfl)))) (@qss_nil _)) (@qss_one _ _ _ (@qs_ret _ _ _ _ (@q_int _ _ _ _)))),?_⟩
  obtain⟨k,rfl⟩:=Int.eq_ofNat_of_zero_le k0
  simp only[Bk,C1,Bl,nOp,Ai,An,List.map_cons,List.map_nil,List.length_cons,List.length_nil,Nat.zero_add,Nat.reduceAdd,Nat.reduceSub,List.replicate,List.cons_append,List.nil_append,List.getElem?_cons_succ,List.getElem?_cons_zero,Option.some.injEq,nCB,Ag,As,List.cons.injEq,and_true,dI0,D.int.injEq,D.bl.injEq,Bc,dIx,exists_eq_left',Lo,Bm,nC,decide_eq_true_eq,Os]
  by_cases h:k<ns.length
  ·refine it0 (by omega) ?_
   have e:ns[k]? = some ns[k]:=by simp[h]
   exact⟨_,Ad5 (by rw[List.getElem?_map,e];rfl),Fq.of (q _)⟩
  ·refine it1 (by omega) ?_
   exact Fq.of (q _)
abbrev s_L_mix:Stmt:=top 35
abbrev Aa2:List Str:=["_law_cell_here", "_law_k", "_law_some", "_law_stir"]
abbrev Es:List Str:=["_law_cell_here", "_law_k"]
theorem sc_L_mix:FnScope Aa2 Es (Ad s_L_mix):=⟨rfl,rfl,rfl,by decide +kernel,rfl,by decide +kernel,by decide +kernel⟩
def Nq:DSp:=fun ds G Q _=>∃c k,ds=[.int c,.int k]∧0≤k∧k<100000∧∀n,Q (.int n) G
theorem Ac8{f:Addr}{fd:FuncData}(F:Fun K "_law_mix" "_law_mix" s_L_mix f fd)(T:Blt mg):FnOk P w K mg base CX0 1 f fd Es (Al K Nq):=by
 refine okD F sc_L_mix (fun ds G Q E h=>?_) (fun cdv A outer s H XE ds G Q E hr h=>?_)
 ·obtain⟨a,c,rfl,_⟩:=h;rfl
 ·obtain⟨c,k,rfl,k0,k1,q⟩:=h
  refine⟨_,(@qss_cons _ _ _ _ _ (@qs_set _ _ _ _ 2 _ _ sc_L_mix.nd (@Dh _ _ _ _ (@qa_consP _ _ _ _ _ (@q_int _ _ _ _) (@qa_consP _ _ _ _ _ (@q_int _ _ _ _) (@qa_consP _ _ _ _ _ (@q_int _ _ _ _) (@qa_consP _ _ _ _ _ (@q_int _ _ _ _) (@qa_consP _ _ _ _ _ (@q_int _ _ _ _) (@qa_consP _ _ _ _ _ (@q_int _ _ _ _) (@qa_consP _ _ _ _ _ (@q_int _ _ _ _) (@qa_consP _ _ _ _ _ (@q_int _ _ _ _) (@qa_consP _ _ _ _ _ (@q_int _ _ _ _) (@qa_consP _ _ _ _ _ (@q_int _ _ _ _) (@qa_consP _ _ _ _ _ (@q_int _ _ _ _) (@qa_consP _ _ _ _ _ (@q_int _ _ _ _) (@qa_consP _ _ _ _ _ (@q_int _ _ _ _) (@qa_nil _) (by rfl)) (by rfl)) (by rfl)) (by rfl)) (by rfl)) (by rfl)) (by rfl)) (by rfl)) (by rfl)) (by rfl)) (by rfl)) (by rfl)) (by rfl))) (by rfl) (by exact .inl rfl) (by rfl) (by exact .inl rfl)) (@qss_cons _ _ _ _ _ (@qs_set _ _ _ _ 3 _ _ sc_L_mix.nd (@A9 _ _ _ _ _ _ _ _ (@H0 _) (@A9 _ _ _ _ _ _ _ _ (@A5 _) (@A9 _ _ _ _ _ _ _ _ (@Nt _) (@q_v1 _ _ 0 _ (by exact⟨rfl,rfl,rfl,rfl⟩)) (@q_int _ _ _ _)) (@q_int _ _ _ _)) (@q_ix _ _ _ _ _ _ (@q_v1 _ _ 2 _ (by exact⟨rfl,rfl,rfl,rfl⟩)) (@A9 _ _ _ _ _ _ _ _ (@Nt _) (@q_v1 _ _ 1 _ (by exact⟨rfl,rfl,rfl,rfl⟩)) (@q_int _ _ _ _)) (by intro _ _ ;rfl))) (by rfl) (by exact .inl rfl) (by rfl) (by exact .inl rfl)) (@qss_cons _ _ _ _ _ (@qs_set _ _ _ _ 3 _ _ sc_L_mix.nd (@A9 _ _ _ _ _ _ _ _ (@A5 _) (@A9 _ _ _ _ _ _ _ _ (@A5 _) (@q_v1 _ _ 3 _ (by exact⟨rfl,rfl,rfl,rfl⟩)) (@A9 _ _ _ _ _ _ _ _ (@H0 _) (@q_int _ _ _ _) (@q_v1 _ _ 1 _ (by exact⟨rfl,rfl,rfl,rfl⟩)))) (@A9 _ _ _ _ _ _ _ _ (@H0 _) (@q_int _ _ _ _) (@A9 _ _ _ _ _ _ _ _ (@P8 _) (@q_v1 _ _ 1 _ (by exact⟨rfl,rfl,rfl,rfl⟩)) (@q_int _ _ _ _)))) (by rfl) (by exact .inl rfl) (by rfl) (by exact .inl rfl)) (@qss_cons _ _ _ _ _ (@qs_set _ _ _ _ 3 _ _ sc_L_mix.nd (@A9 _ _ _ _ _ _ _ _ (@Nt _) (@q_v1 _ _ 3 _ (by exact⟨rfl,rfl,rfl,rfl⟩)) (@q_int _ _ _ _)) (by rfl) (by exact .inl rfl) (by rfl) (by exact .inl rfl)) (@qss_one _ _ _ (@qs_ret _ _ _ _ (@A9 _ _ _ _ _ _ _ _ (@P8 _) (@A9 _ _ _ _ _ _ _ _ (@Nt _) (@A9 _ _ _ _ _ _ _ _ (@A5 _) (@A9 _ _ _ _ _ _ _ _ (@H0 _) (@q_v1 _ _ 3 _ (by exact⟨rfl,rfl,rfl,rfl⟩)) (@q_v1 _ _ 3 _ (by exact⟨rfl,rfl,rfl,rfl⟩))) (@A9 _ _ _ _ _ _ _ _ (@H0 _) (@q_int _ _ _ _) (@q_v1 _ _ 1 _ (by exact⟨rfl,rfl,rfl,rfl⟩)))) (@q_int _ _ _ _)) (@q_int _ _ _ _)))))))),?_⟩
  have sz:13≤sizeLine:=szl (by decide)
  simp only[Bk,Cg,Ez,Ag,nC,As,List.length_cons,List.length_nil,Nat.zero_add,Nat.reduceAdd,sz,Ao,nOp,Ai,An,List.map_cons,List.map_nil,Nat.reduceSub,List.replicate,List.cons_append,List.nil_append,List.set_cons_succ,List.set_cons_zero,List.getElem?_cons_zero,Option.some.injEq,dI,D.int.injEq,List.getElem?_cons_succ,dIx,CMul,Int.reducePow,Int.reduceNeg,Px,Bc,and_assoc,exists_eq_left',Int.reduceLT,true_and,Dc,and_self,true_or]
  intro p hp
  have h0:0≤k % 13:=Int.emod_nonneg _ (by decide)
  have h1:k % 13<13:=Int.emod_lt_of_pos _ (by decide)
  have p1:∀x:Int,0≤x % 2147483647∧x % 2147483647<2147483647:=fun x=>⟨Int.emod_nonneg _ (by decide),Int.emod_lt_of_pos _ (by decide)⟩
  have p2:∀x:Int,0≤x % 1000000007∧x % 1000000007<1000000007:=fun x=>⟨Int.emod_nonneg _ (by decide),Int.emod_lt_of_pos _ (by decide)⟩
  obtain⟨d,hd,hm⟩:=Aaz (xs:=[D.int 48271,.int 69621,.int 16807,.int 39373,.int 30269,.int 40014,.int 40692,.int 50021,.int 61687,.int 71993,.int 83869,.int 95561,.int 30307]) h0 h1
  obtain⟨m,rfl⟩:∃m,d=.int m:=by
   simp only[List.mem_cons,List.not_mem_nil,or_false] at hm
   rcases hm with rfl|rfl|rfl|rfl|rfl|rfl|rfl|rfl|rfl|rfl|rfl|rfl|rfl<;>exact⟨_,rfl⟩
  have a1:=p1 c
  simp only[Be Aa,hd,Option.some.injEq,Int.reduceNeg,exists_eq_left',D.int.injEq]
  refine⟨.inl ⟨by omega,by omega⟩,.inl ⟨?_,?_⟩,G,Sub.new hp,q _⟩
  ·exact Int.lt_of_lt_of_le (by decide) (p2 _).1
  ·exact Int.lt_trans (p2 _).2 (by decide)
abbrev s_L_box:Stmt:=top 36
abbrev Aa3:List Str:=["_law_script", "_law_k", "_law_lap", "_law_cell_here", "_law_number", "_law_j"]
abbrev p_L_box:List Str:=["_law_script", "_law_k", "_law_lap"]
theorem sc_L_box:FnScope Aa3 p_L_box (Ad s_L_box):=⟨rfl,rfl,rfl,by decide +kernel,rfl,by decide +kernel,by decide +kernel⟩
def spBox:DSp:=fun ds G Q _=>∃ns k lap,ds=[.lint ns,.int k,.int lap]∧(0≤k∧k<100∧0≤lap∧lap<10)∧∀p,G p=none→∀n,Q (.ref p) (Ac G p (.lst [.int n]))
theorem Ada{f:Addr}{fd:FuncData}(F:Fun K "_law_box" "_law_box" s_L_box f fd)(T:Blt mg)(Ag1:Def P w K mg base CX0 1 "_law_cell" p_L_cell spCell)(Ag2:Def P w K mg base CX0 1 "_law_mix" Es Nq):FnOk P w K mg base CX0 2 f fd p_L_box (Al K spBox):=by
 refine okD F sc_L_box (fun ds G Q E h=>?_) (fun cdv A outer s H XE ds G Q E hr h=>?_)
 ·obtain⟨a,c,l,rfl,_⟩:=h;rfl
 ·obtain⟨ns,k,lap,rfl,⟨k0,k1,l0,l1⟩,q⟩:=h
  refine⟨_,(@qss_cons _ _ _ _ _ (@qs_set _ _ _ _ 3 _ _ sc_L_box.nd (@q_call _ _ _ _ _ _ _ _ noX _ _ _ Ag1 (hr.mono (by decide)) (@passN _ _) (@qa_consP _ _ _ _ _ (@q_v1 _ _ 0 _ (by exact⟨rfl,rfl,rfl,rfl⟩)) (@qa_consP _ _ _ _ _ (@q_v1 _ _ 1 _ (by exact⟨rfl,rfl,rfl,rfl⟩)) (@qa_nil _) (by rfl)) (by rfl)) (by rfl) (by decide) (by rfl) (by rfl)) (by rfl) (by exact .inl rfl) (by rfl) (by exact .inl rfl)) (@qss_cons _ _ _ _ _ (@qs_if _ _ _ _ _ _ _ _ (@qt_of _ _ _ (@qw_and _ _ _ _ _ _ _ (@qt_cmp _ _ _ _ _ _ _ _ (@Nj _) (@A9 _ _ _ _ _ _ _ _ (@Nt _) (@q_v1 _ _ 3 _ (by exact⟨rfl,rfl,rfl,rfl⟩)) (@q_int _ _ _ _)) (@q_int _ _ _ _) (nomark _)) (@qw_and1 _ _ _ _ (@qt_cmp _ _ _ _ _ _ _ _ (@Nj _) (@q_v1 _ _ 2 _ (by exact⟨rfl,rfl,rfl,rfl⟩)) (@q_int _ _ _ _) (nomark _))))) (@qss_one _ _ _ (@qs_ret _ _ _ _ (@Dh _ _ _ _ (@qa_consP _ _ _ _ _ (@A9 _ _ _ _ _ _ _ _ (@P8 _) (@q_callB _ _ _ _ _ _ _ _ _ (@U7 _) (T.blt (by decide)) (by decide +kernel) (@qa_consP _ _ _ _ _ (@q_v1 _ _ 3 _ (by exact⟨rfl,rfl,rfl,rfl⟩)) (@qa_nil _) (by rfl)) (by rfl) (by decide) (by decide) (by rfl) (by rfl)) (@q_int _ _ _ _)) (@qa_nil _) (by rfl))))) (@qss_nil _)) (@qss_cons _ _ _ _ _ (@qs_set _ _ _ _ 4 _ _ sc_L_box.nd (@q_int _ _ _ _) (by rfl) (by exact .inl rfl) (by rfl) (by exact .inl rfl)) (@qss_cons _ _ _ _ _ (@Hs _ _ _ _ _ _ _ _ _ _ PassesOwn.never rfl (T.blt (by decide)) (@qa_consP _ _ _ _ _ (@q_int _ _ _ _) (@qa_nil _) (by rfl)) (@qg_name _ _ 5 _ sc_L_box.nd (by rfl) (by exact .inl rfl) (by exact .inl rfl)) (@qss_one _ _ _ (@qs_set _ _ _ _ 4 _ _ sc_L_box.nd (@A9 _ _ _ _ _ _ _ _ (@A5 _) (@A9 _ _ _ _ _ _ _ _ (@H0 _) (@q_v1 _ _ 4 _ (by exact⟨rfl,rfl,rfl,rfl⟩)) (@q_int _ _ _ _)) (@q_call _ _ _ _ _ _ _ _ noX _ _ _ Ag2 (hr.mono (by decide)) (@passN _ _) (@qa_consP _ _ _ _ _ (@q_v1 _ _ 3 _ (by exact⟨rfl,rfl,rfl,rfl⟩)) (@qa_consP _ _ _ _ _ (@A9 _ _ _ _ _ _ _ _ (@A5 _) (@A9 _ _ _ _ _ _ _ _ (@H0 _) (@q_int _ _ _ _) (@q_v1 _ _ 2 _ (by exact⟨rfl,rfl,rfl,rfl⟩))) (@q_v1 _ _ 5 _ (by exact⟨rfl,rfl,rfl,rfl⟩))) (@qa_nil _) (by rfl)) (by rfl)) (by rfl) (by decide) (by rfl) (by rfl))) (by rfl) (by exact .inl rfl) (by rfl) (by exact .inl rfl))) (by rfl) (by rfl) (by intro _ ;rfl)) (@qss_one _ _ _ (@qs_ret _ _ _ _ (@Dh _ _ _ _ (@qa_consP _ _ _ _ _ (@q_v1 _ _ 4 _ (by exact⟨rfl,rfl,rfl,rfl⟩)) (@qa_nil _) (by rfl))))))))),?_⟩
  have sz:1≤sizeLine:=szl (by decide)
  simp only[Bk,Cg,A0,Ag,Ai,An,List.map_cons,List.map_nil,List.length_cons,List.length_nil,Nat.zero_add,Nat.reduceAdd,Nat.reduceSub,List.replicate,List.cons_append,List.nil_append,List.getElem?_cons_zero,Option.some.injEq,List.getElem?_cons_succ,As,spCell,List.cons.injEq,and_true,Ao,C1,Ys,Bl,nOp,List.set_cons_succ,List.set_cons_zero,nC,dI,D.int.injEq,dEq,eqS,D.bl.injEq,Bc,Ez,nCB,Px,sz,true_and,and_assoc,exists_eq_left',Int.reduceLT,Bm,Nv,Int.reducePow,Int.reduceNeg,Int.reduceLE,Int.reduceToNat,decide_eq_true_eq,reduceCtorEq,if_false,exists_and_left,k0]
  refine⟨ns,rfl,fun n=>?_⟩
  by_cases h2:n % 2=0
  ·refine it0 h2 ?_
   by_cases hl:lap=0
   ·refine it0 hl ?_;exact fun p hp=>Fq.of (q p hp _)
   ·refine it1 hl ?_
    refine Df (fun i σ G'=>∃v v',σ=[some (.lint ns),some (.int k),some (.int lap),some (.int n),some (.int v),v']∧G=G') ⟨0,none,rfl,rfl⟩ ?_ ?_
    ·rintro i σ G' hi ⟨v,v',rfl,rfl⟩
     simp only[Ao,Cg,nOp,Ai,List.set_cons_succ,List.set_cons_zero,List.getElem?_cons_succ,List.getElem?_cons_zero,Option.some.injEq,nC,dI,D.int.injEq,CMul,Int.reducePow,Int.reduceNeg,A0,Ag,As,Nq,List.cons.injEq,and_true,Dc,and_assoc,exists_and_left,exists_eq_left',Int.reduceLT,and_self,true_or,true_and,or_true]
     refine⟨by omega,by omega,fun m=>Fs.of ⟨_,_,rfl,rfl⟩⟩
    ·rintro σ G' ⟨v,v',rfl,rfl⟩
     simp only[Bc,Ez,Ag,Ai,List.getElem?_cons_succ,List.getElem?_cons_zero,Option.some.injEq,As,List.length_cons,List.length_nil,Nat.zero_add,sz,true_and,exists_eq_left']
     exact fun p hp=>Fq.of (q p hp _)
  ·refine it1 h2 ?_
   refine Df (fun i σ G'=>∃v v',σ=[some (.lint ns),some (.int k),some (.int lap),some (.int n),some (.int v),v']∧G=G') ⟨0,none,rfl,rfl⟩ ?_ ?_
   ·rintro i σ G' hi ⟨v,v',rfl,rfl⟩
    simp only[Ao,Cg,nOp,Ai,List.set_cons_succ,List.set_cons_zero,List.getElem?_cons_succ,List.getElem?_cons_zero,Option.some.injEq,nC,dI,D.int.injEq,CMul,Int.reducePow,Int.reduceNeg,A0,Ag,As,Nq,List.cons.injEq,and_true,Dc,and_assoc,exists_and_left,exists_eq_left',Int.reduceLT,and_self,true_or,true_and,or_true]
    refine⟨by omega,by omega,fun m=>Fs.of ⟨_,_,rfl,rfl⟩⟩
   ·rintro σ G' ⟨v,v',rfl,rfl⟩
    simp only[Bc,Ez,Ag,Ai,List.getElem?_cons_succ,List.getElem?_cons_zero,Option.some.injEq,As,List.length_cons,List.length_nil,Nat.zero_add,sz,true_and,exists_eq_left']
    exact fun p hp=>Fq.of (q p hp _)
abbrev s_L_take:Stmt:=top 37
abbrev Yi:List Str:=["_law_box_here", "_law_count", "_law_left", "_law_digit"]
abbrev p_L_take:List Str:=["_law_box_here", "_law_count"]
theorem sc_L_take:FnScope Yi p_L_take (Ad s_L_take):=⟨rfl,rfl,rfl,by decide +kernel,rfl,by decide +kernel,by decide +kernel⟩
def spTake:DSp:=fun ds G Q _=>∃a c,ds=[.ref a,.int c]∧(∃b,G a=some (.lst [.int b]))∧(0<c∧c<1073741824)∧∀r b',0≤r→r<c→Q (.int r) (Ac G a (.lst [.int b']))
theorem Z7{f:Addr}{fd:FuncData}(F:Fun K "_law_take" "_law_take" s_L_take f fd)(T:Blt mg):FnOk P w K mg base CX0 1 f fd p_L_take (Al K spTake):=by
 refine okD F sc_L_take (fun ds G Q E h=>?_) (fun cdv A outer s H XE ds G Q E hr h=>?_)
 ·obtain⟨a,c,rfl,_⟩:=h;rfl
 ·obtain⟨a,c,rfl,⟨b,hG⟩,⟨c0,c1⟩,q⟩:=h
  refine⟨_,(@qss_cons _ _ _ _ _ (@E5 _ _ _ _ _ _ (@q_callB _ _ _ _ _ _ _ _ _ (@X6 _) (T.blt (by decide)) (by decide +kernel) (@qa_consP _ _ _ _ _ (@q_ix _ _ _ _ _ _ (@q_v1 _ _ 0 _ (by exact⟨rfl,rfl,rfl,rfl⟩)) (@q_int _ _ _ _) (by intro _ _ ;rfl)) (@qa_consP _ _ _ _ _ (@q_v1 _ _ 1 _ (by exact⟨rfl,rfl,rfl,rfl⟩)) (@qa_nil _) (by rfl)) (by rfl)) (by rfl) (by decide) (by decide) (by rfl) (by rfl)) (@qg_tup _ _ _ _ _ 2 rfl (@qgs_cons _ _ _ _ _ (@qg_name _ _ 2 _ sc_L_take.nd (by rfl) (by exact .inl rfl) (by exact .inl rfl)) (@qgs_cons _ _ _ _ _ (@qg_name _ _ 3 _ sc_L_take.nd (by rfl) (by exact .inl rfl) (by exact .inl rfl)) (@qgs_nil _) (by rfl)) (by rfl)) (by rfl) (by rfl)) (by rfl) (by rfl) (by rfl)) (@qss_cons _ _ _ _ _ (@E5 _ _ _ _ _ _ (@q_v1 _ _ 2 _ (by exact⟨rfl,rfl,rfl,rfl⟩)) (@P5 _ _ _ _ _ _ _ (@q_v1 _ _ 0 _ (by exact⟨rfl,rfl,rfl,rfl⟩)) (@q_int _ _ _ _) (@Ve _) (by intro _ ;rfl)) (by rfl) (by rfl) (by rfl)) (@qss_one _ _ _ (@qs_ret _ _ _ _ (@q_v1 _ _ 3 _ (by exact⟨rfl,rfl,rfl,rfl⟩)))))),?_⟩
  simp only[Bk,Cg,nCB,Ag,nOp,Ai,An,List.map_cons,List.map_nil,List.length_cons,List.length_nil,Nat.zero_add,Nat.reduceAdd,Nat.reduceSub,List.replicate,List.cons_append,List.nil_append,List.getElem?_cons_zero,Option.some.injEq,nC,dIx,D.int.injEq,List.getElem?_cons_succ,As,List.cons.injEq,and_true,Px,Gc,D.tup.injEq,Dr,Ao,Gd,List.set_cons_succ,List.set_cons_zero,Yt,U5,Bc,exists_eq_left',D.ref.injEq,hG,GO.lst.injEq,ix0,and_assoc,exists_and_left,true_and,c0,c1,Be hG,Sk]
  exact Fq.of (q _ _ (Int.emod_nonneg _ (by omega)) (Int.emod_lt_of_pos _ c0))
def hid(G:Gp)(a:Addr):Gp:=fun b=>if b=a then none else G b
theorem Aav{G:Gp}{a:Addr}{o:GO}:hid (Ac G a o) a=hid G a:=by
 funext b;unfold hid Ac
 by_cases e:b=a<;>simp[e]
theorem Rz{G:Gp}{a p:Addr}{o:GO}(h:a≠p):hid (Ac G p o) a=Ac (hid G a) p o:=by
 funext b;unfold hid Ac
 by_cases e:b=a
 ·subst e;simp[h]
 ·simp[e]
theorem Jb{G:Gp}{a p:Addr}(h:G p=none):hid G a p=none:=by
 unfold hid;split<;>first|rfl|exact h
structure Step(a:Addr)(G G':Gp):Prop where
 box:∃b,G' a=some (.lst [.int b])
 sub:Sub (hid G a) (hid G' a)
theorem Step.trans{a:Addr}{G G1 G2:Gp}(x:Step a G G1)(y:Step a G1 G2):Step a G G2:=⟨y.box,x.sub.trans y.sub⟩
theorem Step.refl{a:Addr}{G:Gp}(h:∃b,G a=some (.lst [.int b])):Step a G G:=⟨h,Sub.refl _⟩
theorem Step.take{a:Addr}{G G1:Gp}(x:Step a G G1)(b:Int):Step a G (Ac G1 a (.lst [.int b])):=⟨⟨b,Aa⟩,by rw[Aav];exact x.sub⟩
theorem Step.ne{a p:Addr}{G:Gp}(x:∃b,G a=some (.lst [.int b]))(h:G p=none):a≠p:=fun e=>by subst e;obtain⟨b,hb⟩:=x;rw[h] at hb;cases hb
theorem Step.lay{a p:Addr}{G G1:Gp}{o:GO}(x:Step a G G1)(h:G1 p=none):Step a G (Ac G1 p o):=by
 have n:=Step.ne x.box h
 obtain⟨b,hb⟩:=x.box
 exact⟨⟨b,by rw[Af n];exact hb⟩,by rw[Rz n];exact x.sub.skip (Jb h)⟩
theorem Step.back{a b:Addr}{G G1:Gp}(x:Step a G G1)(h:G1 b=none):G b=none:=by
 have n:=Step.ne x.box h
 have e:=x.sub.none (Jb (a:=a) h)
 unfold hid at e
 rwa [if_neg (Ne.symm n)] at e
theorem Step.write{a p:Addr}{G G1:Gp}{o:GO}(x:Step a G G1)(h:G p=none)(n:a≠p):Step a G (Ac G1 p o):=by
 obtain⟨b,hb⟩:=x.box
 refine⟨⟨b,by rw[Af n];exact hb⟩,?_⟩
 rw[Rz n]
 intro c u e
 rw[Af (gne e (Jb h))];exact x.sub c u e
def nw(G G':Gp):Gp:=fun b=>if (G b).isNone=true then G' b else none
theorem Bj{G:Gp}{p q:Addr}{o u:GO}(h:G p=some o)(hq:G q=none):Ac G q u p=some o:=by rw[Af (gne h hq)];exact h
theorem Cu{a:Addr}{G:Gp}{c:Int}{Q:DK}{E:DX}(hG:∃b,G a=some (.lst [.int b]))(c0:0<c)(c1:c<1073741824)(h:∀r b',0≤r→r<c→Q (.int r) (Ac G a (.lst [.int b']))):spTake [.ref a,.int c] G Q E:=⟨a,c,rfl,hG,⟨c0,c1⟩,h⟩
end
end K2
namespace K2
open PySem L2 D3
section
variable{P:Program}{w:World}{K:W.Frag}{mg:Str→Option Value}{base:Heap}
structure Nums(mg:Str→Option Value):Prop extends Blt mg where
 LEAST_COLUMNS:∃t,mg "LEAST_COLUMNS" = some (.int 2 t)
 MOST_COLUMNS:∃t,mg "MOST_COLUMNS" = some (.int 16 t)
 LAST_ROW:∃t,mg "LAST_ROW" = some (.int 8 t)
abbrev s_is_whole_within:Stmt:=top 5
abbrev Ga:List Str:=["thing", "low", "high"]
abbrev p_is_whole_within:List Str:=["thing", "low", "high"]
theorem Fe:FnScope Ga p_is_whole_within (Ad s_is_whole_within):=⟨rfl,rfl,rfl,by decide +kernel,rfl,by decide +kernel,by decide +kernel⟩
def spWhole:DSp:=fun ds G Q _=>∃d lo hi,ds=[d,.int lo,.int hi]∧Kn G d∧Q (.bl (Bn lo hi d)) G
theorem W8{f:Addr}{fd:FuncData}(F:Fun K "is_whole_within" "is_whole_within" s_is_whole_within f fd)(T:Nums mg):FnOk P w K mg base CX0 1 f fd p_is_whole_within (Al K spWhole):=by
 refine okD F Fe (fun ds G Q E h=>?_) (fun cdv A outer s H XE ds G Q E hr h=>?_)
 ·obtain⟨d,lo,hi,rfl,_⟩:=h;rfl
 ·obtain⟨d,lo,hi,rfl,⟨t,ht⟩,k⟩:=h
  refine⟨_,(@qss_one _ _ _ (@qs_ret _ _ _ _ (@q_and _ _ _ _ _ _ _ (@q_callB _ _ _ _ _ _ _ _ _ (@c_isinst _) (T.blt (by decide)) (by decide +kernel) (@qa_consP _ _ _ _ _ (@q_v1 _ _ 0 _ (by exact⟨rfl,rfl,rfl,rfl⟩)) (@qa_consP _ _ _ _ _ (@q_globty _ _ _ "int" (T.blt (by decide)) (by decide +kernel) (by rfl) (by decide) (by decide)) (@qa_nil _) (by rfl)) (by rfl)) (by rfl) (by decide) (by decide) (by rfl) (by rfl)) (@q_and _ _ _ _ _ _ _ (@q_not _ _ _ _ (@q_callB _ _ _ _ _ _ _ _ _ (@c_isinst _) (T.blt (by decide)) (by decide +kernel) (@qa_consP _ _ _ _ _ (@q_v1 _ _ 0 _ (by exact⟨rfl,rfl,rfl,rfl⟩)) (@qa_consP _ _ _ _ _ (@q_globty _ _ _ "bool" (T.blt (by decide)) (by decide +kernel) (by rfl) (by decide) (by decide)) (@qa_nil _) (by rfl)) (by rfl)) (by rfl) (by decide) (by decide) (by rfl) (by rfl))) (@q_one _ _ _ _ _ (@Zm _ _ _ _ _ _ _ _ _ _ _ _ (@o_le _) (@o_le _) (@q_v1 _ _ 1 _ (by exact⟨rfl,rfl,rfl,rfl⟩)) (@q_v1 _ _ 0 _ (by exact⟨rfl,rfl,rfl,rfl⟩)) (@q_v1 _ _ 2 _ (by exact⟨rfl,rfl,rfl,rfl⟩)) (by with_unfolding_all rfl))))))),?_⟩
  simp only[Bc,Nw,nCB,Ag,Ai,An,List.map_cons,List.map_nil,List.length_cons,List.length_nil,Nat.zero_add,Nat.reduceAdd,Nat.reduceSub,List.replicate,List.cons_append,List.nil_append,List.getElem?_cons_zero,Option.some.injEq,nC,As,List.cons.injEq,D.ty.injEq,and_true,D.bl.injEq,U0,E7,List.getElem?_cons_succ,dI0,exists_eq_left',D.int.injEq,decide_eq_true_eq,and_assoc,exists_and_left,Aaw,true_and,ht,Ady]
  have other:(pyIs t "int" = false∨pyIs t "bool" = true)→Q (.bl false) G→if pyIs t "int" = true then if (!pyIs t "bool")=true then ∃j,d=D.int j∧if lo≤j then ∃i,d=D.int i∧Fq Q (D.bl (decide (i≤hi))) G else Fq Q (D.bl false) G else Fq Q (D.bl false) G else Fq Q (D.bl false) G:=fun h q=>by
   rcases h with h|h
   ·rw[h,if_neg Bool.false_ne_true];exact Fq.of q
   ·rw[h];split
    ·rw[if_neg (by decide)];exact Fq.of q
    ·exact Fq.of q
  cases d with
  |int i=>
   cases ht
   rw[if_pos (by decide),if_pos (by decide)]
   refine⟨i,rfl,?_⟩
   by_cases h:lo≤i
   ·rw[if_pos h]
    refine⟨i,rfl,Fq.of ?_⟩
    simpa[Bn,h] using k
   ·rw[if_neg h]
    refine Fq.of ?_
    simpa[Bn,h] using k
  |bl b=>cases ht;exact other (.inr (by decide)) k
  |non=>cases ht;exact other (.inl (by decide)) k
  |str x=>cases ht;exact other (.inl (by decide)) k
  |tup ds=>cases ht;exact other (.inl (by decide)) k
  |ty n=>cases ht
  |lint ns=>cases ht
  |ref a=>
   refine other (.inl ?_) k
   simp only[C9] at ht
   split at ht<;>first|(cases ht;decide)|cases ht
def Bb:D→Int
 |.int i=>i
 |_=>0
def Ck:List D→Bool
 |x::y::r=>decide (Bb x<Bb y)&&Ck (y::r)
 |_=>true
def ltD:D→Bool
 |.tup [u,v]=>decide (Bb u<Bb v)
 |_=>false
def Yo(lo hi:Int):D→Bool
 |.tup ds=>ds.all (Bn lo hi)&&Ck ds
 |_=>false
abbrev Cy:D→Bool:=Yo 0 8
theorem Gj{xs:List D}:Dq xs (some 1) none=xs.drop 1:=by
 simp only[Dq,HT.sIx,if_neg (show ¬(1:Int)<0 by decide)]
 cases xs with
 |nil=>rfl
 |cons x r=>simp
theorem Fx{x y:D}{xs ys:List D}:Bx [x::xs,y::ys]=.tup [x,y]::Bx [xs,ys]:=by
 have e:Cq [x::xs,y::ys]=Cq [xs,ys]+1:=by simp only[Cq,List.length_cons];omega
 unfold Bx
 rw[e,List.range_succ_eq_map,List.map_cons,List.map_map]
 rfl
theorem Jk:∀xs:List D,(Bx [xs,xs.drop 1]).all ltD=Ck xs
 |[]=>rfl
 |[x]=>by simp[Bx,Cq,Ck]
 |x::y::r=>by
  show(Bx [x::y::r,y::r]).all ltD=_
  rw[Fx,List.all_cons]
  have:=Jk (y::r)
  simp only[List.drop_succ_cons,List.drop_zero] at this
  rw[this];rfl
theorem Dj{xs ys:List D}{z:D}(h:z∈Bx [xs,ys]):∃u v,z=.tup [u,v]∧u∈xs∧v∈ys:=by
 obtain⟨i,hi,e⟩:=List.getElem_of_mem h
 have hl:i<Cq [xs,ys]:=by rw[←B6];exact hi
 have:=Nz hl
 rw[List.getElem?_eq_getElem hi,e] at this
 cases this
 have h1:=Fu hl xs (by simp)
 have h2:=Fu hl ys (by simp)
 exact⟨_,_,rfl,by simp[List.getD,h1],by simp[List.getD,h2]⟩
theorem Bt{α:Type}{xs:List α}:xs.filter (fun _=>true)=xs:=List.filter_eq_self.mpr fun _ _=>rfl
theorem Mn{G:Gp}{d:D}{t:String}(ht:C9 G d=some t)(h:t≠"tuple"):pyIs t "tuple" = false∧∀xs,d≠.tup xs:=by
 refine⟨?_,fun xs e=>by subst e;cases ht;exact h rfl⟩
 have:=Jl ht
 simp only[List.mem_cons,List.not_mem_nil,or_false] at this
 rcases this with rfl|rfl|rfl|rfl|rfl|rfl|rfl<;>first|rfl|exact absurd rfl h
abbrev s_are_rising_within:Stmt:=top 6
abbrev E1:List Str:=["thing", "low", "high"]
abbrev A6:List Str:=["thing", "low", "high"]
theorem Eo:FnScope E1 A6 (Ad s_are_rising_within):=⟨rfl,rfl,rfl,by decide +kernel,rfl,by decide +kernel,by decide +kernel⟩
theorem nd_are_rising_within_1:((["number"]:List Str)++(["thing", "low", "high"]:List Str)).Nodup:=by decide +kernel
theorem Co:((["ahead", "number"]:List Str)++(["thing", "low", "high"]:List Str)).Nodup:=by decide +kernel
def Fy:DSp:=fun ds G Q _=>∃d lo hi,ds=[d,.int lo,.int hi]∧KnT G 1 d∧(∀xs,d=.tup xs→xs.length<sizeLine)∧Q (.bl (Yo lo hi d)) G
theorem Td{f:Addr}{fd:FuncData}(F:Fun K "are_rising_within" "are_rising_within" s_are_rising_within f fd)(T:Nums mg)(Agl:Def P w K mg base CX0 1 "is_whole_within" p_is_whole_within spWhole):FnOk P w K mg base CX0 2 f fd A6 (Al K Fy):=by
 refine okD F Eo (fun ds G Q E h=>?_) (fun cdv A outer s H XE ds G Q E hr h=>?_)
 ·obtain⟨d,lo,hi,rfl,_⟩:=h;rfl
 ·obtain⟨d,lo,hi,rfl,kn,hz,k⟩:=h
  refine⟨_,(@qss_cons _ _ _ _ _ (@qs_if _ _ _ _ _ _ _ _ (@qt_of _ _ _ (@qw_or _ _ _ _ _ _ _ (@qt_not _ _ _ _ (@qt_tru _ _ _ (@q_callB _ _ _ _ _ _ _ _ _ (@c_isinst _) (T.blt (by decide)) (by decide +kernel) (@qa_consP _ _ _ _ _ (@q_v1 _ _ 0 _ (by exact⟨rfl,rfl,rfl,rfl⟩)) (@qa_consP _ _ _ _ _ (@q_globty _ _ _ "tuple" (T.blt (by decide)) (by decide +kernel) (by rfl) (by decide) (by decide)) (@qa_nil _) (by rfl)) (by rfl)) (by rfl) (by decide) (by decide) (by rfl) (by rfl)) (by intro _ ;rfl))) (@qw_or1 _ _ _ _ (@qt_not _ _ _ _ (@qt_tru _ _ _ (@q_callB _ _ _ _ _ _ _ _ _ (@c_all _ rfl) (T.blt (by decide)) (by decide +kernel) (@qa_consP _ _ _ _ _ (@q_compz _ _ _ _ _ _ _ _ _ _ _ ["number"] ["thing", "low", "high"] rfl (@compOz _ _ _ _ (by rfl) (by rfl) (by rfl) (by rfl) (by rfl)) (@q_v1 _ _ 0 _ (by exact⟨rfl,rfl,rfl,rfl⟩)) (fun _ _ _=>(@qg_name _ _ 0 _ nd_are_rising_within_1 (by rfl) (by exact .inl rfl) (by exact .inr rfl))) (fun _ _ _=>(@qf_nil _)) (fun _ _ _=>(@q_call _ _ _ _ _ _ _ _ noX _ _ _ Agl (hr.mono (by decide)) (@passN _ _) (@qa_consP _ _ _ _ _ (@q_v1 _ _ 0 _ (by exact⟨rfl,rfl,rfl,rfl⟩)) (@qa_consP _ _ _ _ _ (@q_v2 _ _ 2 _ (by exact⟨rfl,rfl,rfl,rfl⟩)) (@qa_consP _ _ _ _ _ (@q_v2 _ _ 3 _ (by exact⟨rfl,rfl,rfl,rfl⟩)) (@qa_nil _) (by rfl)) (by rfl)) (by rfl)) (by rfl) (by decide) (by rfl) (by rfl))) (by intro _ ;rfl)) (@qa_nil _) (by rfl)) (by rfl) (by decide) (by decide) (by rfl) (by rfl)) (by intro _ ;rfl)))))) (@qss_one _ _ _ (@qs_ret _ _ _ _ (@q_bl _ _ _ _))) (@qss_nil _)) (@qss_one _ _ _ (@qs_ret _ _ _ _ (@q_callB _ _ _ _ _ _ _ _ _ (@c_all _ rfl) (T.blt (by decide)) (by decide +kernel) (@qa_consP _ _ _ _ _ (@q_compzZ2 _ _ _ _ _ _ _ _ ["ahead", "number"] ["thing", "low", "high"] _ _ _ _ _ _ _ _ rfl (@compOz _ _ _ _ (by rfl) (by rfl) (by rfl) (by rfl) (by rfl)) (T.blt (by decide)) (@qa_consP _ _ _ _ _ (@q_v1 _ _ 0 _ (by exact⟨rfl,rfl,rfl,rfl⟩)) (@qa_consP _ _ _ _ _ (@q_slice _ _ _ _ _ _ _ _ _ (@q_v1 _ _ 0 _ (by exact⟨rfl,rfl,rfl,rfl⟩)) (@qo_some _ _ _ (@q_int _ _ _ _)) (@qo_none _)) (@qa_nil _) (by rfl)) (by rfl)) (fun _ _ _=>(@qg_tup _ _ _ _ _ 2 rfl (@qgs_cons _ _ _ _ _ (@qg_name _ _ 0 _ Co (by rfl) (by exact .inl rfl) (by exact .inr rfl)) (@qgs_cons _ _ _ _ _ (@qg_name _ _ 1 _ Co (by rfl) (by exact .inl rfl) (by exact .inr rfl)) (@qgs_nil _) (by rfl)) (by rfl)) (by rfl) (by rfl))) (fun _ _ _=>(@qf_nil _)) (fun _ _ _=>(@q_cmp _ _ _ _ _ _ _ _ (@o_lt _) (@q_v1 _ _ 0 _ (by exact⟨rfl,rfl,rfl,rfl⟩)) (@q_v1 _ _ 1 _ (by exact⟨rfl,rfl,rfl,rfl⟩)) (nomark _))) (by rfl) (by rfl) (by rfl) (by intro _ ;rfl)) (@qa_nil _) (by rfl)) (by rfl) (by decide) (by decide) (by rfl) (by rfl))))),?_⟩
  obtain⟨t,ht⟩:=kn.kn
  simp only[Bk,C1,nOr,Ex,D4,nCB,Ag,Ai,An,List.map_cons,List.map_nil,List.length_cons,List.length_nil,Nat.zero_add,Nat.reduceAdd,Nat.reduceSub,List.replicate,List.cons_append,List.nil_append,List.getElem?_cons_zero,Option.some.injEq,nC,As,List.cons.injEq,D.ty.injEq,and_true,Bc,Bm,Ht,nSl,D8,D.int.injEq,B7,true_and,exists_eq_left',if_true,Ci,and_assoc,exists_and_left,F4,ht]
  refine⟨pyIs t "tuple",rfl,?_⟩
  by_cases htt:t = "tuple"
  ·subst htt
   obtain⟨xs,rfl⟩:=Pz ht
   rw[if_neg (by decide)]
   have k2:Q (.bl (xs.all (Bn lo hi)&&Ck xs)) G:=k
   have hz1:=hz xs rfl
   refine⟨xs,rfl,fun p hp=>?_⟩
   refine B2 (fun x=>.bl (Bn lo hi x)) (fun _=>true) hz1 (fun _=>rfl) (by decide) (fun x ys hx hl R1 R2 g1 _=>?_) ?_
   ·have kx:Kn (Ac G p (.lst ys)) x:=Kn.new (kn.2 xs rfl x hx) hp
    simp only[C3,A0,Ag,Ai,List.replicate,List.cons_append,List.nil_append,List.set_cons_zero,List.getElem?_cons_zero,Option.some.injEq,List.getElem?_cons_succ,As,spWhole,List.cons.injEq,and_true,Aa,hl,Av,true_and,and_assoc,exists_and_left,exists_eq_left',D.int.injEq,kx,if_true]
    exact Fg.of (g1 rfl)
   ·refine⟨p,rfl,xs.map (Bn lo hi),by rw[Aa,Bt,List.map_map];rfl,?_⟩
    have ea:(xs.map (Bn lo hi)).all id=xs.all (Bn lo hi):=by simp[List.all_map]
    refine⟨_,rfl,?_⟩
    rw[ea]
    cases hc:xs.all (Bn lo hi) with
    |false=>
     rw[if_pos (by decide)]
     rw[hc] at k2
     exact⟨G,Sub.new hp,by simpa using k2⟩
    |true=>
     rw[if_neg (by decide)]
     rw[hc] at k2
     have allI:∀x∈xs,∃i,x=.int i:=fun x hx=>by
      have:=List.all_eq_true.mp hc x hx
      cases x with
      |int i=>exact⟨i,rfl⟩
      |_=>exact absurd (show false=true from this) Bool.false_ne_true
     rw[Cj,Gj]
     have sg:Sub G (Ac G p (.lst ((xs.filter fun _=>true).map fun x=>.bl (Bn lo hi x)))):=Sub.new hp
     generalize Ac G p (.lst ((xs.filter fun _=>true).map fun x=>.bl (Bn lo hi x)))=G1 at *
     refine⟨[xs,xs.drop 1],rfl,fun p2 hp2=>?_⟩
     have hzl:(Bx [xs,xs.drop 1]).length<sizeLine:=by
      rw[B6]
      refine Nat.lt_of_le_of_lt ?_ hz1
      simp only[Cq];omega
     refine Ji (fun z=>match z with|.tup [u,v]=>[some u,some v,some (.tup xs),some (.int lo),some (.int hi)]|_=>[none,none,some (.tup xs),some (.int lo),some (.int hi)]) (fun z=>.bl (ltD z)) (fun _=>true) hzl (fun _=>rfl) (fun z hz=>?_) (fun z ys hzm hl R1 R2 g1 _=>?_) ?_
     ·obtain⟨u,v,rfl,_,_⟩:=Dj hz
      refine⟨⟨[some u,some v],rfl,rfl⟩,fun G' R h=>?_⟩
      simp only[Gc,D.tup.injEq,Dr,Ao,Gd,List.replicate,List.cons_append,List.nil_append,List.set_cons_zero,List.set_cons_succ,exists_eq_left',List.length_cons,List.length_nil,Nat.zero_add,Nat.reduceAdd,List.cons.injEq,and_assoc,exists_and_left,true_and]
      exact h
     ·obtain⟨u,v,rfl,hu,hv⟩:=Dj hzm
      obtain⟨i,rfl⟩:=allI u hu
      obtain⟨j,rfl⟩:=allI v (List.mem_of_mem_drop hv)
      simp only[C3,nOp,Ai,List.getElem?_cons_zero,Option.some.injEq,List.getElem?_cons_succ,dI0,Aa,hl,Av,true_and,exists_eq_left',D.int.injEq,if_true]
      exact Fg.of (g1 rfl)
     ·refine⟨p2,rfl,(Bx [xs,xs.drop 1]).map ltD,by rw[Aa,Bt,List.map_map];rfl,?_⟩
      have e2:((Bx [xs,xs.drop 1]).map ltD).all id=Ck xs:=by rw[List.all_map];exact Jk xs
      rw[e2]
      exact⟨G,sg.skip hp2,by simpa using k2⟩
  ·obtain⟨e,nt⟩:=Mn ht htt
   rw[e,if_pos (by decide)]
   refine Fq.of ?_
   cases d with
   |tup xs=>exact absurd rfl (nt xs)
   |_=>exact k
abbrev s_are_rows:Stmt:=top 12
abbrev Q3:List Str:=["thing"]
abbrev Cb:List Str:=["thing"]
theorem Pa:FnScope Q3 Cb (Ad s_are_rows):=⟨rfl,rfl,rfl,by decide +kernel,rfl,by decide +kernel,by decide +kernel⟩
def Gg:DSp:=fun ds G Q _=>∃d,ds=[d]∧KnT G 1 d∧(∀xs,d=.tup xs→xs.length<sizeLine)∧Q (.bl (Cy d)) G
theorem Z9{f:Addr}{fd:FuncData}(F:Fun K "are_rows" "are_rows" s_are_rows f fd)(T:Nums mg)(Ag3:Def P w K mg base CX0 2 "are_rising_within" A6 Fy):FnOk P w K mg base CX0 3 f fd Cb (Al K Gg):=by
 refine okD F Pa (fun ds G Q E h=>?_) (fun cdv A outer s H XE ds G Q E hr h=>?_)
 ·obtain⟨d,rfl,_⟩:=h;rfl
 ·obtain⟨d,rfl,kn,hz,k⟩:=h
  refine⟨_,(@qss_one _ _ _ (@qs_ret _ _ _ _ (@q_call _ _ _ _ _ _ _ _ noX _ _ _ Ag3 (hr.mono (by decide)) (@passN _ _) (@qa_consP _ _ _ _ _ (@q_v1 _ _ 0 _ (by exact⟨rfl,rfl,rfl,rfl⟩)) (@qa_consP _ _ _ _ _ (@q_int _ _ _ _) (@qa_consP _ _ _ _ _ (@q_globx _ _ _ _ T.LAST_ROW (by rfl) (by decide)) (@qa_nil _) (by rfl)) (by rfl)) (by rfl)) (by rfl) (by decide) (by rfl) (by rfl)))),?_⟩
  simp only[Bc,A0,Ag,Ai,An,List.map_cons,List.map_nil,List.length_cons,List.length_nil,Nat.zero_add,Nat.reduceSub,List.replicate,List.cons_append,List.nil_append,List.getElem?_cons_zero,Option.some.injEq,nC,As,Fy,List.cons.injEq,D.int.injEq,and_true,and_assoc,exists_and_left,exists_eq_left',kn,true_and]
  exact⟨hz,Fq.of k⟩
def Ic:D→Bool
 |.tup cs=>decide (2≤cs.length)&&decide (cs.length≤16)&&cs.all Cy
 |_=>false
def SzT(d:D):Prop:=∀xs,d=.tup xs→xs.length<sizeLine∧∀y∈xs,∀ys,y=.tup ys→ys.length<sizeLine
abbrev s_is_channel:Stmt:=top 13
abbrev Ng:List Str:=["thing"]
abbrev B3:List Str:=["thing"]
theorem Km:FnScope Ng B3 (Ad s_is_channel):=⟨rfl,rfl,rfl,by decide +kernel,rfl,by decide +kernel,by decide +kernel⟩
theorem Hj:((["rows"]:List Str)++(["thing"]:List Str)).Nodup:=by decide +kernel
def L8:DSp:=fun ds G Q _=>∃d,ds=[d]∧KnT G 2 d∧SzT d∧Q (.bl (Ic d)) G
theorem Aad{f:Addr}{fd:FuncData}(F:Fun K "is_channel" "is_channel" s_is_channel f fd)(T:Nums mg)(Agp:Def P w K mg base CX0 3 "are_rows" Cb Gg):FnOk P w K mg base CX0 4 f fd B3 (Al K L8):=by
 refine okD F Km (fun ds G Q E h=>?_) (fun cdv A outer s H XE ds G Q E hr h=>?_)
 ·obtain⟨d,rfl,_⟩:=h;rfl
 ·obtain⟨d,rfl,kn,hz,k⟩:=h
  refine⟨_,(@qss_cons _ _ _ _ _ (@qs_if _ _ _ _ _ _ _ _ (@qt_of _ _ _ (@qw_or _ _ _ _ _ _ _ (@qt_not _ _ _ _ (@qt_tru _ _ _ (@q_callB _ _ _ _ _ _ _ _ _ (@c_isinst _) (T.blt (by decide)) (by decide +kernel) (@qa_consP _ _ _ _ _ (@q_v1 _ _ 0 _ (by exact⟨rfl,rfl,rfl,rfl⟩)) (@qa_consP _ _ _ _ _ (@q_globty _ _ _ "tuple" (T.blt (by decide)) (by decide +kernel) (by rfl) (by decide) (by decide)) (@qa_nil _) (by rfl)) (by rfl)) (by rfl) (by decide) (by decide) (by rfl) (by rfl)) (by intro _ ;rfl))) (@qw_or1 _ _ _ _ (@qt_not _ _ _ _ (@qt_chain _ _ _ _ _ _ _ _ _ _ _ _ (@o_le _) (@o_le _) (@q_globx _ _ _ _ T.LEAST_COLUMNS (by rfl) (by decide)) (@q_callB _ _ _ _ _ _ _ _ _ (@c_len _) (T.blt (by decide)) (by decide +kernel) (@qa_consP _ _ _ _ _ (@q_v1 _ _ 0 _ (by exact⟨rfl,rfl,rfl,rfl⟩)) (@qa_nil _) (by rfl)) (by rfl) (by decide) (by decide) (by rfl) (by rfl)) (@q_globx _ _ _ _ T.MOST_COLUMNS (by rfl) (by decide)) (by with_unfolding_all rfl)))))) (@qss_one _ _ _ (@qs_ret _ _ _ _ (@q_bl _ _ _ _))) (@qss_nil _)) (@qss_one _ _ _ (@qs_ret _ _ _ _ (@q_callB _ _ _ _ _ _ _ _ _ (@c_all _ rfl) (T.blt (by decide)) (by decide +kernel) (@qa_consP _ _ _ _ _ (@q_compz _ _ _ _ _ _ _ _ _ _ _ ["rows"] ["thing"] rfl (@compOz _ _ _ _ (by rfl) (by rfl) (by rfl) (by rfl) (by rfl)) (@q_v1 _ _ 0 _ (by exact⟨rfl,rfl,rfl,rfl⟩)) (fun _ _ _=>(@qg_name _ _ 0 _ Hj (by rfl) (by exact .inl rfl) (by exact .inr rfl))) (fun _ _ _=>(@qf_nil _)) (fun _ _ _=>(@q_call _ _ _ _ _ _ _ _ noX _ _ _ Agp (hr.mono (by decide)) (@passN _ _) (@qa_consP _ _ _ _ _ (@q_v1 _ _ 0 _ (by exact⟨rfl,rfl,rfl,rfl⟩)) (@qa_nil _) (by rfl)) (by rfl) (by decide) (by rfl) (by rfl))) (by intro _ ;rfl)) (@qa_nil _) (by rfl)) (by rfl) (by decide) (by decide) (by rfl) (by rfl))))),?_⟩
  obtain⟨t,ht⟩:=kn.kn
  simp only[Bk,C1,nOr,Ex,D4,nCB,Ag,Ai,An,List.map_cons,List.map_nil,List.length_cons,List.length_nil,Nat.zero_add,Nat.reduceSub,List.replicate,List.cons_append,List.nil_append,List.getElem?_cons_zero,Option.some.injEq,nC,As,List.cons.injEq,D.ty.injEq,and_true,Bc,Bm,Ci,exists_eq_left',if_true,Bl,E7,dI0,D.int.injEq,D.bl.injEq,Bool.not_false,decide_eq_true_eq,and_assoc,exists_and_left,F4,true_and,ht]
  refine⟨pyIs t "tuple",rfl,?_⟩
  by_cases htt:t = "tuple"
  ·subst htt
   obtain⟨xs,rfl⟩:=Pz ht
   rw[if_neg (by decide)]
   refine⟨xs.length,rfl,?_⟩
   have k2:Q (.bl (decide (2≤xs.length)&&decide (xs.length≤16)&&xs.all Cy)) G:=k
   obtain⟨hz1,hz2⟩:=hz xs rfl
   by_cases h1:2≤xs.length
   ·rw[if_pos (by omega)]
    by_cases h9:xs.length≤16
    ·rw[if_neg (by simp;omega)]
     rw[decide_eq_true h1,decide_eq_true h9] at k2
     refine⟨xs,rfl,fun p hp=>?_⟩
     refine B2 (fun x=>.bl (Cy x)) (fun _=>true) hz1 (fun _=>rfl) (by decide) (fun x ys hx hl R1 R2 g1 _=>?_) ?_
     ·have kx:KnT (Ac G p (.lst ys)) 1 x:=KnT.new hp (kn.2 xs rfl x hx)
      have zx:=hz2 x hx
      simp only[C3,A0,Ag,Ai,List.replicate,List.cons_append,List.nil_append,List.set_cons_zero,List.getElem?_cons_zero,Option.some.injEq,As,Gg,List.cons.injEq,and_true,Aa,hl,Av,true_and,exists_eq_left',kx,if_true]
      exact⟨zx,Fg.of (g1 rfl)⟩
     ·refine⟨p,rfl,xs.map Cy,by rw[Aa,Bt,List.map_map];rfl,?_⟩
      refine⟨G,Sub.new hp,?_⟩
      simpa[List.all_map] using k2
    ·rw[if_pos (by simp;omega)]
     refine Fq.of ?_
     simpa[h9] using k2
   ·rw[if_neg (by omega)]
    refine Fq.of ?_
    simpa[h1] using k2
  ·obtain⟨e,nt⟩:=Mn ht htt
   rw[e,if_pos (by decide)]
   refine Fq.of ?_
   cases d with
   |tup xs=>exact absurd rfl (nt xs)
   |_=>exact k
abbrev s_check_channel:Stmt:=top 14
abbrev Ho:List Str:=["thing"]
abbrev p_check_channel:List Str:=["thing"]
theorem Gv:FnScope Ho p_check_channel (Ad s_check_channel):=⟨rfl,rfl,rfl,by decide +kernel,rfl,by decide +kernel,by decide +kernel⟩
def spCheckC:DSp:=fun ds G Q _=>∃d,ds=[d]∧KnT G 2 d∧SzT d∧Ic d=true∧Q .non G
theorem Th{f:Addr}{fd:FuncData}(F:Fun K "check_channel" "check_channel" s_check_channel f fd)(T:Nums mg)(Ag4:Def P w K mg base CX0 4 "is_channel" B3 L8):FnOk P w K mg base CX0 5 f fd p_check_channel (Al K spCheckC):=by
 refine okD F Gv (fun ds G Q E h=>?_) (fun cdv A outer s H XE ds G Q E hr h=>?_)
 ·obtain⟨d,rfl,_⟩:=h;rfl
 ·obtain⟨d,rfl,kn,hz,hc,k⟩:=h
  refine⟨_,(@qss_one _ _ _ (@qs_if _ _ _ _ _ _ _ _ (@qt_not _ _ _ _ (@qt_tru _ _ _ (@q_call _ _ _ _ _ _ _ _ noX _ _ _ Ag4 (hr.mono (by decide)) (@passN _ _) (@qa_consP _ _ _ _ _ (@q_v1 _ _ 0 _ (by exact⟨rfl,rfl,rfl,rfl⟩)) (@qa_nil _) (by rfl)) (by rfl) (by decide) (by rfl) (by rfl)) (by intro _ ;rfl))) (@qss_one _ _ _ (@Oe _ _)) (@qss_nil _))),?_⟩
  simp only[C1,Ex,D4,A0,Ag,Ai,An,List.map_cons,List.map_nil,List.length_cons,List.length_nil,Nat.zero_add,Nat.reduceSub,List.replicate,List.cons_append,List.nil_append,List.getElem?_cons_zero,Option.some.injEq,As,L8,List.cons.injEq,and_true,Bm,exists_eq_left',kn,true_and]
  refine⟨hz,_,rfl,?_⟩
  rw[hc,if_neg (by decide)]
  exact Fq.of k
def Az(r i:Int):Bool:=decide ((if i-r<0 then -(i-r) else i-r)≤1)
theorem Qp{G:Gp}{d:D}{ds:List D}{p:Addr}{o:GO}(h:Aq G d=some ds)(hp:G p=none):Aq (Ac G p o) d=some ds:=by
 cases d<;>first|exact h|skip
 rename_i a
 simp only[Aq] at h ⊢
 split at h
 ·rename_i xs e
  rw[Bj e hp];exact h
 ·cases h
abbrev s_rows_near:Stmt:=top 15
abbrev Pl:List Str:=["rows", "row"]
abbrev p_rows_near:List Str:=["rows", "row"]
theorem M2:FnScope Pl p_rows_near (Ad s_rows_near):=⟨rfl,rfl,rfl,by decide +kernel,rfl,by decide +kernel,by decide +kernel⟩
theorem J5:((["other"]:List Str)++(["rows", "row"]:List Str)).Nodup:=by decide +kernel
def spNear:DSp:=fun ds G Q _=>∃(d:D) (ns:List Int) (r:Int),ds=[d,.int r]∧Aq G d=some (ns.map D.int)∧ns.length<sizeLine∧∀p,G p=none→Q (.ref p) (Ac G p (.lst ((ns.filter (Az r)).map D.int)))
theorem Aaa{f:Addr}{fd:FuncData}(F:Fun K "rows_near" "rows_near" s_rows_near f fd)(T:Nums mg):FnOk P w K mg base CX0 1 f fd p_rows_near (Al K spNear):=by
 refine okD F M2 (fun ds G Q E h=>?_) (fun cdv A outer s H XE ds G Q E hr h=>?_)
 ·obtain⟨d,ns,r,rfl,_⟩:=h;rfl
 ·obtain⟨d,ns,r,rfl,hi,hz,k⟩:=h
  refine⟨_,(@qss_one _ _ _ (@qs_ret _ _ _ _ (@q_compz _ _ _ _ _ _ _ _ _ _ _ ["other"] ["rows", "row"] rfl (@compOz _ _ _ _ (by rfl) (by rfl) (by rfl) (by rfl) (by rfl)) (@q_v1 _ _ 0 _ (by exact⟨rfl,rfl,rfl,rfl⟩)) (fun _ _ _=>(@qg_name _ _ 0 _ J5 (by rfl) (by exact .inl rfl) (by exact .inr rfl))) (fun _ _ _=>(@E6 _ _ _ (@qt_cmp _ _ _ _ _ _ _ _ (@o_le _) (@q_callB _ _ _ _ _ _ _ _ _ (@U7 _) (T.blt (by decide)) (by decide +kernel) (@qa_consP _ _ _ _ _ (@A9 _ _ _ _ _ _ _ _ (@Hz _) (@q_v1 _ _ 0 _ (by exact⟨rfl,rfl,rfl,rfl⟩)) (@q_v2 _ _ 2 _ (by exact⟨rfl,rfl,rfl,rfl⟩))) (@qa_nil _) (by rfl)) (by rfl) (by decide) (by decide) (by rfl) (by rfl)) (@q_int _ _ _ _) (nomark _)))) (fun _ _ _=>(@q_v1 _ _ 0 _ (by exact⟨rfl,rfl,rfl,rfl⟩))) (by intro _ ;rfl)))),?_⟩
  simp only[Bc,Ci,Ai,An,List.map_cons,List.map_nil,List.length_cons,List.length_nil,Nat.zero_add,Nat.reduceAdd,Nat.reduceSub,List.replicate,List.cons_append,List.nil_append,List.getElem?_cons_zero,Option.some.injEq,exists_eq_left',hi]
  intro p hp
  refine B2 (fun x=>x) (fun x=>Az r (Bb x)) (by simpa using hz) (fun ys=>Qp hi hp) (by decide) (fun x ys hx hl R1 R2 g1 g2=>?_) ?_
  ·obtain⟨i,_,rfl⟩:=List.mem_map.mp hx
   simp only[Bl,nOp,nCB,Ag,Ai,List.replicate,List.cons_append,List.nil_append,List.set_cons_zero,List.getElem?_cons_zero,Option.some.injEq,List.getElem?_cons_succ,dI0,As,List.cons.injEq,D.int.injEq,and_true,nC,D.bl.injEq,Aa,hl,Av,true_and,exists_eq_left',decide_eq_true_eq]
   by_cases h:(if i-r<0 then -(i-r) else i-r)≤1
   ·rw[if_pos h];exact Fg.of (g1 (decide_eq_true h))
   ·rw[if_neg h];exact Fg.of (g2 (decide_eq_false h))
  ·refine Fq.of ?_
   have e:List.map (fun x=>x) (List.filter (fun x=>Az r (Bb x)) (List.map D.int ns))=(ns.filter (Az r)).map D.int:=by
    rw[List.map_id',List.filter_map];rfl
   rw[e];exact k p hp
def Ax(ns ms:List Int):List Int:=ns.filter fun r=>!(ms.filter (Az r)).isEmpty
theorem Rb{G:Gp}{a:Addr}{ds:List D}(h:G a=some (.lst ds)):Kg G (.ref a)=some (!ds.isEmpty):=by simp only[Kg,h]
abbrev s_rows_beyond:Stmt:=top 16
abbrev Kw:List Str:=["rows", "ahead"]
abbrev Bi:List Str:=["rows", "ahead"]
theorem J4:FnScope Kw Bi (Ad s_rows_beyond):=⟨rfl,rfl,rfl,by decide +kernel,rfl,by decide +kernel,by decide +kernel⟩
theorem Gx:((["row"]:List Str)++(["rows", "ahead"]:List Str)).Nodup:=by decide +kernel
def Fz:DSp:=fun ds G Q _=>∃(ns ms:List Int),ds=[.tup (ns.map D.int),.tup (ms.map D.int)]∧ns.length<sizeLine∧ms.length<sizeLine∧Q (.tup ((Ax ns ms).map D.int)) G
theorem Ti{f:Addr}{fd:FuncData}(F:Fun K "rows_beyond" "rows_beyond" s_rows_beyond f fd)(T:Nums mg)(Agk:Def P w K mg base CX0 1 "rows_near" p_rows_near spNear):FnOk P w K mg base CX0 2 f fd Bi (Al K Fz):=by
 refine okD F J4 (fun ds G Q E h=>?_) (fun cdv A outer s H XE ds G Q E hr h=>?_)
 ·obtain⟨d,r,rfl,_⟩:=h;rfl
 ·obtain⟨ns,ms,rfl,hz,hz2,k⟩:=h
  refine⟨_,(@qss_one _ _ _ (@qs_ret _ _ _ _ (@q_callTy _ _ _ _ _ _ _ _ _ (@c_tuple _) (T.blt (by decide)) (by decide +kernel) (@qa_consP _ _ _ _ _ (@q_compz _ _ _ _ _ _ _ _ _ _ _ ["row"] ["rows", "ahead"] rfl (@compOz _ _ _ _ (by rfl) (by rfl) (by rfl) (by rfl) (by rfl)) (@q_v1 _ _ 0 _ (by exact⟨rfl,rfl,rfl,rfl⟩)) (fun _ _ _=>(@qg_name _ _ 0 _ Gx (by rfl) (by exact .inl rfl) (by exact .inr rfl))) (fun _ _ _=>(@E6 _ _ _ (@qt_tru _ _ _ (@q_call _ _ _ _ _ _ _ _ noX _ _ _ Agk (hr.mono (by decide)) (@passN _ _) (@qa_consP _ _ _ _ _ (@q_v2 _ _ 2 _ (by exact⟨rfl,rfl,rfl,rfl⟩)) (@qa_consP _ _ _ _ _ (@q_v1 _ _ 0 _ (by exact⟨rfl,rfl,rfl,rfl⟩)) (@qa_nil _) (by rfl)) (by rfl)) (by rfl) (by decide) (by rfl) (by rfl)) (by intro _ ;rfl)))) (fun _ _ _=>(@q_v1 _ _ 0 _ (by exact⟨rfl,rfl,rfl,rfl⟩))) (by intro _ ;rfl)) (@qa_nil _) (by rfl)) (by rfl) (by decide) (by decide) (by rfl) (by rfl)))),?_⟩
  simp only[Bc,nCB,Ag,Ci,Ai,An,List.map_cons,List.map_nil,List.length_cons,List.length_nil,Nat.zero_add,Nat.reduceAdd,Nat.reduceSub,List.replicate,List.cons_append,List.nil_append,List.getElem?_cons_zero,Option.some.injEq,As,List.cons.injEq,and_true,exists_eq_left',F0]
  intro p hp
  refine B2 (fun x=>x) (fun x=>!(ms.filter (Az (Bb x))).isEmpty) (by simpa using hz) (fun _=>trivial) (by decide) (fun x ys hx hl R1 R2 g1 g2=>?_) ?_
  ·obtain⟨i,_,rfl⟩:=List.mem_map.mp hx
   simp only[D4,A0,Ag,Ai,List.replicate,List.cons_append,List.nil_append,List.set_cons_zero,List.getElem?_cons_succ,List.getElem?_cons_zero,Option.some.injEq,As,hl,true_and,exists_eq_left']
   refine⟨_,ms,i,rfl,rfl,hz2,fun q hq=>?_⟩
   obtain⟨npq,hq⟩:=Aah hq
   have hqG:Ac G p (.lst ys) q=none:=by rw[Af npq.symm];exact hq
   refine⟨_,Rb Aa,?_⟩
   have ee:(List.map D.int (List.filter (Az i) ms)).isEmpty=(ms.filter (Az i)).isEmpty:=by cases ms.filter (Az i)<;>rfl
   rw[ee]
   cases hc:(ms.filter (Az i)).isEmpty with
   |true=>
    rw[if_neg (by decide)]
    exact⟨_,Sub.new hqG,g2 (by simp only[Bb,hc];rfl)⟩
   |false=>
    rw[if_pos (by decide)]
    simp only[Af npq,Aa,Yz npq,Av,true_and]
    refine⟨_,?_,g1 (by simp only[Bb,hc];rfl)⟩
    exact(Sub.refl _).skip (by rw[Af npq.symm];exact hq)
  ·have e:List.map (fun x=>x) (List.filter (fun x=>!(ms.filter (Az (Bb x))).isEmpty) (List.map D.int ns))=(Ax ns ms).map D.int:=by
    rw[List.map_id',List.filter_map];rfl
   rw[e]
   simp only[Ah Aa,Option.some.injEq,exists_eq_left']
   exact⟨G,Sub.new hp,k⟩
def Ae(c:List Int):D:=.tup (c.map D.int)
def chD(cs:List (List Int)):D:=.tup (cs.map Ae)
def Cd(acc:List (List Int))(r:List Int):List (List Int):=if (acc.getLastD []).isEmpty=true then acc else acc++[Ax r (acc.getLastD [])]
def Aw(cs:List (List Int)):List (List Int):=(cs.drop 1).foldl Cd [cs.headD []]
theorem Ss{acc:List (List Int)}{r:List Int}:acc.length≤(Cd acc r).length∧(Cd acc r).length≤acc.length+1:=by
 unfold Cd;split<;>simp
theorem Jd:∀(rs:List (List Int)) (acc:List (List Int)),acc.length≤(rs.foldl Cd acc).length∧(rs.foldl Cd acc).length≤acc.length+rs.length
 |[],acc=>⟨Nat.le_refl _,Nat.le_refl _⟩
 |r::rs,acc=>by
  have h:=Jd rs (Cd acc r)
  have h2:=Ss (acc:=acc) (r:=r)
  simp only[List.foldl_cons,List.length_cons]
  omega
theorem Jy{n:Nat}:∀(rs:List (List Int)) (acc:List (List Int)),(∀c∈rs,c.length≤n)→(∀c∈acc,c.length≤n)→∀c∈rs.foldl Cd acc,c.length≤n
 |[],acc,_,h=>h
 |r::rs,acc,hr,h=>by
  refine Jy rs (Cd acc r) (fun c hc=>hr c (by simp[hc])) fun c hc=>?_
  unfold Cd at hc
  split at hc
  ·exact h c hc
  ·rcases List.mem_append.mp hc with z|z
   ·exact h c z
   ·rw[List.mem_singleton.mp z]
    exact Nat.le_trans (List.length_filter_le _ _) (hr r (by simp))
theorem Bw{α:Type}:∀{xs:List α},xs≠[]→∃i l,xs=i++[l]
 |[],h=>absurd rfl h
 |[x],_=>⟨[],x,rfl⟩
 |x::y::r,_=>by
  obtain⟨i,l,e⟩:=Bw (xs:=y::r) (by simp)
  exact⟨x::i,l,by rw[e];rfl⟩
theorem Hw{acc:List (List Int)}(h:acc≠[]):atI (acc.map Ae) (-1)=some (Ae (acc.getLastD [])):=by
 obtain⟨init,l,rfl⟩:=Bw h
 rw[List.map_append,List.map_cons,List.map_nil,Cl]
 simp
abbrev s_rows_reached:Stmt:=top 17
abbrev Kd:List Str:=["channel", "reached", "rows"]
abbrev p_rows_reached:List Str:=["channel"]
theorem sc_rows_reached:FnScope Kd p_rows_reached (Ad s_rows_reached):=⟨rfl,rfl,rfl,by decide +kernel,rfl,by decide +kernel,by decide +kernel⟩
def spReached:DSp:=fun ds G Q _=>∃cs,ds=[chD cs]∧cs≠[]∧cs.length≤100∧(∀c∈cs,c.length≤100)∧∀p,G p=none→Q (.ref p) (Ac G p (.lst ((Aw cs).map Ae)))
theorem Qj{f:Addr}{fd:FuncData}(F:Fun K "rows_reached" "rows_reached" s_rows_reached f fd)(T:Nums mg)(Agq:Def P w K mg base CX0 2 "rows_beyond" Bi Fz):FnOk P w K mg base CX0 3 f fd p_rows_reached (Al K spReached):=by
 refine okD F sc_rows_reached (fun ds G Q E h=>?_) (fun cdv A outer s H XE ds G Q E hr h=>?_)
 ·obtain⟨d,rfl,_⟩:=h;rfl
 ·obtain⟨cs,rfl,hne,hl,hsm,k⟩:=h
  refine⟨_,(@qss_cons _ _ _ _ _ (@qs_set _ _ _ _ 1 _ _ sc_rows_reached.nd (@Dh _ _ _ _ (@qa_consP _ _ _ _ _ (@q_ix _ _ _ _ _ _ (@q_v1 _ _ 0 _ (by exact⟨rfl,rfl,rfl,rfl⟩)) (@q_int _ _ _ _) (by intro _ _ ;rfl)) (@qa_nil _) (by rfl))) (by rfl) (by exact .inl rfl) (by rfl) (by exact .inl rfl)) (@qss_cons _ _ _ _ _ (@Gh _ _ _ _ _ _ _ _ PassesOwn.never rfl (@q_slice _ _ _ _ _ _ _ _ _ (@q_v1 _ _ 0 _ (by exact⟨rfl,rfl,rfl,rfl⟩)) (@qo_some _ _ _ (@q_int _ _ _ _)) (@qo_none _)) (@qg_name _ _ 2 _ sc_rows_reached.nd (by rfl) (by exact .inl rfl) (by exact .inl rfl)) (@qss_one _ _ _ (@qs_if _ _ _ _ _ _ _ _ (@qt_tru _ _ _ (@q_ix _ _ _ _ _ _ (@q_v1 _ _ 1 _ (by exact⟨rfl,rfl,rfl,rfl⟩)) (@q_neg _ _ _ _ (@q_int _ _ _ _)) (by intro _ _ ;rfl)) (by intro _ ;rfl)) (@qss_one _ _ _ (@qs_expr _ _ _ _ (@q_app _ _ _ _ _ _ _ (@q_v1 _ _ 1 _ (by exact⟨rfl,rfl,rfl,rfl⟩)) (@q_call _ _ _ _ _ _ _ _ noX _ _ _ Agq (hr.mono (by decide)) (@passN _ _) (@qa_consP _ _ _ _ _ (@q_v1 _ _ 2 _ (by exact⟨rfl,rfl,rfl,rfl⟩)) (@qa_consP _ _ _ _ _ (@q_ix _ _ _ _ _ _ (@q_v1 _ _ 1 _ (by exact⟨rfl,rfl,rfl,rfl⟩)) (@q_neg _ _ _ _ (@q_int _ _ _ _)) (by intro _ _ ;rfl)) (@qa_nil _) (by rfl)) (by rfl)) (by rfl) (by decide) (by rfl) (by rfl)) (by rfl) (by rfl) (by rfl) (by rfl) (by rfl)) (by rfl))) (@qss_nil _))) (by intro _ ;rfl)) (@qss_one _ _ _ (@qs_ret _ _ _ _ (@q_v1 _ _ 1 _ (by exact⟨rfl,rfl,rfl,rfl⟩)))))),?_⟩
  obtain⟨c0,rest,rfl⟩:∃c r,cs=c::r:=by
   cases cs with
   |nil=>exact absurd rfl hne
   |cons c r=>exact⟨c,r,rfl⟩
  have sz1:1≤sizeLine:=szl (by decide)
  simp only[Bk,Cg,Ez,Ag,nOp,Ai,An,chD,List.map_cons,List.map_nil,List.length_cons,List.length_nil,Nat.zero_add,Nat.reduceAdd,Nat.reduceSub,List.replicate,List.cons_append,List.nil_append,List.getElem?_cons_zero,Option.some.injEq,nC,dIx,D.int.injEq,As,sz1,Ao,Pt,nSl,List.set_cons_succ,List.set_cons_zero,D8,B7,exists_eq_left',Cj,Gj,List.drop_succ_cons,List.drop_zero,F0,true_and,Ja,Sk]
  intro p hp
  refine Bh (fun i σ G'=>∃v,σ=[some (.tup (Ae c0::rest.map Ae)),some (.ref p),v]∧Ac G p (.lst (((rest.take i).foldl Cd [c0]).map Ae))=G') ⟨none,rfl,rfl⟩ (fun i σ G' _ ⟨v,_,e⟩=>?_) ?_ ?_
  ·first|rfl|trivial
  ·rintro i x σ _ hx ⟨v,rfl,rfl⟩
   rw[List.getElem?_map] at hx
   cases hri:rest[i]? with
   |none=>rw[hri] at hx;cases hx
   |some r=>
    rw[hri] at hx
    cases hx
    have hmem:r∈rest:=List.mem_of_getElem? hri
    have hfl:=Jd (rest.take i) [c0]
    have hfs:=Jy (n:=100) (rest.take i) [c0] (fun c hc=>hsm c (by simp[List.mem_of_mem_take hc])) (fun c hc=>by rw[List.mem_singleton.mp hc];exact hsm c0 (by simp))
    have tk:rest.take (i+1)=rest.take i++[r]:=by rw[List.take_add_one,hri];rfl
    have hll:(rest.take i).length≤100:=by rw[List.length_take];simp at hl;omega
    have fe:(rest.take (i+1)).foldl Cd [c0]=Cd ((rest.take i).foldl Cd [c0]) r:=by rw[tk,List.foldl_append];rfl
    generalize hacc:(rest.take i).foldl Cd [c0]=acc at *
    have hane:acc≠[]:=fun z=>by rw[z] at hfl;simp at hfl
    simp only[Ao,C1,D4,nOp,Ai,List.set_cons_succ,List.set_cons_zero,List.getElem?_cons_succ,List.getElem?_cons_zero,Option.some.injEq,Ey,nC,D.int.injEq,dIx,C4,Nk,A0,Ag,As,exists_eq_left',Int.reduceNeg,Be Aa,Hw hane,D.ref.injEq,Aa,GO.lst.injEq,Bm]
    generalize hla:acc.getLastD []=la at *
    have hlm:la.length≤100:=by
     rw[←hla]
     obtain⟨init,l,e⟩:=Bw hane
     rw[e]
     simpa using hfs l (by rw[e];simp)
    have ie:(la.map D.int).isEmpty=la.isEmpty:=by cases la<;>rfl
    refine⟨!la.isEmpty,by rw[←ie];rfl,?_⟩
    cases hem:la.isEmpty with
    |true=>
     rw[if_neg (by decide)]
     refine Fs.of ⟨_,rfl,?_⟩
     rw[fe];unfold Cd;rw[hla,if_pos hem]
    |false=>
     rw[if_pos (by decide)]
     refine⟨⟨_,rfl⟩,r,la,rfl,Nat.lt_of_le_of_lt (hsm r (by simp[hmem])) (Bv (by decide)),Nat.lt_of_le_of_lt hlm (Bv (by decide)),_,Aa,?_,?_⟩
     ·rw[List.length_map];exact Nat.lt_of_le_of_lt (show acc.length≤200 by have:=hfl.2;simp only[List.length_cons,List.length_nil] at this;omega) (Bv (by decide))
     ·refine Fs.of ⟨_,rfl,?_⟩
      rw[fe,Av];unfold Cd;rw[hla,if_neg (by rw[hem];decide),List.map_append];rfl
  ·rintro σ _ ⟨v,rfl,rfl⟩
   simp only[Bc,Ai,List.getElem?_cons_succ,List.getElem?_cons_zero,Option.some.injEq,exists_eq_left']
   rw[List.length_map,List.take_length]
   exact Fq.of (k p hp)
theorem Fm{G:Gp}{cs:List (List Int)}:KnT G 2 (chD cs):=⟨⟨_,rfl⟩,fun ds e x hx=>by
 cases e
 obtain⟨c,_,rfl⟩:=List.mem_map.mp hx
 refine⟨⟨_,rfl⟩,fun ds e y hy=>?_⟩
 cases e
 obtain⟨i,_,rfl⟩:=List.mem_map.mp hy
 exact⟨_,rfl⟩⟩
theorem Kx{cs:List (List Int)}(h:cs.length≤100)(hs:∀c∈cs,c.length≤100):SzT (chD cs):=fun xs e=>by
 cases e
 refine⟨by rw[List.length_map];exact Nat.lt_of_le_of_lt h (Bv (by decide)),fun y hy ys e=>?_⟩
 obtain⟨c,hc,rfl⟩:=List.mem_map.mp hy
 cases e
 rw[List.length_map];exact Nat.lt_of_le_of_lt (hs c hc) (Bv (by decide))
theorem Oc(cs:List (List Int)):Aw cs≠[]:=fun z=>by
 have:=(Jd (cs.drop 1) [cs.headD []]).1
 unfold Aw at z
 rw[z] at this
 simp at this
abbrev s_bar_of:Stmt:=top 31
abbrev Yh:List Str:=["channel", "reached"]
abbrev p_bar_of:List Str:=["channel"]
theorem sc_bar_of:FnScope Yh p_bar_of (Ad s_bar_of):=⟨rfl,rfl,rfl,by decide +kernel,rfl,by decide +kernel,by decide +kernel⟩
def Mb(cs:List (List Int)):D:=if ((Aw cs).getLastD []).isEmpty=true then chD (Aw cs) else .non
def spBarOf:DSp:=fun ds G Q _=>∃cs,ds=[chD cs]∧Ic (chD cs)=true∧cs≠[]∧cs.length≤100∧(∀c∈cs,c.length≤100)∧Q (Mb cs) G
theorem Xi{f:Addr}{fd:FuncData}(F:Fun K "bar_of" "bar_of" s_bar_of f fd)(T:Nums mg)(Agi:Def P w K mg base CX0 5 "check_channel" p_check_channel spCheckC)(Agr:Def P w K mg base CX0 3 "rows_reached" p_rows_reached spReached):FnOk P w K mg base CX0 6 f fd p_bar_of (Al K spBarOf):=by
 refine okD F sc_bar_of (fun ds G Q E h=>?_) (fun cdv A outer s H XE ds G Q E hr h=>?_)
 ·obtain⟨d,rfl,_⟩:=h;rfl
 ·obtain⟨cs,rfl,hch,hne,hl,hsm,k⟩:=h
  refine⟨_,(@qss_cons _ _ _ _ _ (@qs_expr _ _ _ _ (@q_call _ _ _ _ _ _ _ _ noX _ _ _ Agi (hr.mono (by decide)) (@passN _ _) (@qa_consP _ _ _ _ _ (@q_v1 _ _ 0 _ (by exact⟨rfl,rfl,rfl,rfl⟩)) (@qa_nil _) (by rfl)) (by rfl) (by decide) (by rfl) (by rfl)) (by rfl)) (@qss_cons _ _ _ _ _ (@qs_set _ _ _ _ 1 _ _ sc_bar_of.nd (@q_call _ _ _ _ _ _ _ _ noX _ _ _ Agr (hr.mono (by decide)) (@passN _ _) (@qa_consP _ _ _ _ _ (@q_v1 _ _ 0 _ (by exact⟨rfl,rfl,rfl,rfl⟩)) (@qa_nil _) (by rfl)) (by rfl) (by decide) (by rfl) (by rfl)) (by rfl) (by exact .inl rfl) (by rfl) (by exact .inl rfl)) (@qss_cons _ _ _ _ _ (@qs_if _ _ _ _ _ _ _ _ (@qt_tru _ _ _ (@q_ix _ _ _ _ _ _ (@q_v1 _ _ 1 _ (by exact⟨rfl,rfl,rfl,rfl⟩)) (@q_neg _ _ _ _ (@q_int _ _ _ _)) (by intro _ _ ;rfl)) (by intro _ ;rfl)) (@qss_one _ _ _ (@qs_ret _ _ _ _ (@q_non _ _ _))) (@qss_nil _)) (@qss_one _ _ _ (@qs_ret _ _ _ _ (@q_callTy _ _ _ _ _ _ _ _ _ (@c_tuple _) (T.blt (by decide)) (by decide +kernel) (@qa_consP _ _ _ _ _ (@q_v1 _ _ 1 _ (by exact⟨rfl,rfl,rfl,rfl⟩)) (@qa_nil _) (by rfl)) (by rfl) (by decide) (by decide) (by rfl) (by rfl))))))),?_⟩
  simp only[Bk,C4,A0,Ag,Ai,An,List.map_cons,List.map_nil,List.length_cons,List.length_nil,Nat.zero_add,Nat.reduceAdd,Nat.reduceSub,List.replicate,List.cons_append,List.nil_append,List.getElem?_cons_zero,Option.some.injEq,As,Cg,Ao,C1,D4,nOp,List.set_cons_succ,List.set_cons_zero,List.getElem?_cons_succ,Ey,nC,D.int.injEq,dIx,Bc,Bm,nCB,List.cons.injEq,and_true,exists_eq_left',Int.reduceNeg]
  refine⟨_,rfl,Fm,Kx hl hsm,hch,cs,rfl,hne,hl,hsm,fun p hp=>?_⟩
  have la:=Hw (Oc cs)
  simp only[Int.reduceNeg,Be Aa,la,Option.some.injEq,Ah Aa,exists_eq_left']
  unfold Mb at k
  have ie:((((Aw cs).getLastD []).map D.int).isEmpty)=((Aw cs).getLastD []).isEmpty:=by cases(Aw cs).getLastD []<;>rfl
  refine⟨!((Aw cs).getLastD []).isEmpty,by rw[←ie];rfl,?_⟩
  cases hem:((Aw cs).getLastD []).isEmpty with
  |true=>rw[if_neg (by decide)];rw[hem,if_pos rfl] at k;exact⟨G,Sub.new hp,k⟩
  |false=>rw[if_pos (by decide)];rw[hem,if_neg (by decide)] at k;exact⟨G,Sub.new hp,k⟩
end
end K2
namespace K2
open PySem L2 D3
section
variable{P:Program}{w:World}{K:W.Frag}{mg:Str→Option Value}{base:Heap}
theorem Iu{G:Gp}:∀{ns:List Int},RepDs G (ns.map D.int) (ns.map PyData.int)
 |[]=>.nil
 |n::r=>.cons (.int n) Iu
theorem Iz:∀ns:List Int,PyData.canLayAll0 (ns.map PyData.int)=true
 |[]=>rfl
 |n::r=>by rw[List.map_cons,PyData.canLayAll0,Iz r];rfl
theorem Jg:∀ns:List Int,PyData.depthAll (ns.map PyData.int)=0
 |[]=>rfl
 |n::r=>by rw[List.map_cons,PyData.depthAll,Jg r];rfl
theorem O8(i:Int):∀ns:List Int,((ns.map PyData.int).any fun y=>PyData.eqv y (.int i))=decide (i∈ns)
 |[]=>by simp
 |n::r=>by
  rw[List.map_cons,List.any_cons,O8 i r]
  show((n == i)||decide (i∈r))=_
  by_cases h:n=i
  ·subst h;simp
  ·have h':¬i=n:=fun e=>h e.symm
   simp[h,h']
theorem V0{G:Gp}{i:Int}{ns:List Int}{neg:Bool}{Q:DK}(h:Q (.bl (if neg then !decide (i∈ns) else decide (i∈ns))) G):dInD neg (.int i) (.tup (ns.map D.int)) G Q:=
 ⟨.int i,ns.map PyData.int,.int i,.inr (.tup Iu),rfl,Iz ns,by rw[Jg];exact Nat.le_trans (show 1+min 0 _≤1 by omega) (by decide),by rw[O8];exact h⟩
def Bo(a b:List Int):Bool:=b.all fun i=>decide (i∈a)
abbrev s_has_all:Stmt:=top 29
abbrev Ul:List Str:=["rows", "needed"]
abbrev p_has_all:List Str:=["rows", "needed"]
theorem Qg:FnScope Ul p_has_all (Ad s_has_all):=⟨rfl,rfl,rfl,by decide +kernel,rfl,by decide +kernel,by decide +kernel⟩
theorem M6:((["row"]:List Str)++(["rows", "needed"]:List Str)).Nodup:=by decide +kernel
def spHasAll:DSp:=fun ds G Q _=>∃(a b:List Int),ds=[.tup (a.map D.int),.tup (b.map D.int)]∧b.length<sizeLine∧Q (.bl (Bo a b)) G
theorem Tg{f:Addr}{fd:FuncData}(F:Fun K "has_all" "has_all" s_has_all f fd)(T:Nums mg):FnOk P w K mg base CX0 1 f fd p_has_all (Al K spHasAll):=by
 refine okD F Qg (fun ds G Q E h=>?_) (fun cdv A outer s H XE ds G Q E hr h=>?_)
 ·obtain⟨a,b,rfl,_⟩:=h;rfl
 ·obtain⟨a,b,rfl,hz,k⟩:=h
  refine⟨_,(@qss_one _ _ _ (@qs_ret _ _ _ _ (@q_callB _ _ _ _ _ _ _ _ _ (@c_all _ rfl) (T.blt (by decide)) (by decide +kernel) (@qa_consP _ _ _ _ _ (@q_compz _ _ _ _ _ _ _ _ _ _ _ ["row"] ["rows", "needed"] rfl (@compOz _ _ _ _ (by rfl) (by rfl) (by rfl) (by rfl) (by rfl)) (@q_v1 _ _ 1 _ (by exact⟨rfl,rfl,rfl,rfl⟩)) (fun _ _ _=>(@qg_name _ _ 0 _ M6 (by rfl) (by exact .inl rfl) (by exact .inr rfl))) (fun _ _ _=>(@qf_nil _)) (fun _ _ _=>(@q_cmp _ _ _ _ _ _ _ _ (@o_inD _ _ hr) (@q_v1 _ _ 0 _ (by exact⟨rfl,rfl,rfl,rfl⟩)) (@q_v2 _ _ 1 _ (by exact⟨rfl,rfl,rfl,rfl⟩)) (by with_unfolding_all rfl))) (by intro _ ;rfl)) (@qa_nil _) (by rfl)) (by rfl) (by decide) (by decide) (by rfl) (by rfl)))),?_⟩
  simp only[Bc,nCB,Ag,Ci,Ai,An,List.map_cons,List.map_nil,List.length_cons,List.length_nil,Nat.zero_add,Nat.reduceAdd,Nat.reduceSub,List.replicate,List.cons_append,List.nil_append,List.getElem?_cons_succ,List.getElem?_cons_zero,Option.some.injEq,As,List.cons.injEq,and_true,exists_eq_left',F0]
  intro p hp
  refine B2 (fun x=>.bl (decide (Bb x∈a))) (fun _=>true) (by simpa using hz) (fun _=>trivial) (by decide) (fun x ys hx hl R1 R2 g1 _=>?_) ?_
  ·obtain⟨i,_,rfl⟩:=List.mem_map.mp hx
   simp only[C3,nOp,Ai,List.replicate,List.cons_append,List.nil_append,List.set_cons_zero,List.getElem?_cons_zero,Option.some.injEq,List.getElem?_cons_succ,hl,true_and,exists_eq_left',if_true]
   exact V0 ⟨Aa,by rw[Av];exact Fg.of (g1 rfl)⟩
  ·refine⟨p,rfl,b.map fun i=>decide (i∈a),by rw[Aa,Bt,List.map_map,List.map_map];rfl,?_⟩
   refine⟨G,Sub.new hp,?_⟩
   rw[List.all_map];exact k
theorem Ab9{lo hi:Int}{ds:List D}(h:ds.all (Bn lo hi)=true):∃ns:List Int,ds=ns.map D.int∧∀i∈ns,lo≤i∧i≤hi:=by
 induction ds with
 |nil=>exact⟨[],rfl,by simp⟩
 |cons d r ih=>
  rw[List.all_cons,Bool.and_eq_true] at h
  obtain⟨ns,e,hn⟩:=ih h.2
  cases d with
  |int i=>
   have h1:=h.1
   simp only[Bn,Bool.and_eq_true,decide_eq_true_eq] at h1
   refine⟨i::ns,by rw[e];rfl,fun j hj=>?_⟩
   rcases List.mem_cons.mp hj with rfl|hj
   ·exact h1
   ·exact hn j hj
  |_=>exact absurd h.1 (by simp[Bn])
theorem Ek:∀ns:List Int,Ck (ns.map D.int)=decide (ns.Pairwise (· < ·))
 |[]=>by simp[Ck]
 |[x]=>by simp[Ck]
 |x::y::r=>by
  have ih:=Ek (y::r)
  simp only[List.map_cons] at ih
  show(decide (x<y)&&Ck (D.int y::r.map D.int))=_
  rw[ih]
  by_cases h:x<y
  ·rw[decide_eq_true h,Bool.true_and]
   congr 1
   rw[List.pairwise_cons (a:=x)]
   refine propext ⟨fun hp=>⟨fun z hz=>?_,hp⟩,fun hp=>hp.2⟩
   rcases List.mem_cons.mp hz with rfl|hz
   ·exact h
   ·exact Int.lt_trans h ((List.pairwise_cons.mp hp).1 z hz)
  ·rw[decide_eq_false h,Bool.false_and]
   symm
   exact decide_eq_false fun hp=>h ((List.pairwise_cons.mp hp).1 y (by simp))
theorem Zd{d:D}(h:Cy d=true):∃c:List Int,d=Ae c∧(∀i∈c,0≤i∧i≤8)∧c.Pairwise (· < ·):=by
 cases d with
 |tup ds=>
  simp only[Cy,Yo,Bool.and_eq_true] at h
  obtain⟨ns,rfl,hn⟩:=Ab9 h.1
  rw[Ek] at h
  exact⟨ns,rfl,hn,of_decide_eq_true h.2⟩
 |_=>exact absurd h (by simp[Cy,Yo])
theorem En:∀{ds:List D},ds.all Cy=true→∃cs:List (List Int),ds=cs.map Ae∧∀c∈cs,(∀i∈c,0≤i∧i≤8)∧c.Pairwise (· < ·)
 |[],_=>⟨[],rfl,by simp⟩
 |d::r,h=>by
  rw[List.all_cons,Bool.and_eq_true] at h
  obtain⟨c,rfl,hc⟩:=Zd h.1
  obtain⟨cs,rfl,hcs⟩:=En h.2
  exact⟨c::cs,rfl,fun x hx=>by
   rcases List.mem_cons.mp hx with rfl|hx
   ·exact hc
   ·exact hcs x hx⟩
theorem Eg:∀{c:List Int} {lo hi:Int},(∀i∈c,lo≤i∧i≤hi)→c.Pairwise (· < ·)→(c.length:Int)≤max 0 (hi-lo+1)
 |[],lo,hi,_,_=>by simp;omega
 |x::r,lo,hi,h,hp=>by
  obtain⟨h1,h2⟩:=List.pairwise_cons.mp hp
  have hx:=h x (by simp)
  have ih:=Eg (c:=r) (lo:=lo+1) (hi:=hi) (fun i hi'=>⟨by have:=h1 i hi';omega,(h i (by simp[hi'])).2⟩) h2
  rw[List.length_cons];push_cast;omega
def neD:D→Bool
 |.tup xs=>!xs.isEmpty
 |_=>false
def K3(n:Nat):D→Bool
 |.tup ds=>decide (1≤ds.length)&&decide (ds.length≤n)&&ds.all Cy&&ds.dropLast.all neD && !neD (ds.getLastD .non)
 |_=>false
theorem F3{xs:List D}:Dq xs none (some (-1))=xs.dropLast:=by
 unfold Dq HT.sIx
 simp only[List.drop_zero,Nat.sub_zero]
 rw[List.dropLast_eq_take]
 congr 1
 simp only[show(-1:Int)<0 by decide,if_true]
 omega
abbrev s_has_form_of_bar:Stmt:=top 28
abbrev Gb:List Str:=["channel", "thing"]
abbrev A8:List Str:=["channel", "thing"]
theorem Ff:FnScope Gb A8 (Ad s_has_form_of_bar):=⟨rfl,rfl,rfl,by decide +kernel,rfl,by decide +kernel,by decide +kernel⟩
theorem Ep:((["rows"]:List Str)++(["channel", "thing"]:List Str)).Nodup:=by decide +kernel
def P4:DSp:=fun ds G Q _=>∃c d n,ds=[c,d]∧Hi G c=some n∧KnT G 2 d∧SzT d∧Q (.bl (K3 n d)) G
theorem Aac{f:Addr}{fd:FuncData}(F:Fun K "has_form_of_bar" "has_form_of_bar" s_has_form_of_bar f fd)(T:Nums mg)(Agp:Def P w K mg base CX0 3 "are_rows" Cb Gg):FnOk P w K mg base CX0 4 f fd A8 (Al K P4):=by
 refine okD F Ff (fun ds G Q E h=>?_) (fun cdv A outer s H XE ds G Q E hr h=>?_)
 ·obtain⟨c,d,n,rfl,_⟩:=h;rfl
 ·obtain⟨c,d,n,rfl,hn,kn,hz,k⟩:=h
  refine⟨_,(@qss_cons _ _ _ _ _ (@qs_if _ _ _ _ _ _ _ _ (@qt_of _ _ _ (@qw_or _ _ _ _ _ _ _ (@qt_not _ _ _ _ (@qt_tru _ _ _ (@q_callB _ _ _ _ _ _ _ _ _ (@c_isinst _) (T.blt (by decide)) (by decide +kernel) (@qa_consP _ _ _ _ _ (@q_v1 _ _ 1 _ (by exact⟨rfl,rfl,rfl,rfl⟩)) (@qa_consP _ _ _ _ _ (@q_globty _ _ _ "tuple" (T.blt (by decide)) (by decide +kernel) (by rfl) (by decide) (by decide)) (@qa_nil _) (by rfl)) (by rfl)) (by rfl) (by decide) (by decide) (by rfl) (by rfl)) (by intro _ ;rfl))) (@qw_or1 _ _ _ _ (@qt_not _ _ _ _ (@qt_chain _ _ _ _ _ _ _ _ _ _ _ _ (@o_le _) (@o_le _) (@q_int _ _ _ _) (@q_callB _ _ _ _ _ _ _ _ _ (@c_len _) (T.blt (by decide)) (by decide +kernel) (@qa_consP _ _ _ _ _ (@q_v1 _ _ 1 _ (by exact⟨rfl,rfl,rfl,rfl⟩)) (@qa_nil _) (by rfl)) (by rfl) (by decide) (by decide) (by rfl) (by rfl)) (@q_callB _ _ _ _ _ _ _ _ _ (@c_len _) (T.blt (by decide)) (by decide +kernel) (@qa_consP _ _ _ _ _ (@q_v1 _ _ 0 _ (by exact⟨rfl,rfl,rfl,rfl⟩)) (@qa_nil _) (by rfl)) (by rfl) (by decide) (by decide) (by rfl) (by rfl)) (by with_unfolding_all rfl)))))) (@qss_one _ _ _ (@qs_ret _ _ _ _ (@q_bl _ _ _ _))) (@qss_nil _)) (@qss_cons _ _ _ _ _ (@qs_if _ _ _ _ _ _ _ _ (@qt_not _ _ _ _ (@qt_tru _ _ _ (@q_callB _ _ _ _ _ _ _ _ _ (@c_all _ rfl) (T.blt (by decide)) (by decide +kernel) (@qa_consP _ _ _ _ _ (@q_compz _ _ _ _ _ _ _ _ _ _ _ ["rows"] ["channel", "thing"] rfl (@compOz _ _ _ _ (by rfl) (by rfl) (by rfl) (by rfl) (by rfl)) (@q_v1 _ _ 1 _ (by exact⟨rfl,rfl,rfl,rfl⟩)) (fun _ _ _=>(@qg_name _ _ 0 _ Ep (by rfl) (by exact .inl rfl) (by exact .inr rfl))) (fun _ _ _=>(@qf_nil _)) (fun _ _ _=>(@q_call _ _ _ _ _ _ _ _ noX _ _ _ Agp (hr.mono (by decide)) (@passN _ _) (@qa_consP _ _ _ _ _ (@q_v1 _ _ 0 _ (by exact⟨rfl,rfl,rfl,rfl⟩)) (@qa_nil _) (by rfl)) (by rfl) (by decide) (by rfl) (by rfl))) (by intro _ ;rfl)) (@qa_nil _) (by rfl)) (by rfl) (by decide) (by decide) (by rfl) (by rfl)) (by intro _ ;rfl))) (@qss_one _ _ _ (@qs_ret _ _ _ _ (@q_bl _ _ _ _))) (@qss_nil _)) (@qss_one _ _ _ (@qs_ret _ _ _ _ (@q_and _ _ _ _ _ _ _ (@q_callB _ _ _ _ _ _ _ _ _ (@Ad2 _ rfl) (T.blt (by decide)) (by decide +kernel) (@qa_consP _ _ _ _ _ (@q_slice _ _ _ _ _ _ _ _ _ (@q_v1 _ _ 1 _ (by exact⟨rfl,rfl,rfl,rfl⟩)) (@qo_none _) (@qo_some _ _ _ (@q_neg _ _ _ _ (@q_int _ _ _ _)))) (@qa_nil _) (by rfl)) (by rfl) (by decide) (by decide) (by rfl) (by rfl)) (@q_one _ _ _ _ _ (@Acc _ _ _ _ (@q_ix _ _ _ _ _ _ (@q_v1 _ _ 1 _ (by exact⟨rfl,rfl,rfl,rfl⟩)) (@q_neg _ _ _ _ (@q_int _ _ _ _)) (by intro _ _ ;rfl))))))))),?_⟩
  obtain⟨t,ht⟩:=kn.kn
  simp only[Bk,C1,nOr,Ex,D4,nCB,Ag,Ai,An,List.map_cons,List.map_nil,List.length_cons,List.length_nil,Nat.zero_add,Nat.reduceAdd,Nat.reduceSub,List.replicate,List.cons_append,List.nil_append,List.getElem?_cons_succ,List.getElem?_cons_zero,Option.some.injEq,nC,As,List.cons.injEq,D.ty.injEq,and_true,Bc,Bm,Ci,Nw,nSl,B7,D8,Ey,D.int.injEq,D.bl.injEq,Abf,nOp,dIx,exists_eq_left',Int.reduceNeg,if_true,Bl,E7,dI0,hn,Bool.not_false,decide_eq_true_eq,and_assoc,exists_and_left,F4,true_and,ht]
  refine⟨pyIs t "tuple",rfl,?_⟩
  by_cases htt:t = "tuple"
  ·subst htt
   obtain⟨xs,rfl⟩:=Pz ht
   rw[if_neg (by decide)]
   refine⟨xs.length,rfl,?_⟩
   have k2:Q (.bl (decide (1≤xs.length)&&decide (xs.length≤n)&&xs.all Cy&&xs.dropLast.all neD && !neD (xs.getLastD .non))) G:=k
   obtain⟨hz1,hz2⟩:=hz xs rfl
   by_cases h1:1≤xs.length
   ·rw[if_pos (by omega)]
    by_cases h9:xs.length≤n
    ·rw[if_neg (by simp;omega)]
     rw[decide_eq_true h1,decide_eq_true h9,Bool.true_and,Bool.true_and] at k2
     refine⟨xs,rfl,fun p hp=>?_⟩
     refine B2 (fun x=>.bl (Cy x)) (fun _=>true) hz1 (fun _=>rfl) (by decide) (fun x ys hx hl R1 R2 g1 _=>?_) ?_
     ·have kx:KnT (Ac G p (.lst ys)) 1 x:=KnT.new hp (kn.2 xs rfl x hx)
      have zx:=hz2 x hx
      simp only[C3,A0,Ag,Ai,List.replicate,List.cons_append,List.nil_append,List.set_cons_zero,List.getElem?_cons_zero,Option.some.injEq,As,Gg,List.cons.injEq,and_true,Aa,hl,Av,true_and,exists_eq_left',kx,if_true]
      exact⟨zx,Fg.of (g1 rfl)⟩
     ·refine⟨p,rfl,xs.map Cy,by rw[Aa,Bt,List.map_map];rfl,?_⟩
      refine⟨_,rfl,?_⟩
      have ea:(xs.map Cy).all id=xs.all Cy:=by simp[List.all_map]
      rw[ea]
      cases hc:xs.all Cy with
      |false=>
       rw[if_pos (by decide)]
       rw[hc,Bool.false_and,Bool.false_and] at k2
       exact⟨G,Sub.new hp,k2⟩
      |true=>
       rw[if_neg (by decide)]
       rw[hc,Bool.true_and] at k2
       obtain⟨cs,rfl,hcs⟩:=En hc
       rw[Cj,F3]
       refine .inr ⟨(cs.dropLast).map fun c=>c.map D.int,by rw[←List.map_dropLast,List.map_map];rfl,?_⟩
       have e1:((cs.dropLast.map fun c=>c.map D.int).all fun c=>!c.isEmpty)=(cs.map Ae).dropLast.all neD:=by
        rw[←List.map_dropLast,List.all_map,List.all_map]
        congr 1
       rw[e1]
       cases hd:(cs.map Ae).dropLast.all neD with
       |false=>
        rw[if_neg (by decide)]
        rw[hd,Bool.false_and] at k2
        exact⟨G,Sub.new hp,k2⟩
       |true=>
        rw[if_pos rfl]
        rw[hd,Bool.true_and] at k2
        have hne:cs≠[]:=fun z=>by rw[z] at h1;simp at h1
        refine⟨_,Hw hne,?_⟩
        refine⟨neD (Ae (cs.getLastD [])),rfl,?_⟩
        have e2:(cs.map Ae).getLastD .non=Ae (cs.getLastD []):=by
         obtain⟨i,l,rfl⟩:=Bw hne
         simp
        rw[e2] at k2
        exact⟨G,Sub.new hp,k2⟩
    ·rw[if_pos (by simp;omega)]
     refine Fq.of ?_
     simpa[h9] using k2
   ·rw[if_neg (by omega)]
    refine Fq.of ?_
    simpa[h1] using k2
  ·obtain⟨e,nt⟩:=Mn ht htt
   rw[e,if_pos (by decide)]
   refine Fq.of ?_
   cases d with
   |tup xs=>exact absurd rfl (nt xs)
   |_=>exact k
def Hx:D→List Int
 |.tup xs=>xs.map Bb
 |_=>[]
theorem Ir(c:List Int):Hx (Ae c)=c:=by
 show(c.map D.int).map Bb=c
 rw[List.map_map];exact List.map_id' c
theorem Gk(cs:List (List Int)):(cs.map Ae).map Hx=cs:=by
 rw[List.map_map,show(Hx ∘ Ae)=id from funext Ir,List.map_id]
def B9:List (List Int)→List (List Int)→Bool
 |a::r::ts,c::cs=>Bo r (Ax c a)&&B9 (r::ts) cs
 |_,_=>true
def L3(cs ts:List (List Int)):Bool:=Bo (ts.headD []) (cs.headD [])&&B9 ts (cs.drop 1)
def Db(cs:List (List Int))(d:D):Bool:=K3 cs.length d&&(match d with|.tup ds=>L3 cs (ds.map Hx)|_=>false)
def Ut(t:List Int×List Int×List Int):D:=.tup [Ae t.1,Ae t.2.1,Ae t.2.2]
def Cc:List (List Int)→List (List Int)→List (List Int×List Int×List Int)
 |a::r::ts,c::cs=>(a,r,c)::Cc (r::ts) cs
 |_,_=>[]
theorem Hd:∀(ts cs:List (List Int)),B9 ts cs=(Cc ts cs).all fun t=>Bo t.2.1 (Ax t.2.2 t.1)
 |[],_=>by simp[Cc,B9]
 |[_],_=>by simp[Cc,B9]
 |a::r::ts,[]=>by simp[Cc,B9]
 |a::r::ts,c::cs=>by rw[B9,Cc,List.all_cons,Hd (r::ts) cs]
theorem Sl{x y z:D}{xs ys zs:List D}:Bx [x::xs,y::ys,z::zs]=.tup [x,y,z]::Bx [xs,ys,zs]:=by
 have e:Cq [x::xs,y::ys,z::zs]=Cq [xs,ys,zs]+1:=by simp only[Cq,List.length_cons];omega
 unfold Bx
 rw[e,List.range_succ_eq_map,List.map_cons,List.map_map]
 rfl
theorem K5:∀(ts cs:List (List Int)),Bx [ts.map Ae,(ts.map Ae).drop 1,cs.map Ae]=(Cc ts cs).map Ut
 |[],cs=>by simp[Bx,Cq,Cc]
 |[_],cs=>by simp[Bx,Cq,Cc]
 |a::r::ts,[]=>by simp[Bx,Cq,Cc]
 |a::r::ts,c::cs=>by
  have ih:=K5 (r::ts) cs
  simp only[List.map_cons,List.drop_succ_cons,List.drop_zero] at ih ⊢
  rw[Sl,ih];rfl
theorem K8:∀{ts cs:List (List Int)} {t:List Int×List Int×List Int},t∈Cc ts cs→t.1∈ts∧t.2.1∈ts∧t.2.2∈cs
 |[],_,t,h=>by simp[Cc] at h
 |[_],_,t,h=>by simp[Cc] at h
 |a::r::ts,[],t,h=>by simp[Cc] at h
 |a::r::ts,c::cs,t,h=>by
  simp only[Cc,List.mem_cons] at h
  rcases h with rfl|h
  ·simp
  ·obtain⟨h1,h2,h3⟩:=K8 h
   exact⟨by simp[h1],by simp[h2],by simp[h3]⟩
abbrev s_is_bar:Stmt:=top 30
abbrev Yg:List Str:=["channel", "thing", "ahead", "rows", "column"]
abbrev p_is_bar:List Str:=["channel", "thing"]
theorem sc_is_bar:FnScope Yg p_is_bar (Ad s_is_bar):=⟨rfl,rfl,rfl,by decide +kernel,rfl,by decide +kernel,by decide +kernel⟩
def spIsBar:DSp:=fun ds G Q _=>∃cs d,ds=[chD cs,d]∧Ic (chD cs)=true∧KnT G 2 d∧SzT d∧cs.length≤100∧(∀c∈cs,c.length≤100)∧Q (.bl (Db cs d)) G
theorem Xf{f:Addr}{fd:FuncData}(F:Fun K "is_bar" "is_bar" s_is_bar f fd)(T:Nums mg)(Agi:Def P w K mg base CX0 5 "check_channel" p_check_channel spCheckC)(Ag5:Def P w K mg base CX0 4 "has_form_of_bar" A8 P4)(Agy:Def P w K mg base CX0 1 "has_all" p_has_all spHasAll)(Agq:Def P w K mg base CX0 2 "rows_beyond" Bi Fz):FnOk P w K mg base CX0 6 f fd p_is_bar (Al K spIsBar):=by
 refine okD F sc_is_bar (fun ds G Q E h=>?_) (fun cdv A outer s H XE ds G Q E hr h=>?_)
 ·obtain⟨c,d,rfl,_⟩:=h;rfl
 ·obtain⟨cs,d,rfl,hch,kn,hz,hl,hsm,k⟩:=h
  refine⟨_,(@qss_cons _ _ _ _ _ (@qs_expr _ _ _ _ (@q_call _ _ _ _ _ _ _ _ noX _ _ _ Agi (hr.mono (by decide)) (@passN _ _) (@qa_consP _ _ _ _ _ (@q_v1 _ _ 0 _ (by exact⟨rfl,rfl,rfl,rfl⟩)) (@qa_nil _) (by rfl)) (by rfl) (by decide) (by rfl) (by rfl)) (by rfl)) (@qss_cons _ _ _ _ _ (@qs_if _ _ _ _ _ _ _ _ (@qt_not _ _ _ _ (@qt_tru _ _ _ (@q_call _ _ _ _ _ _ _ _ noX _ _ _ Ag5 (hr.mono (by decide)) (@passN _ _) (@qa_consP _ _ _ _ _ (@q_v1 _ _ 0 _ (by exact⟨rfl,rfl,rfl,rfl⟩)) (@qa_consP _ _ _ _ _ (@q_v1 _ _ 1 _ (by exact⟨rfl,rfl,rfl,rfl⟩)) (@qa_nil _) (by rfl)) (by rfl)) (by rfl) (by decide) (by rfl) (by rfl)) (by intro _ ;rfl))) (@qss_one _ _ _ (@qs_ret _ _ _ _ (@q_bl _ _ _ _))) (@qss_nil _)) (@qss_cons _ _ _ _ _ (@qs_if _ _ _ _ _ _ _ _ (@qt_not _ _ _ _ (@qt_tru _ _ _ (@q_call _ _ _ _ _ _ _ _ noX _ _ _ Agy (hr.mono (by decide)) (@passN _ _) (@qa_consP _ _ _ _ _ (@q_ix _ _ _ _ _ _ (@q_v1 _ _ 1 _ (by exact⟨rfl,rfl,rfl,rfl⟩)) (@q_int _ _ _ _) (by intro _ _ ;rfl)) (@qa_consP _ _ _ _ _ (@q_ix _ _ _ _ _ _ (@q_v1 _ _ 0 _ (by exact⟨rfl,rfl,rfl,rfl⟩)) (@q_int _ _ _ _) (by intro _ _ ;rfl)) (@qa_nil _) (by rfl)) (by rfl)) (by rfl) (by decide) (by rfl) (by rfl)) (by intro _ ;rfl))) (@qss_one _ _ _ (@qs_ret _ _ _ _ (@q_bl _ _ _ _))) (@qss_nil _)) (@qss_cons _ _ _ _ _ (@Wq _ _ _ _ _ _ _ _ _ _ _ _ _ PassesOwn.never rfl (T.blt (by decide)) (@qa_consP _ _ _ _ _ (@q_v1 _ _ 1 _ (by exact⟨rfl,rfl,rfl,rfl⟩)) (@qa_consP _ _ _ _ _ (@q_slice _ _ _ _ _ _ _ _ _ (@q_v1 _ _ 1 _ (by exact⟨rfl,rfl,rfl,rfl⟩)) (@qo_some _ _ _ (@q_int _ _ _ _)) (@qo_none _)) (@qa_consP _ _ _ _ _ (@q_slice _ _ _ _ _ _ _ _ _ (@q_v1 _ _ 0 _ (by exact⟨rfl,rfl,rfl,rfl⟩)) (@qo_some _ _ _ (@q_int _ _ _ _)) (@qo_none _)) (@qa_nil _) (by rfl)) (by rfl)) (by rfl)) (@qg_tup _ _ _ _ _ 3 rfl (@qgs_cons _ _ _ _ _ (@qg_name _ _ 2 _ sc_is_bar.nd (by rfl) (by exact .inl rfl) (by exact .inl rfl)) (@qgs_cons _ _ _ _ _ (@qg_name _ _ 3 _ sc_is_bar.nd (by rfl) (by exact .inl rfl) (by exact .inl rfl)) (@qgs_cons _ _ _ _ _ (@qg_name _ _ 4 _ sc_is_bar.nd (by rfl) (by exact .inl rfl) (by exact .inl rfl)) (@qgs_nil _) (by rfl)) (by rfl)) (by rfl)) (by rfl) (by rfl)) (@qss_one _ _ _ (@qs_if _ _ _ _ _ _ _ _ (@qt_not _ _ _ _ (@qt_tru _ _ _ (@q_call _ _ _ _ _ _ _ _ noX _ _ _ Agy (hr.mono (by decide)) (@passN _ _) (@qa_consP _ _ _ _ _ (@q_v1 _ _ 3 _ (by exact⟨rfl,rfl,rfl,rfl⟩)) (@qa_consP _ _ _ _ _ (@q_call _ _ _ _ _ _ _ _ noX _ _ _ Agq (hr.mono (by decide)) (@passN _ _) (@qa_consP _ _ _ _ _ (@q_v1 _ _ 4 _ (by exact⟨rfl,rfl,rfl,rfl⟩)) (@qa_consP _ _ _ _ _ (@q_v1 _ _ 2 _ (by exact⟨rfl,rfl,rfl,rfl⟩)) (@qa_nil _) (by rfl)) (by rfl)) (by rfl) (by decide) (by rfl) (by rfl)) (@qa_nil _) (by rfl)) (by rfl)) (by rfl) (by decide) (by rfl) (by rfl)) (by intro _ ;rfl))) (@qss_one _ _ _ (@qs_ret _ _ _ _ (@q_bl _ _ _ _))) (@qss_nil _))) (by rfl) (by rfl) (by rfl) (by intro _ ;rfl) _) (@qss_one _ _ _ (@qs_ret _ _ _ _ (@q_bl _ _ _ _))))))),?_⟩
  have sml:∀{n:Nat},n≤100→n<sizeLine:=fun h=>Nat.lt_of_le_of_lt h (Bv (by decide))
  simp only[Bk,C4,A0,Ag,Ai,An,List.map_cons,List.map_nil,List.length_cons,List.length_nil,Nat.zero_add,Nat.reduceAdd,Nat.reduceSub,List.replicate,List.cons_append,List.nil_append,List.getElem?_cons_zero,Option.some.injEq,As,C1,Ex,D4,List.getElem?_cons_succ,Bc,nC,Bm,nOp,dIx,D.int.injEq,Ky,nSl,D8,B7,true_and,exists_eq_left']
  refine⟨_,rfl,Fm,Kx hl hsm,hch,chD cs,d,cs.length,rfl,by simp[chD,Hi],kn,hz,_,rfl,?_⟩
  cases hf:K3 cs.length d with
  |false=>
   rw[if_pos (by decide)]
   unfold Db at k
   rw[hf,Bool.false_and] at k
   exact Fq.of k
  |true=>
   rw[if_neg (by decide)]
   cases d with
   |tup ds=>
    have hf2:=hf
    simp only[K3,Bool.and_eq_true,decide_eq_true_eq] at hf2
    obtain⟨⟨⟨⟨h1,h9⟩,hrw⟩,hne⟩,hlast⟩:=hf2
    obtain⟨ts,rfl,hts⟩:=En hrw
    rw[List.length_map] at h1 h9
    have k2:Q (.bl (L3 cs ts)) G:=by
     unfold Db at k
     rw[hf,Bool.true_and] at k
     have:L3 cs ((ts.map Ae).map Hx)=L3 cs ts:=by rw[Gk]
     rw[←this];exact k
    obtain⟨t0,ts',rfl⟩:∃t r,ts=t::r:=by
     cases ts with
     |nil=>simp at h1
     |cons t r=>exact⟨t,r,rfl⟩
    obtain⟨c0,cs',rfl⟩:∃t r,cs=t::r:=by
     cases cs with
     |nil=>simp at h9
     |cons t r=>exact⟨t,r,rfl⟩
    have len9:∀c∈(t0::ts':List (List Int)),c.length≤100:=fun c hc=>by
     have:=Eg (hts c hc).1 (hts c hc).2
     omega
    simp only[List.map_cons,Ja,Sk,Option.some.injEq,chD,Cj,exists_eq_left']
    refine⟨t0,c0,rfl,sml (hsm c0 (by simp)),_,rfl,?_⟩
    have k3:Q (.bl (Bo t0 c0&&B9 (t0::ts') cs')) G:=k2
    cases ha:Bo t0 c0 with
    |false=>
     rw[if_pos (by decide)]
     rw[ha,Bool.false_and] at k3
     exact Fq.of k3
    |true=>
     rw[if_neg (by decide)]
     rw[ha,Bool.true_and,Hd] at k3
     simp only[Gj,List.drop_succ_cons,List.drop_zero]
     refine⟨[Ae t0::ts'.map Ae,ts'.map Ae,cs'.map Ae],rfl,?_⟩
     have ez:Bx [Ae t0::ts'.map Ae,ts'.map Ae,cs'.map Ae]=(Cc (t0::ts') cs').map Ut:=K5 (t0::ts') cs'
     rw[ez]
     refine Bh (fun i σ G'=>∃v1 v2 v3,σ=[some (chD (c0::cs')),some (.tup (Ae t0::ts'.map Ae)),v1,v2,v3]∧G=G'∧((Cc (t0::ts') cs').take i).all (fun t=>Bo t.2.1 (Ax t.2.2 t.1))=true) ⟨none,none,none,rfl,rfl,rfl⟩ (fun i σ G' _ ⟨v1,v2,v3,_,e,_⟩=>?_) ?_ ?_
     ·first|rfl|trivial
     ·rintro i x σ _ hx ⟨v1,v2,v3,rfl,rfl,hi⟩
      rw[List.getElem?_map] at hx
      cases hti:(Cc (t0::ts') cs')[i]? with
      |none=>rw[hti] at hx;cases hx
      |some t=>
       rw[hti] at hx
       cases hx
       have hmem:=List.mem_of_getElem? hti
       obtain⟨m1,m2,m3⟩:=K8 hmem
       have hi2:((Cc (t0::ts') cs').take (i+1)).all (fun t=>Bo t.2.1 (Ax t.2.2 t.1))=Bo t.2.1 (Ax t.2.2 t.1):=by
        rw[List.take_add_one,hti,List.all_append,hi,Bool.true_and];simp
       simp only[Gc,Ut,D.tup.injEq,Dr,Ao,Gd,C1,Ex,D4,A0,Ag,Ai,List.set_cons_succ,List.set_cons_zero,List.getElem?_cons_succ,List.getElem?_cons_zero,Option.some.injEq,As,Bc,nC,Bm,exists_eq_left',List.length_cons,List.length_nil,Nat.zero_add,Nat.reduceAdd,List.cons.injEq,and_assoc,exists_and_left,true_and]
       refine⟨t.2.2,t.1,rfl,sml (hsm _ (by simp[m3])),sml (len9 _ m1),t.2.1,Ax t.2.2 t.1,rfl,sml (Nat.le_trans (List.length_filter_le _ _) (hsm _ (by simp[m3]))),_,rfl,?_⟩
       cases hb:Bo t.2.1 (Ax t.2.2 t.1) with
       |false=>
        rw[if_pos (by decide)]
        have:((Cc (t0::ts') cs').all fun t=>Bo t.2.1 (Ax t.2.2 t.1))=false:=by
         rw[←Bool.not_eq_true,List.all_eq_true]
         intro z
         have:=z t hmem
         rw[hb] at this;cases this
        rw[this] at k3
        exact Fq.of k3
       |true=>
        rw[if_neg (by decide)]
        exact Fs.of ⟨_,_,_,rfl,rfl,by rw[hi2,hb]⟩
     ·rintro σ _ ⟨v1,v2,v3,rfl,rfl,hi⟩
      simp only[Bc,nC]
      rw[List.length_map,List.take_length] at hi
      rw[hi] at k3
      exact Fq.of k3
   |_=>cases hf
end
end K2
namespace K2
open PySem L2 D3
theorem near_iff{a b:Int}:Az a b=true↔a-b≤1∧b-a≤1:=by
 unfold Az;rw[decide_eq_true_eq];split<;>omega
def okp:Option Int→Int→Bool
 |none,_=>true
 |some a,r=>Az a r
def Ab:Option Int→List (List Int)→List (List Int)
 |_,[]=>[[]]
 |p,c::cs=>(c.filter (okp p)).flatMap fun r=>(Ab (some r) cs).map (r :: ·)
structure Wy(cs:List (List Int))(w:List Int):Prop where
 len:w.length=cs.length
 mem:∀(i:Nat) r c,w[i]? = some r→cs[i]? = some c→r∈c
 nr:∀(i:Nat) a b,w[i]? = some a→w[i+1]? = some b→Az a b=true
theorem mem_wfrom_cons{p:Option Int}{c:List Int}{cs:List (List Int)}{w:List Int}:w∈Ab p (c::cs)↔∃r v,w=r::v∧r∈c∧okp p r=true∧v∈Ab (some r) cs:=by
 rw[Ab,List.mem_flatMap]
 constructor
 ·rintro⟨r,hr,hw⟩
  obtain⟨v,hv,rfl⟩:=List.mem_map.mp hw
  obtain⟨h1,h2⟩:=List.mem_filter.mp hr
  exact⟨r,v,rfl,h1,h2,hv⟩
 ·rintro⟨r,v,rfl,h1,h2,hv⟩
  exact⟨r,List.mem_filter.mpr ⟨h1,h2⟩,List.mem_map.mpr ⟨v,hv,rfl⟩⟩
theorem mem_wfrom:∀{cs:List (List Int)} {p:Option Int} {w:List Int},w∈Ab p cs↔Wy cs w∧∀a r,p=some a→w[0]? = some r→Az a r=true
 |[],p,w=>by
  rw[Ab,List.mem_singleton]
  constructor
  ·rintro rfl;exact⟨⟨rfl,fun i r c h=>by simp at h,fun i a b h=>by simp at h⟩,fun a r _ h=>by simp at h⟩
  ·rintro⟨h,_⟩;exact List.eq_nil_of_length_eq_zero h.len
 |c::cs,p,w=>by
  rw[mem_wfrom_cons]
  constructor
  ·rintro⟨r,v,rfl,h1,h2,hv⟩
   obtain⟨hw,hn⟩:=mem_wfrom.mp hv
   refine⟨⟨by rw[List.length_cons,List.length_cons,hw.len],fun i x d e1 e2=>?_,fun i a b e1 e2=>?_⟩,fun a x ea ex=>?_⟩
   ·cases i with
    |zero=>simp at e1 e2;subst e1;subst e2;exact h1
    |succ i=>exact hw.mem i x d (by simpa using e1) (by simpa using e2)
   ·cases i with
    |zero=>simp at e1;subst e1;exact hn r b rfl (by simpa using e2)
    |succ i=>exact hw.nr i a b (by simpa using e1) (by simpa using e2)
   ·simp at ex;subst ex;subst ea;exact h2
  ·rintro⟨hw,hn⟩
   cases w with
   |nil=>have:=hw.len;simp at this
   |cons r v=>
    refine⟨r,v,rfl,hw.mem 0 r c rfl rfl,?_,mem_wfrom.mpr ⟨⟨by have:=hw.len;simpa using this,fun i x d e1 e2=>hw.mem (i+1) x d (by simpa using e1) (by simpa using e2),fun i a b e1 e2=>hw.nr (i+1) a b (by simpa using e1) (by simpa using e2)⟩,fun a x ea ex=>?_⟩⟩
    ·cases p with
     |none=>rfl
     |some a=>exact hn a r rfl rfl
    ·cases ea;exact hw.nr 0 r x rfl (by simpa using ex)
theorem mem_ways{cs:List (List Int)}{w:List Int}:w∈Ab none cs↔Wy cs w:=by
 rw[mem_wfrom];exact⟨fun h=>h.1,fun h=>⟨h,fun a r e=>by cases e⟩⟩
theorem Iy:∀a:List Int,Cw a a=false
 |[]=>rfl
 |x::r=>by rw[Cw,if_pos rfl,Iy r]
theorem Lk:∀{a b:List Int},Cw a b=true→Cw b a=false
 |[],[],h=>by cases h
 |[],_::_,_=>rfl
 |_::_,[],h=>by cases h
 |x::r,y::q,h=>by
  rw[Cw] at h ⊢
  by_cases e:x=y
  ·rw[if_pos e] at h;rw[if_pos e.symm];exact Lk h
  ·rw[if_neg e] at h;rw[if_neg fun z=>e z.symm,decide_eq_false_iff_not];have:=of_decide_eq_true h;omega
theorem Fa:∀{cs:List (List Int)} {p:Option Int},(∀c∈cs,c.Pairwise (· < ·))→(Ab p cs).Pairwise fun a b=>Cw a b=true
 |[],_,_=>List.pairwise_singleton _ _
 |c::cs,p,h=>by
  rw[Ab,List.pairwise_flatMap]
  refine⟨fun r _=>?_,?_⟩
  ·rw[List.pairwise_map]
   refine(Fa fun c hc=>h c (List.mem_cons_of_mem _ hc)).imp fun {a b} z=>?_
   rw[Cw,if_pos rfl];exact z
  ·refine((h c (List.mem_cons_self ..)).filter _).imp fun {x y} z a ha b hb=>?_
   obtain⟨a',_,rfl⟩:=List.mem_map.mp ha
   obtain⟨b',_,rfl⟩:=List.mem_map.mp hb
   rw[Cw,if_neg (by omega),decide_eq_true z]
theorem Dt{cs:List (List Int)}{p:Option Int}(h:∀c∈cs,c.Pairwise (· < ·)):(Ab p cs).Nodup:=(Fa h).imp fun {a b} z e=>by
 subst e;rw[Iy] at z;cases z
theorem Ed{α β:Type}[DecidableEq β](f:α→β):∀{a:List α} {b:List β},a.Nodup→(∀x∈a,f x∈b)→(∀x∈a,∀y∈a,f x=f y→x=y)→a.length≤b.length
 |[],_,_,_,_=>Nat.zero_le _
 |x::r,b,h,s,inj=>by
  obtain⟨h1,h2⟩:=List.nodup_cons.mp h
  have hb:f x∈b:=s x (by simp)
  have:=Ed f (a:=r) (b:=b.erase (f x)) h2 (fun y hy=>(List.mem_erase_of_ne fun e=>h1 (by rw[←inj y (by simp[hy]) x (by simp) e];exact hy)).mpr (s y (by simp[hy]))) fun y hy z hz=>inj y (by simp[hy]) z (by simp[hz])
  rw[List.length_erase_of_mem hb] at this
  have:=List.length_pos_of_mem hb
  rw[List.length_cons];omega
structure ChanN(cs:List (List Int)):Prop where
 lo:2≤cs.length
 hi:cs.length≤16
 rw:∀c∈cs,(∀i∈c,0≤i∧i≤8)∧c.Pairwise (· < ·)
theorem ChanN.up{cs:List (List Int)}(h:ChanN cs):∀c∈cs,c.Pairwise (· < ·):=fun c hc=>(h.rw c hc).2
theorem ChanN.rev{cs:List (List Int)}(h:ChanN cs):ChanN cs.reverse:=⟨by rw[List.length_reverse];exact h.lo,by rw[List.length_reverse];exact h.hi,fun c hc=>h.rw c (List.mem_reverse.mp hc)⟩
theorem Wy.rev{cs:List (List Int)}{w:List Int}(h:Wy cs w):Wy cs.reverse w.reverse:=by
 have hl:=h.len
 refine⟨by rw[List.length_reverse,List.length_reverse,hl],fun i r c e1 e2=>?_,fun i a b e1 e2=>?_⟩
 ·have hi:i<w.length:=by have:=(List.getElem?_eq_some_iff.mp e1).1;rwa [List.length_reverse] at this
  rw[List.getElem?_reverse hi] at e1
  rw[List.getElem?_reverse (by omega),←hl] at e2
  exact h.mem _ r c e1 e2
 ·have hi:i+1<w.length:=by have:=(List.getElem?_eq_some_iff.mp e2).1;rwa [List.length_reverse] at this
  rw[List.getElem?_reverse (by omega)] at e1
  rw[List.getElem?_reverse hi] at e2
  have:=h.nr (w.length-1-(i+1)) b a e2 (by rw[show w.length-1-(i+1)+1=w.length-1-i by omega];exact e1)
  rw[near_iff] at this ⊢;omega
theorem N2{cs:List (List Int)}(h:ChanN cs):(Ab none cs.reverse).length=(Ab none cs).length:=by
 have one:∀{ds:List (List Int)},ChanN ds→(Ab none ds.reverse).length≤(Ab none ds).length:=fun {ds} hd=>by
  refine Ed List.reverse (Dt hd.rev.up) (fun x hx=>?_) fun x _ y _ e=>by rw[←List.reverse_reverse x,e,List.reverse_reverse]
  have:=(mem_ways.mp hx).rev
  rw[List.reverse_reverse] at this
  exact mem_ways.mpr this
 have h1:=one h
 have h2:=one h.rev
 rw[List.reverse_reverse] at h2
 omega
def Bp(c:List Int):List Int:=c.reverse.map (8 - ·)
theorem ChanN.turn{cs:List (List Int)}(h:ChanN cs):ChanN (cs.map Bp):=⟨by rw[List.length_map];exact h.lo,by rw[List.length_map];exact h.hi,fun c hc=>by
 obtain⟨d,hd,rfl⟩:=List.mem_map.mp hc
 obtain⟨h1,h2⟩:=h.rw d hd
 refine⟨fun i hi=>?_,?_⟩
 ·obtain⟨j,hj,rfl⟩:=List.mem_map.mp hi
  have:=h1 j (List.mem_reverse.mp hj);omega
 ·unfold Bp
  rw[List.pairwise_map,List.pairwise_reverse]
  exact h2.imp fun {a b} z=>by omega⟩
theorem Tk{c:List Int}{r:Int}:r∈Bp c↔8-r∈c:=by
 unfold Bp
 rw[List.mem_map]
 constructor
 ·rintro⟨j,hj,rfl⟩;rw[List.mem_reverse] at hj;rwa [show 8-(8-j)=j by omega]
 ·intro hr;exact⟨8-r,List.mem_reverse.mpr hr,by omega⟩
theorem Wy.turn{cs:List (List Int)}{w:List Int}(h:Wy cs w):Wy (cs.map Bp) (w.map (8 - ·)):=by
 refine⟨by rw[List.length_map,List.length_map,h.len],fun i r c e1 e2=>?_,fun i a b e1 e2=>?_⟩
 ·rw[List.getElem?_map] at e1 e2
  obtain⟨x,ex,rfl⟩:=Option.map_eq_some_iff.mp e1
  obtain⟨d,ed,rfl⟩:=Option.map_eq_some_iff.mp e2
  rw[Tk,show 8-(8-x)=x by omega]
  exact h.mem i x d ex ed
 ·rw[List.getElem?_map] at e1 e2
  obtain⟨x,ex,rfl⟩:=Option.map_eq_some_iff.mp e1
  obtain⟨y,ey,rfl⟩:=Option.map_eq_some_iff.mp e2
  have:=h.nr i x y ex ey
  rw[near_iff] at this ⊢;omega
theorem K7(cs:List (List Int)):(cs.map Bp).map Bp=cs:=by
 rw[List.map_map]
 have:(Bp ∘ Bp)=id:=by
  funext c
  show((c.reverse.map (8 - ·)).reverse).map (8 - ·)=c
  rw[←List.map_reverse,List.reverse_reverse,List.map_map]
  have:((fun x:Int=>8-x) ∘ fun x=>8-x)=id:=by funext x;simp only[Function.comp,id];omega
  rw[this,List.map_id]
 rw[this,List.map_id]
theorem Xm{a b:List Int}(e:a.map (8 - ·)=b.map (8 - ·)):a=b:=(List.map_inj_right fun x y h=>by omega).mp e
theorem K6{cs:List (List Int)}(h:ChanN cs):(Ab none (cs.map Bp)).length=(Ab none cs).length:=by
 have one:∀{ds:List (List Int)},ChanN ds→(Ab none ds).length≤(Ab none (ds.map Bp)).length:=fun {ds} hd=>
  Ed (List.map (8 - ·)) (Dt hd.up) (fun x hx=>mem_ways.mpr (mem_ways.mp hx).turn) fun x _ y _ e=>Xm e
 have h1:=one h
 have h2:=one h.turn
 rw[K7] at h2
 omega
theorem Wy.set{cs:List (List Int)}{w:List Int}{s:Nat}{c:List Int}(hs:s<cs.length):Wy (cs.set s c) w↔w.length=cs.length∧(∀(i:Nat) r d,i≠s→w[i]? = some r→cs[i]? = some d→r∈d)∧(∀(i:Nat) a b,w[i]? = some a→w[i+1]? = some b→Az a b=true)∧∀r,w[s]? = some r→r∈c:=by
 constructor
 ·intro h
  refine⟨by rw[h.len,List.length_set],fun i r d hi e1 e2=>h.mem i r d e1 (by rw[List.getElem?_set_ne (Ne.symm hi)];exact e2),h.nr,fun r e=>h.mem s r c e (by rw[List.getElem?_set_self hs])⟩
 ·rintro⟨h1,h2,h3,h4⟩
  refine⟨by rw[h1,List.length_set],fun i r d e1 e2=>?_,h3⟩
  by_cases hi:i=s
  ·subst hi;rw[List.getElem?_set_self hs] at e2;cases e2;exact h4 r e1
  ·rw[List.getElem?_set_ne (Ne.symm hi)] at e2;exact h2 i r d hi e1 e2
theorem N7{cs:List (List Int)}{s:Nat}{c:List Int}(h:cs[s]? = some c):cs.set s c=cs:=by
 obtain⟨hi,rfl⟩:=List.getElem?_eq_some_iff.mp h
 exact List.set_getElem_self hi
theorem Wy.of_set{cs:List (List Int)}{w:List Int}{s:Nat}{c d:List Int}(hs:s<cs.length)(h:Wy (cs.set s c) w)(hd:∀r,w[s]? = some r→r∈d):Wy (cs.set s d) w:=by
 obtain⟨h1,h2,h3,_⟩:=(Wy.set hs).mp h
 exact(Wy.set hs).mpr ⟨h1,h2,h3,hd⟩
theorem ChanN.set{cs:List (List Int)}(h:ChanN cs){s:Nat}{c:List Int}(hc:(∀i∈c,0≤i∧i≤8)∧c.Pairwise (· < ·)):ChanN (cs.set s c):=⟨by rw[List.length_set];exact h.lo,by rw[List.length_set];exact h.hi,fun d hd=>by
 rcases List.mem_or_eq_of_mem_set hd with hd|rfl
 ·exact h.rw d hd
 ·exact hc⟩
theorem N1{cs:List (List Int)}(h:ChanN cs){s:Nat}(hs:s<cs.length){c d:List Int}(hc:(∀i∈c,0≤i∧i≤8)∧c.Pairwise (· < ·))(sub:∀r∈c,r∈d):(Ab none (cs.set s c)).length≤(Ab none (cs.set s d)).length:=
 Ed id (Dt (h.set hc).up) (fun w hw=>mem_ways.mpr ((mem_ways.mp hw).of_set hs fun r e=>sub r (((Wy.set hs).mp (mem_ways.mp hw)).2.2.2 r e))) fun _ _ _ _ e=>e
theorem P9{cs:List (List Int)}(h:ChanN cs){s:Nat}(hs:s<cs.length){c d e:List Int}(hc:(∀i∈c,0≤i∧i≤8)∧c.Pairwise (· < ·))(hd:(∀i∈d,0≤i∧i≤8)∧d.Pairwise (· < ·))(he:(∀i∈e,0≤i∧i≤8)∧e.Pairwise (· < ·))(all:∀r,r∈e↔r∈c∨r∈d)(dis:∀r,r∈c→r∈d→False):(Ab none (cs.set s c)).length+(Ab none (cs.set s d)).length=(Ab none (cs.set s e)).length:=by
 have at_s:∀{x:List Int} {w:List Int},Wy (cs.set s x) w→∃r,w[s]? = some r∧r∈x:=fun {x w} hw=>by
  have hl:=hw.len
  rw[List.length_set] at hl
  have:w[s]? = some (w[s]'(by omega)):=List.getElem?_eq_getElem (by omega)
  exact⟨_,this,((Wy.set hs).mp hw).2.2.2 _ this⟩
 rw[←List.length_append]
 have nd:(Ab none (cs.set s c)++Ab none (cs.set s d)).Nodup:=by
  rw[List.nodup_append]
  refine⟨Dt (h.set hc).up,Dt (h.set hd).up,fun x hx y hy ee=>?_⟩
  subst ee
  obtain⟨r,e1,m1⟩:=at_s (mem_ways.mp hx)
  obtain⟨r',e2,m2⟩:=at_s (mem_ways.mp hy)
  rw[e1] at e2;cases e2
  exact dis r m1 m2
 refine Nat.le_antisymm (Ed id nd (fun w hw=>?_) fun _ _ _ _ e=>e) (Ed id (Dt (h.set he).up) (fun w hw=>?_) fun _ _ _ _ e=>e)
 ·rcases List.mem_append.mp hw with hw|hw
  ·exact mem_ways.mpr ((mem_ways.mp hw).of_set hs fun r q=>(all r).mpr (.inl (((Wy.set hs).mp (mem_ways.mp hw)).2.2.2 r q)))
  ·exact mem_ways.mpr ((mem_ways.mp hw).of_set hs fun r q=>(all r).mpr (.inr (((Wy.set hs).mp (mem_ways.mp hw)).2.2.2 r q)))
 ·obtain⟨r,e1,m1⟩:=at_s (mem_ways.mp hw)
  rcases(all r).mp m1 with m|m
  ·exact List.mem_append_left _ (show w∈_ from mem_ways.mpr ((mem_ways.mp hw).of_set hs fun r' q=>by rw[e1] at q;cases q;exact m))
  ·exact List.mem_append_right _ (show w∈_ from mem_ways.mpr ((mem_ways.mp hw).of_set hs fun r' q=>by rw[e1] at q;cases q;exact m))
def bdI:Int→List Int→Int
 |_,[]=>0
 |a,r::w=>(if r≠a then 1 else 0)+bdI r w
def bdW:List Int→Int
 |[]=>0
 |r::w=>bdI r w
def Ce(w:List Int):List Nat:=(List.range (w.length-1)).filter fun i=>decide (w.getD (i+1) 0≠w.getD i 0)
theorem Ui(r y:Int)(w:List Int):(Ce (r::y::w)).length=(if y≠r then 1 else 0)+(Ce (y::w)).length:=by
 unfold Ce
 show((List.range (w.length+1)).filter _).length=_
 rw[List.range_succ_eq_map,List.filter_cons,List.filter_map]
 have e:((fun i=>decide ((r::y::w).getD (i+1) 0≠(r::y::w).getD i 0)) ∘ Nat.succ)=fun i=>decide ((y::w).getD (i+1) 0≠(y::w).getD i 0):=by funext i;rfl
 rw[e]
 show _=_+((List.range w.length).filter _).length
 by_cases h:y≠r
 ·rw[if_pos h,if_pos (by simpa using h),List.length_cons,List.length_map];omega
 ·rw[if_neg h,if_neg (by simpa using h),List.length_map];omega
theorem Mw:∀w:List Int,((Ce w).length:Int)=bdW w
 |[]=>rfl
 |[r]=>rfl
 |r::y::w=>by
  have:=Mw (y::w)
  rw[Ui]
  show _=(if y≠r then 1 else 0)+bdI y w
  have e:bdW (y::w)=bdI y w:=rfl
  rw[e] at this
  split<;>omega
theorem Yb(w:List Int):(Ce w.reverse).length=(Ce w).length:=by
 have one:∀v:List Int,(Ce v.reverse).length≤(Ce v).length:=fun v=>by
  refine Ed (fun i=>v.length-2-i) (List.nodup_range.filter _) (fun i hi=>?_) fun i hi j hj e=>?_
  ·obtain⟨h1,h2⟩:=List.mem_filter.mp hi
   rw[List.mem_range,List.length_reverse] at h1
   have h2:=of_decide_eq_true h2
   refine List.mem_filter.mpr ⟨List.mem_range.mpr (by omega),decide_eq_true fun z=>h2 ?_⟩
   rw[List.getD_eq_getElem?_getD,List.getD_eq_getElem?_getD,List.getElem?_reverse (by omega),List.getElem?_reverse (by omega)]
   rw[List.getD_eq_getElem?_getD,List.getD_eq_getElem?_getD,show v.length-2-i+1=v.length-1-i by omega] at z
   rw[show v.length-1-(i+1)=v.length-2-i by omega]
   exact z.symm
  ·have h1:=List.mem_range.mp (List.mem_filter.mp hi).1
   have h2:=List.mem_range.mp (List.mem_filter.mp hj).1
   rw[List.length_reverse] at h1 h2
   have e:v.length-2-i=v.length-2-j:=e
   omega
 have h1:=one w
 have h2:=one w.reverse
 rw[List.reverse_reverse] at h2
 omega
theorem Uh(w:List Int):Ce (w.map (8 - ·))=Ce w:=by
 unfold Ce
 rw[List.length_map]
 refine List.filter_congr fun i hi=>?_
 have hi:=List.mem_range.mp hi
 rw[List.getD_eq_getElem?_getD,List.getD_eq_getElem?_getD,List.getD_eq_getElem?_getD,List.getD_eq_getElem?_getD,List.getElem?_map,List.getElem?_map,List.getElem?_eq_getElem (show i<w.length by omega),List.getElem?_eq_getElem (show i+1<w.length by omega)]
 simp only[Option.map_some,Option.getD_some]
 congr 1
 exact propext ⟨fun h z=>h (by omega),fun h z=>h (by omega)⟩
structure Straight(cs:List (List Int))(w:List Int):Prop where
 way:Wy cs w
 few:∀v,Wy cs v→(Ce w).length≤(Ce v).length
theorem M0{cs:List (List Int)}{w v:List Int}(h:Straight cs w)(h2:Straight cs.reverse v):(Ce v).length=(Ce w).length:=by
 have h1:=h2.few _ h.way.rev
 have h3:=h2.way.rev
 rw[List.reverse_reverse] at h3
 have h4:=h.few _ h3
 rw[Yb] at h1 h4
 omega
theorem Kk{cs:List (List Int)}{w v:List Int}(h:Straight cs w)(h2:Straight (cs.map Bp) v):(Ce v).length=(Ce w).length:=by
 have h1:=h2.few _ h.way.turn
 have h3:=h2.way.turn
 rw[K7] at h3
 have h4:=h.few _ h3
 rw[Uh] at h1 h4
 omega
end K2
namespace K2
open PySem L2 D3
section
variable{P:Program}{w:World}{K:W.Frag}{mg:Str→Option Value}{base:Heap}
def Bg(ps:List (Int×Int)):List (Key×D):=ps.map fun p=>(.inl p.1,.int p.2)
theorem Vb{i:Int}:∀{ps:List (Int×Int)},i∈ps.map (·.1)→∃z,D9 (Bg ps) (.inl i:Key)=some (.int z)
 |[],h=>by cases h
 |p::r,h=>by
  by_cases e:p.1=i
  ·exact⟨p.2,by simp[Bg,D9,e]⟩
  ·obtain⟨z,hz⟩:=Vb (ps:=r) ((List.mem_cons.mp h).elim (fun q=>absurd q.symm e) id)
   refine⟨z,?_⟩
   have:D9 (Bg (p::r)) (.inl i:Key)=D9 (Bg r) (.inl i:Key):=by
    unfold D9 Bg
    rw[List.map_cons,List.find?_cons,show decide ((Sum.inl p.1:Key)=Sum.inl i)=false from decide_eq_false fun q=>e (Sum.inl.inj q)]
   rw[this];exact hz
def vI(ps:List (Int×Int))(i:Int):Int:=match D9 (Bg ps) (.inl i:Key) with
 |some (.int z)=>z
 |_=>0
theorem Np{i:Int}{ps:List (Int×Int)}(h:i∈ps.map (·.1)):D9 (Bg ps) (.inl i:Key)=some (.int (vI ps i)):=by
 obtain⟨z,e⟩:=Vb h
 rw[e];simp[vI,e]
theorem Lq(ps:List (Int×Int)):(Bg ps).map (fun q=>kD q.1)=(ps.map (·.1)).map D.int:=by
 unfold Bg;rw[List.map_map,List.map_map];rfl
end
end K2
namespace K2
open PySem L2 D3
def onL:List (List Int)→List (List (Int×Int))
 |[]=>[]
 |c::cs=>(c.map fun r=>(r,((Ab (some r) cs).length:Int)))::onL cs
theorem Ml:∀cs:List (List Int),(onL cs).length=cs.length
 |[]=>rfl
 |c::cs=>by rw[onL,List.length_cons,List.length_cons,Ml]
theorem Mm:∀{cs:List (List Int)} {i:Nat} {c:List Int},cs[i]? = some c→(onL cs)[i]? = some (c.map fun r=>(r,((Ab (some r) (cs.drop (i+1))).length:Int)))
 |[],i,c,h=>by simp at h
 |d::cs,0,c,h=>by simp at h;subst h;rfl
 |d::cs,i+1,c,h=>by
  rw[onL]
  have:=Mm (cs:=cs) (i:=i) (by simpa using h)
  simpa using this
theorem Wf(l:List Nat):((l.sum:Nat):Int)=(l.map fun(n:Nat)=>(n:Int)).sum:=by
 induction l with
 |nil=>rfl
 |cons n r ih=>rw[List.sum_cons,List.map_cons,List.sum_cons,←ih];push_cast;rfl
theorem O3(p:Option Int)(c:List Int)(cs:List (List Int)):((Ab p (c::cs)).length:Int)=((c.filter (okp p)).map fun y=>((Ab (some y) cs).length:Int)).sum:=by
 rw[Ab,List.length_flatMap,Wf,List.map_map]
 congr 1
 refine List.map_congr_left fun y _=>?_
 simp
def C2(f:Int→Nat):List Int→Nat→Option (Int×Nat)
 |[],_=>none
 |r::R,k=>if k<f r then some (r,k) else C2 f R (k-f r)
theorem Oj{L:Int→List (List Int)}:∀(R:List Int) (k:Nat),(R.flatMap L)[k]? = (C2 (fun r=>(L r).length) R k).bind fun q=>(L q.1)[q.2]?
 |[],k=>by simp[C2]
 |r::R,k=>by
  rw[List.flatMap_cons,C2]
  by_cases h:k<(L r).length
  ·rw[if_pos h,List.getElem?_append_left h];rfl
  ·rw[if_neg h,List.getElem?_append_right (by omega),Oj R]
theorem Lg{f:Int→Nat}:∀{R:List Int} {k:Nat},k<(R.map f).sum→∃r j,C2 f R k=some (r,j)∧r∈R∧j<f r
 |[],k,h=>by simp at h
 |r::R,k,h=>by
  rw[C2]
  by_cases h1:k<f r
  ·exact⟨r,k,if_pos h1,by simp,h1⟩
  ·rw[if_neg h1]
   rw[List.map_cons,List.sum_cons] at h
   obtain⟨x,j,e,hm,hj⟩:=Lg (f:=f) (R:=R) (k:=k-f r) (by omega)
   exact⟨x,j,e,by simp[hm],hj⟩
theorem V9{p:Option Int}{c:List Int}{cs:List (List Int)}{k:Nat}{r:Int}{j:Nat}(h:C2 (fun r=>(Ab (some r) cs).length) (c.filter (okp p)) k=some (r,j)):(Ab p (c::cs))[k]? = ((Ab (some r) cs)[j]?).map (r :: ·):=by
 rw[Ab,Oj]
 have e:(fun r=>((Ab (some r) cs).map (r :: ·)).length)=fun r=>(Ab (some r) cs).length:=by funext r;rw[List.length_map]
 rw[e,h]
 show((Ab (some r) cs).map (r :: ·))[j]? = _
 rw[List.getElem?_map]
structure FewIs(r:Int)(cs:List (List Int))(b:Int):Prop where
 ex:∃w∈Ab (some r) cs,bdI r w=b
 le:∀w∈Ab (some r) cs,b≤bdI r w
structure FD(c:List Int)(cs:List (List Int))(ps:List (Int×Int)):Prop where
 keys:ps.map (·.1)=c.filter fun r=>!(Ab (some r) cs).isEmpty
 few:∀q∈ps,FewIs q.1 cs q.2
def B0(r o:Int):Int:=if o≠r then 1 else 0
def Dk(ps:List (Int×Int))(r:Int):List (Int×Int):=((ps.map (·.1)).filter (Az r)).map fun o=>(vI ps o+B0 r o,o)
theorem few_zero{r b:Int}:FewIs r [] b↔b=0:=by
 constructor
 ·rintro⟨⟨w,hw,e⟩,_⟩
  rw[Ab,List.mem_singleton] at hw
  subst hw;exact e.symm
 ·rintro rfl;exact⟨⟨[],by simp[Ab],rfl⟩,fun w hw=>by rw[Ab,List.mem_singleton] at hw;subst hw;exact Int.le_refl _⟩
theorem Gf:∀{ps:List (Int×Int)} {o:Int},o∈ps.map (·.1)→(o,vI ps o)∈ps
 |[],_,h=>by simp at h
 |p::r,o,h=>by
  by_cases e:p.1=o
  ·have:vI (p::r) o=p.2:=by simp[vI,D9,Bg,e]
   rw[this,←e];exact List.mem_cons_self ..
  ·have hm:o∈r.map (·.1):=(List.mem_cons.mp h).resolve_left fun z=>e z.symm
   have:vI (p::r) o=vI r o:=by
    unfold vI
    have:D9 (Bg (p::r)) (.inl o:Key)=D9 (Bg r) (.inl o:Key):=by
     unfold D9 Bg
     rw[List.map_cons,List.find?_cons,show decide ((Sum.inl p.1:Key)=Sum.inl o)=false from decide_eq_false fun q=>e (Sum.inl.inj q)]
    rw[this]
   rw[this];exact List.mem_cons_of_mem _ (Gf hm)
theorem Dx{c:List Int}{cs:List (List Int)}{ps:List (Int×Int)}(h:FD c cs ps){o:Int}:o∈ps.map (·.1)↔o∈c∧∃w,w∈Ab (some o) cs:=by
 rw[h.keys,List.mem_filter]
 refine and_congr_right fun _=>?_
 cases e:Ab (some o) cs with
 |nil=>simp
 |cons w r=>simp
theorem La{c:List Int}{cs:List (List Int)}{ps:List (Int×Int)}(h:FD c cs ps){r:Int}(e:Dk ps r=[]):Ab (some r) (c::cs)=[]:=by
 rw[List.eq_nil_iff_forall_not_mem]
 intro w hw
 obtain⟨y,v,rfl,hy,hn,hv⟩:=mem_wfrom_cons.mp hw
 have:(vI ps y+B0 r y,y)∈Dk ps r:=List.mem_map.mpr ⟨y,List.mem_filter.mpr ⟨(Dx h).mpr ⟨hy,v,hv⟩,hn⟩,rfl⟩
 rw[e] at this;simp at this
theorem N5{c:List Int}{cs:List (List Int)}{ps:List (Int×Int)}(h:FD c cs ps){r:Int}{M:Int×Int}(hM:M∈Dk ps r)(least:∀a∈Dk ps r,¬Br a M) :
  M.2∈c∧Az r M.2=true∧FewIs M.2 cs (M.1-B0 r M.2)∧FewIs r (c::cs) M.1:=by
 obtain⟨o,ho,rfl⟩:=List.mem_map.mp hM
 obtain⟨hk,hn⟩:=List.mem_filter.mp ho
 obtain⟨hc,w,hw⟩:=(Dx h).mp hk
 have few:=h.few _ (Gf hk)
 refine⟨hc,hn,by show FewIs o cs (vI ps o+B0 r o-B0 r o);rw[show vI ps o+B0 r o-B0 r o=vI ps o by omega];exact few,⟨?_,fun u hu=>?_⟩⟩
 ·obtain⟨v,hv,e⟩:=few.ex
  refine⟨o::v,mem_wfrom_cons.mpr ⟨o,v,rfl,hc,hn,hv⟩,?_⟩
  show(if o≠r then 1 else 0)+bdI o v=vI ps o+B0 r o
  have e:bdI o v=vI ps o:=e
  rw[e];unfold B0;omega
 ·obtain⟨y,v,rfl,hy,hny,hv⟩:=mem_wfrom_cons.mp hu
  have hky:=(Dx h).mpr ⟨hy,v,hv⟩
  have:=least (vI ps y+B0 r y,y) (List.mem_map.mpr ⟨y,List.mem_filter.mpr ⟨hky,hny⟩,rfl⟩)
  have fy:=(h.few _ (Gf hky)).le v hv
  have fy:vI ps y≤bdI y v:=fy
  show vI ps o+B0 r o≤(if y≠r then 1 else 0)+bdI y v
  unfold Br at this
  have e:(if y≠r then (1:Int) else 0)=B0 r y:=rfl
  rw[e]
  simp only at this
  omega
theorem Sh:∀(a:Int) (v:List Int) (r:Int) (w:List Int),bdI a (v++r::w)=bdI a (v++[r])+bdI r w
 |a,[],r,w=>by simp only[List.nil_append,bdI];omega
 |a,x::v,r,w=>by simp only[List.cons_append,bdI,Sh x v r w];omega
theorem Aay(v:List Int)(r:Int)(w:List Int):bdW (v++r::w)=bdW (v++[r])+bdI r w:=by
 cases v with
 |nil=>show bdI r w=bdI r []+bdI r w;simp[bdI]
 |cons x v=>exact Sh x v r w
def rch:List Int→List (List Int)→List (List Int)
 |_,[]=>[]
 |l,c::cs=>Ax c l::rch (Ax c l) cs
def B8:List (List Int)→List (List Int)
 |[]=>[]
 |x::xs=>if x.isEmpty=true then [x] else x::B8 xs
theorem mem_beyond{c l:List Int}{r:Int}:r∈Ax c l↔r∈c∧∃a∈l,Az a r=true:=by
 unfold Ax
 rw[List.mem_filter]
 refine and_congr_right fun _=>?_
 cases e:l.filter (Az r) with
 |nil=>
  simp only[List.isEmpty_nil,Bool.not_true,Bool.false_eq_true,false_iff,not_exists,not_and]
  intro a ha hn
  have:a∈l.filter (Az r):=List.mem_filter.mpr ⟨ha,by rw[near_iff] at hn ⊢;omega⟩
  rw[e] at this;simp at this
 |cons a t=>
  simp only[List.isEmpty_cons,Bool.not_false,true_iff]
  have:a∈l.filter (Az r):=by rw[e];exact List.mem_cons_self ..
  obtain⟨h1,h2⟩:=List.mem_filter.mp this
  exact⟨a,h1,by rw[near_iff] at h2 ⊢;omega⟩
theorem Je:∀(cs:List (List Int)) (acc:List (List Int)),acc≠[]→cs.foldl Cd acc=if (acc.getLastD []).isEmpty=true then acc else acc++B8 (rch (acc.getLastD []) cs)
 |[],acc,_=>by simp[rch,B8]
 |c::cs,acc,ne=>by
  rw[List.foldl_cons,Cd]
  by_cases h:(acc.getLastD []).isEmpty=true
  ·rw[if_pos h,Je cs acc ne,if_pos h,if_pos h]
  ·rw[if_neg h,Je cs _ (by simp),if_neg h]
   have e:(acc++[Ax c (acc.getLastD [])]).getLastD []=Ax c (acc.getLastD []):=by simp
   rw[e,rch,B8]
   by_cases h2:(Ax c (acc.getLastD [])).isEmpty=true
   ·rw[if_pos h2,if_pos h2]
   ·rw[if_neg h2,if_neg h2,List.append_assoc];rfl
theorem C0{c:List Int}{cs:List (List Int)}:Aw (c::cs)=if c.isEmpty=true then [c] else c::B8 (rch c cs):=by
 show(List.drop 1 (c::cs)).foldl Cd [c]=_
 rw[List.drop_succ_cons,List.drop_zero,Je cs [c] (by simp)];rfl
theorem Dl:∀(l:List Int) (cs:List (List Int)),(rch l cs).length=cs.length
 |_,[]=>rfl
 |l,c::cs=>by rw[rch,List.length_cons,List.length_cons,Dl]
theorem Rl:∀{cs:List (List Int)} {l:List Int} {i:Nat} {R:List Int} {r:Int},(rch l cs)[i]? = some R→(r∈R↔∃a∈l,∃w,w∈Ab (some a) (cs.take (i+1))∧w[i]? = some r)
 |[],l,i,R,r,h=>by simp[rch] at h
 |c::cs,l,0,R,r,h=>by
  simp only[rch,List.getElem?_cons_zero,Option.some.injEq] at h
  subst h
  rw[mem_beyond,List.take_succ_cons,List.take_zero]
  constructor
  ·rintro⟨hc,a,ha,hn⟩
   exact⟨a,ha,[r],mem_wfrom_cons.mpr ⟨r,[],rfl,hc,hn,by simp[Ab]⟩,rfl⟩
  ·rintro⟨a,ha,w,hw,e⟩
   obtain⟨y,v,rfl,hy,hn,_⟩:=mem_wfrom_cons.mp hw
   simp at e;subst e
   exact⟨hy,a,ha,hn⟩
 |c::cs,l,i+1,R,r,h=>by
  simp only[rch,List.getElem?_cons_succ] at h
  rw[Rl h,List.take_succ_cons]
  constructor
  ·rintro⟨a,ha,w,hw,e⟩
   obtain⟨hc,b,hb,hn⟩:=mem_beyond.mp ha
   exact⟨b,hb,a::w,mem_wfrom_cons.mpr ⟨a,w,rfl,hc,hn,hw⟩,by simpa using e⟩
  ·rintro⟨b,hb,w,hw,e⟩
   obtain⟨y,v,rfl,hy,hn,hv⟩:=mem_wfrom_cons.mp hw
   exact⟨y,mem_beyond.mpr ⟨hy,b,hb,hn⟩,v,hv,by simpa using e⟩
theorem Jc{c:List Int}{cs:List (List Int)}{i:Nat}{R:List Int}{r:Int}(h:(c::rch c cs)[i]? = some R):r∈R↔∃w,Wy ((c::cs).take (i+1)) w∧w[i]? = some r:=by
 cases i with
 |zero=>
  simp only[List.getElem?_cons_zero,Option.some.injEq] at h
  subst h
  rw[List.take_succ_cons,List.take_zero]
  constructor
  ·intro hr
   exact⟨[r],mem_ways.mp (mem_wfrom_cons.mpr ⟨r,[],rfl,hr,rfl,by simp[Ab]⟩),rfl⟩
  ·rintro⟨w,hw,e⟩;exact hw.mem 0 r c e rfl
 |succ i=>
  simp only[List.getElem?_cons_succ] at h
  rw[Rl h,List.take_succ_cons]
  constructor
  ·rintro⟨a,ha,w,hw,e⟩
   exact⟨a::w,mem_ways.mp (mem_wfrom_cons.mpr ⟨a,w,rfl,ha,rfl,hw⟩),by simpa using e⟩
  ·rintro⟨w,hw,e⟩
   obtain⟨a,v,rfl,ha,_,hv⟩:=mem_wfrom_cons.mp (mem_ways.mpr hw)
   exact⟨a,ha,v,hv,by simpa using e⟩
theorem Wy.take{cs:List (List Int)}{w:List Int}(h:Wy cs w)(k:Nat):Wy (cs.take k) (w.take k):=by
 refine⟨by rw[List.length_take,List.length_take,h.len],fun i r c e1 e2=>?_,fun i a b e1 e2=>?_⟩
 ·rw[List.getElem?_take] at e1 e2
  split at e1
  ·rename_i hi;rw[if_pos hi] at e2;exact h.mem i r c e1 e2
  ·cases e1
 ·rw[List.getElem?_take] at e1 e2
  split at e1
  ·split at e2
   ·exact h.nr i a b e1 e2
   ·cases e2
  ·cases e1
theorem Wy.drop{cs:List (List Int)}{w:List Int}(h:Wy cs w)(k:Nat):Wy (cs.drop k) (w.drop k):=by
 refine⟨by rw[List.length_drop,List.length_drop,h.len],fun i r c e1 e2=>?_,fun i a b e1 e2=>?_⟩
 ·rw[List.getElem?_drop] at e1 e2;exact h.mem _ r c e1 e2
 ·rw[List.getElem?_drop] at e1 e2;exact h.nr _ a b e1 e2
theorem Wy.from{cs:List (List Int)}{w:List Int}{i:Nat}{r:Int}(h:Wy cs w)(e:w[i]? = some r):w.drop (i+1)∈Ab (some r) (cs.drop (i+1)):=
 mem_wfrom.mpr ⟨h.drop _,fun a x ea ex=>by cases ea;rw[List.getElem?_drop] at ex;exact h.nr i r x e ex⟩
theorem Wy.join{cs:List (List Int)}{u v:List Int}{i:Nat}{r:Int}(h:Wy (cs.take (i+1)) u)(hi:i<cs.length)(e:u[i]? = some r)(hv:v∈Ab (some r) (cs.drop (i+1))):Wy cs (u++v):=by
 obtain⟨h2,h3⟩:=mem_wfrom.mp hv
 have hl:u.length=i+1:=by rw[h.len,List.length_take];omega
 have hl2:=h2.len
 rw[List.length_drop] at hl2
 refine⟨by rw[List.length_append];omega,fun j x c e1 e2=>?_,fun j a b e1 e2=>?_⟩
 ·by_cases hj:j<i+1
  ·rw[List.getElem?_append_left (by omega)] at e1
   exact h.mem j x c e1 (by rw[List.getElem?_take,if_pos hj];exact e2)
  ·rw[List.getElem?_append_right (by omega),hl] at e1
   refine h2.mem (j-(i+1)) x c e1 ?_
   rw[List.getElem?_drop,show i+1+(j-(i+1))=j by omega];exact e2
 ·by_cases hj:j+1<i+1
  ·rw[List.getElem?_append_left (by omega)] at e1 e2
   exact h.nr j a b e1 e2
  ·by_cases hj2:j=i
   ·subst hj2
    rw[List.getElem?_append_left (by omega),e] at e1
    rw[List.getElem?_append_right (by omega),hl,Nat.sub_self] at e2
    cases e1
    exact h3 r b rfl e2
   ·rw[List.getElem?_append_right (by omega),hl] at e1 e2
    exact h2.nr (j-(i+1)) a b e1 (by rw[show j-(i+1)+1=j+1-(i+1) by omega];exact e2)
theorem passed{c:List Int}{cs:List (List Int)}{i:Nat}{R:List Int}{r:Int}(h:(c::rch c cs)[i]? = some R):(r∈R∧0<(Ab (some r) ((c::cs).drop (i+1))).length)↔∃w,Wy (c::cs) w∧w[i]? = some r:=by
 have hi:i<(c::cs).length:=by
  have:=(List.getElem?_eq_some_iff.mp h).1
  rw[List.length_cons,Dl] at this
  rwa [List.length_cons]
 constructor
 ·rintro⟨hr,hp⟩
  obtain⟨u,hu,e⟩:=(Jc h).mp hr
  obtain⟨v,hv⟩:=List.exists_mem_of_length_pos hp
  refine⟨u++v,Wy.join hu hi e hv,?_⟩
  rw[List.getElem?_append_left (List.getElem?_eq_some_iff.mp e).1];exact e
 ·rintro⟨w,hw,e⟩
  refine⟨(Jc h).mpr ⟨w.take (i+1),hw.take _,by rw[List.getElem?_take,if_pos (by omega)];exact e⟩,List.length_pos_of_mem (hw.from e)⟩
theorem O2:∀{xs:List (List Int)},((B8 xs).getLastD []).isEmpty=false→B8 xs=xs
 |[],_=>rfl
 |x::xs,h=>by
  rw[B8] at h ⊢
  by_cases hx:x.isEmpty=true
  ·rw[if_pos hx] at h;rw[show([x]:List (List Int)).getLastD []=x from rfl,hx] at h;cases h
  ·rw[if_neg hx] at h ⊢
   cases hc:B8 xs with
   |nil=>
    cases xs with
    |nil=>rfl
    |cons y ys=>rw[B8] at hc;split at hc<;>cases hc
   |cons y ys=>
    rw[←hc,O2]
    rw[hc] at h ⊢
    simpa using h
theorem O1:∀{xs:List (List Int)},xs≠[]→((B8 xs).getLastD []).isEmpty=true→∃i:Nat,xs[i]? = some []
 |[],h,_=>absurd rfl h
 |x::xs,_,h=>by
  rw[B8] at h
  by_cases hx:x.isEmpty=true
  ·exact⟨0,by rw[List.isEmpty_iff.mp hx];rfl⟩
  ·rw[if_neg hx] at h
   cases hc:B8 xs with
   |nil=>rw[hc] at h;exact absurd h hx
   |cons y ys=>
    have hne:xs≠[]:=fun z=>by subst z;cases hc
    obtain⟨i,e⟩:=O1 hne (by rw[hc] at h ⊢;simpa using h)
    exact⟨i+1,by simpa using e⟩
theorem Jn{c:List Int}{cs:List (List Int)}(hne:cs≠[]):(((Aw (c::cs)).getLastD []).isEmpty=true↔Ab none (c::cs)=[])∧(((Aw (c::cs)).getLastD []).isEmpty=false→Aw (c::cs)=c::rch c cs):=by
 have empty_no:(∃i:Nat,(c::rch c cs)[i]? = some [])→Ab none (c::cs)=[]:=fun⟨i,e⟩=>by
  rw[List.eq_nil_iff_forall_not_mem]
  intro w hw
  have hw:=mem_ways.mp hw
  have hi:i<w.length:=by
   have:=(List.getElem?_eq_some_iff.mp e).1
   rw[List.length_cons,Dl] at this
   rw[hw.len,List.length_cons];exact this
  have:=((passed (r:=w[i]) e).mpr ⟨w,hw,List.getElem?_eq_getElem hi⟩).1
  simp at this
 have hr:rch c cs≠[]:=fun z=>by have:=Dl c cs;rw[z] at this;simp at this;exact hne (List.eq_nil_of_length_eq_zero this.symm)
 have full:((Aw (c::cs)).getLastD []).isEmpty=false→Aw (c::cs)=c::rch c cs:=fun h=>by
  rw[C0] at h ⊢
  by_cases hc:c.isEmpty=true
  ·rw[if_pos hc] at h;rw[show([c]:List (List Int)).getLastD []=c from rfl,hc] at h;cases h
  ·rw[if_neg hc] at h ⊢
   cases hq:B8 (rch c cs) with
   |nil=>
    cases hz:rch c cs with
    |nil=>exact absurd hz hr
    |cons y ys=>rw[hz,B8] at hq;split at hq<;>cases hq
   |cons y ys=>
    rw[←hq,O2]
    rw[hq] at h ⊢
    simpa using h
 refine⟨⟨fun h=>empty_no ?_,fun h=>?_⟩,full⟩
 ·rw[C0] at h
  by_cases hc:c.isEmpty=true
  ·exact⟨0,by rw[List.isEmpty_iff.mp hc];rfl⟩
  ·rw[if_neg hc] at h
   have:((B8 (rch c cs)).getLastD []).isEmpty=true:=by
    cases hq:B8 (rch c cs) with
    |nil=>
     cases hz:rch c cs with
     |nil=>exact absurd hz hr
     |cons y ys=>rw[hz,B8] at hq;split at hq<;>cases hq
    |cons y ys=>rw[hq] at h;simpa using h
   obtain⟨i,e⟩:=O1 hr this
   exact⟨i+1,by simpa using e⟩
 ·cases hq:((Aw (c::cs)).getLastD []).isEmpty with
  |true=>rfl
  |false=>
   exfalso
   have e:=full hq
   rw[e] at hq
   have hlen:(c::rch c cs).length=cs.length+1:=by rw[List.length_cons,Dl]
   have hlast:(c::rch c cs)[cs.length]? = some ((c::rch c cs).getLastD []):=by
    rw[List.getLastD_eq_getLast?,List.getLast?_eq_getElem?,hlen,Nat.add_sub_cancel,List.getElem?_eq_getElem (by rw[hlen];omega)];rfl
   cases hR:(c::rch c cs).getLastD [] with
   |nil=>rw[hR] at hq;cases hq
   |cons r t=>
    rw[hR] at hlast
    obtain⟨w,hw,_⟩:=(passed (r:=r) hlast).mp ⟨List.mem_cons_self ..,by
     rw[List.drop_of_length_le (by simp)];simp[Ab]⟩
    have:=mem_ways.mpr hw
    rw[h] at this;simp at this
theorem has_all{a b:List Int}:Bo a b=true↔∀i∈b,i∈a:=by
 unfold Bo;rw[List.all_eq_true];simp only[decide_eq_true_eq]
theorem O7:∀{ts:List (List Int)} {a:List Int} {cs:List (List Int)},B9 (a::ts) cs=true→((a::ts).getLastD []).isEmpty=true→ts.length≤cs.length→∀x∈a,Ab (some x) cs=[]
 |[],a,cs,_,h,_,x,hx=>by
  have h:a.isEmpty=true:=h
  rw[List.isEmpty_iff.mp h] at hx;simp at hx
 |r::ts,a,[],_,_,hl,_,_=>by simp at hl
 |r::ts,a,c::cs,ht,h,hl,x,hx=>by
  rw[B9,Bool.and_eq_true] at ht
  rw[List.eq_nil_iff_forall_not_mem]
  intro w hw
  obtain⟨y,v,rfl,hy,hn,hv⟩:=mem_wfrom_cons.mp hw
  have:=O7 ht.2 (by simpa using h) (by simpa using hl) y (has_all.mp ht.1 y (mem_beyond.mpr ⟨hy,x,hx,hn⟩))
  rw[this] at hv;simp at hv
theorem Ld:∀{cs:List (List Int)} {l:List Int},B9 (l::B8 (rch l cs)) cs=true
 |[],l=>rfl
 |c::cs,l=>by
  rw[rch,B8]
  by_cases h:(Ax c l).isEmpty=true
  ·rw[if_pos h]
   show(Bo (Ax c l) (Ax c l)&&B9 [Ax c l] cs)=true
   rw[Bool.and_eq_true]
   exact⟨has_all.mpr fun i hi=>hi,by cases cs<;>rfl⟩
  ·rw[if_neg h]
   show(Bo (Ax c l) (Ax c l)&&B9 (Ax c l::B8 (rch (Ax c l) cs)) cs)=true
   rw[Bool.and_eq_true]
   exact⟨has_all.mpr fun i hi=>hi,Ld⟩
theorem Lr:∀(xs:List (List Int)),∀x∈(B8 xs).dropLast,x.isEmpty=false
 |[],x,h=>by simp[B8] at h
 |y::xs,x,h=>by
  rw[B8] at h
  by_cases hy:y.isEmpty=true
  ·rw[if_pos hy] at h;simp at h
  ·rw[if_neg hy] at h
   cases hc:B8 xs with
   |nil=>rw[hc] at h;simp at h
   |cons z zs=>
    rw[hc,List.dropLast_cons_of_ne_nil (by simp)] at h
    rcases List.mem_cons.mp h with rfl|h
    ·simpa using hy
    ·exact Lr xs x (by rw[hc];exact h)
theorem Ms:∀xs:List (List Int),(B8 xs).length≤xs.length
 |[]=>Nat.le_refl _
 |x::xs=>by
  rw[B8];split
  ·simp
  ·have:=Ms xs;simp only[List.length_cons];omega
theorem Se:∀{xs:List (List Int)} {x:List Int},x∈B8 xs→x∈xs
 |[],x,h=>by simp[B8] at h
 |y::xs,x,h=>by
  rw[B8] at h;split at h
  ·simp at h;simp[h]
  ·rcases List.mem_cons.mp h with rfl|h
   ·simp
   ·exact List.mem_cons_of_mem _ (Se h)
theorem Mj:∀{cs:List (List Int)} {l x:List Int},x∈rch l cs→∃c∈cs,x.Sublist c
 |[],l,x,h=>by simp[rch] at h
 |c::cs,l,x,h=>by
  rw[rch] at h
  rcases List.mem_cons.mp h with rfl|h
  ·exact⟨c,by simp,List.filter_sublist⟩
  ·obtain⟨d,hd,e⟩:=Mj h;exact⟨d,by simp[hd],e⟩
theorem Rj{c:List Int}(h:(∀i∈c,0≤i∧i≤8)∧c.Pairwise (· < ·)):Cy (Ae c)=true:=by
 show((c.map D.int).all (Bn 0 8)&&Ck (c.map D.int))=true
 rw[Bool.and_eq_true,Ek,List.all_map]
 exact⟨List.all_eq_true.mpr fun i hi=>by simp[Bn,h.1 i hi],decide_eq_true h.2⟩
theorem ChanN.chan{cs:List (List Int)}(h:ChanN cs):Ic (chD cs)=true:=by
 unfold chD Ic
 rw[Bool.and_eq_true,Bool.and_eq_true,List.length_map,List.all_map]
 exact⟨⟨decide_eq_true h.lo,decide_eq_true h.hi⟩,List.all_eq_true.mpr fun c hc=>Rj (h.rw c hc)⟩
theorem ChanN.len{cs:List (List Int)}(h:ChanN cs):∀c∈cs,c.length≤9:=fun c hc=>by have:=Eg (h.rw c hc).1 (h.rw c hc).2;omega
theorem Jo{cs:List (List Int)}(h:ChanN cs):∀x∈Aw cs,(∀i∈x,0≤i∧i≤8)∧x.Pairwise (· < ·):=fun x hx=>by
 cases cs with
 |nil=>have:=h.lo;simp at this
 |cons c cs=>
  rw[C0] at hx
  have hc:=h.rw c (by simp)
  by_cases hz:c.isEmpty=true
  ·rw[if_pos hz] at hx;simp at hx;subst hx;exact hc
  ·rw[if_neg hz] at hx
   rcases List.mem_cons.mp hx with rfl|hx
   ·exact hc
   ·obtain⟨d,hd,s⟩:=Mj (Se hx)
    have:=h.rw d (by simp[hd])
    exact⟨fun i hi=>this.1 i (s.mem hi),this.2.sublist s⟩
theorem Ad4{cs:List (List Int)}(h:ChanN cs)(he:((Aw cs).getLastD []).isEmpty=true):Db cs (chD (Aw cs))=true:=by
 have hrw:=Jo h
 cases cs with
 |nil=>have:=h.lo;simp at this
 |cons c cs=>
  have hlen:1≤(Aw (c::cs)).length∧(Aw (c::cs)).length≤cs.length+1:=by
   rw[C0];split
   ·simp
   ·have:=Ms (rch c cs);rw[Dl] at this;simp only[List.length_cons];omega
  have hin:∀x∈(Aw (c::cs)).dropLast,x.isEmpty=false:=fun x hx=>by
   rw[C0] at hx
   by_cases hz:c.isEmpty=true
   ·rw[if_pos hz] at hx;simp at hx
   ·rw[if_neg hz] at hx
    cases hq:B8 (rch c cs) with
    |nil=>rw[hq] at hx;simp at hx
    |cons z zs=>
     rw[hq,List.dropLast_cons_of_ne_nil (by simp)] at hx
     rcases List.mem_cons.mp hx with rfl|hx
     ·simpa using hz
     ·exact Lr _ x (by rw[hq];exact hx)
  have hbar:L3 (c::cs) (Aw (c::cs))=true:=by
   unfold L3
   rw[Bool.and_eq_true]
   rw[C0]
   by_cases hz:c.isEmpty=true
   ·rw[if_pos hz]
    exact⟨has_all.mpr fun i hi=>hi,by show B9 [c] cs=true;cases cs<;>rfl⟩
   ·rw[if_neg hz]
    exact⟨has_all.mpr fun i hi=>hi,Ld⟩
  generalize Aw (c::cs)=ts at *
  unfold Db chD
  have hrw2:(ts.map Ae).map Hx=ts:=Gk ts
  rw[Bool.and_eq_true]
  refine⟨?_,by show L3 (c::cs) ((ts.map Ae).map Hx)=true;rw[hrw2];exact hbar⟩
  have e2:(ts.map Ae).getLastD .non=Ae (ts.getLastD []):=by
   obtain⟨i,l,rfl⟩:=Bw (xs:=ts) (fun z=>by rw[z] at hlen;simp at hlen)
   simp
  unfold K3
  dsimp only
  rw[e2,List.length_map,←List.map_dropLast,List.all_map,List.all_map]
  simp only[Bool.and_eq_true,decide_eq_true_eq]
  refine⟨⟨⟨⟨hlen.1,by rw[List.length_cons];exact hlen.2⟩,List.all_eq_true.mpr fun x hx=>Rj (hrw x hx)⟩,List.all_eq_true.mpr fun x hx=>?_⟩,?_⟩
  ·show(!(x.map D.int).isEmpty)=true
   have:=hin x hx
   cases x with
   |nil=>cases this
   |cons _ _=>rfl
  ·show(!(!((ts.getLastD []).map D.int).isEmpty))=true
   rw[List.isEmpty_iff.mp he];rfl
theorem Lx{c:List Int}{cs ts:List (List Int)}{a:List Int}(h:Db (c::cs) (chD (a::ts))=true):Ab none (a::cs)=[]:=by
 unfold Db chD at h
 rw[Bool.and_eq_true] at h
 obtain⟨hf,hb⟩:=h
 have hb:L3 (c::cs) (((a::ts).map Ae).map Hx)=true:=hb
 rw[Gk] at hb
 unfold L3 at hb
 rw[Bool.and_eq_true] at hb
 unfold K3 at hf
 simp only[Bool.and_eq_true,decide_eq_true_eq,List.length_map] at hf
 obtain⟨⟨⟨⟨h1,h9⟩,hrw⟩,hne⟩,hlast⟩:=hf
 have e2:((a::ts).map Ae).getLastD .non=Ae ((a::ts).getLastD []):=by
  obtain⟨i,l,e⟩:=Bw (xs:=a::ts) (by simp)
  rw[e];simp
 rw[e2] at hlast
 have hl:((a::ts).getLastD []).isEmpty=true:=by
  cases hq:(a::ts).getLastD [] with
  |nil=>rfl
  |cons x r=>rw[hq] at hlast;cases hlast
 rw[List.eq_nil_iff_forall_not_mem]
 intro w hw
 obtain⟨y,v,rfl,hy,_,hv⟩:=mem_wfrom_cons.mp hw
 have:=O7 (show B9 (a::ts) cs=true from hb.2) hl (by simp at h9;omega) y hy
 rw[this] at hv;simp at hv
end K2
namespace K2
open PySem L2 D3
section
variable{P:Program}{w:World}{K:W.Frag}{mg:Str→Option Value}{base:Heap}
theorem Oi{kvs:List (Key×D)}{k:Key}{d:D}(h:k ∉ kvs.map (·.1)):Pq kvs k d=kvs++[(k,d)]:=by
 unfold Pq
 rw[if_neg]
 intro z
 obtain⟨q,hq,e⟩:=List.any_eq_true.mp z
 exact h (List.mem_map.mpr ⟨q,hq,of_decide_eq_true e⟩)
theorem Jf{p:Addr}{c:List Int}{same:Gp→Prop}{tv:DTE}{σ:DSt}{G:Gp}{Q:DK}(f:Int→Int)(nd:c.Nodup)(hp:G p=none)(hl:c.length<sizeLine)(hs:∀G',Sub G G'→same G')(hv:∀i∈c,∀G',Sub G G'→∀R:DK,(∀G2,Sub G' G2→R (.int (f i)) G2)→tv (some (.int i)::σ) G' R)(k:∀G',Sub G G'→G' p=some (.dkk (Bg (c.map fun i=>(i,f i))))→Q (.ref p) G') :
  U8 1 p (c.map D.int) same (Ao 0) C3 (Ai 0) tv σ (Ac G p (.dkk [])) Q:=by
 refine⟨fun i kvs G'=>kvs=Bg ((c.take i).map fun i=>(i,f i))∧Sub G G'∧G' p=some (.dkk kvs),⟨rfl,Sub.new hp,Aa⟩,fun i kvs G' _ ⟨_,sb,e⟩=>⟨hs G' sb,e⟩,?_,?_⟩
 ·rintro i x kvs G' hx ⟨rfl,sb,e⟩
  rw[List.getElem?_map] at hx
  obtain⟨n,hn,rfl⟩:=Option.map_eq_some_iff.mp hx
  have hil:i<c.length:=(List.getElem?_eq_some_iff.mp hn).1
  refine⟨⟨[some (.int n)],rfl,rfl⟩,?_⟩
  unfold C3
  refine it0 rfl ?_
  refine⟨.int n,rfl,hv n (List.mem_of_getElem? hn) G' sb _ fun G2 sb2=>⟨.inl n,rfl,sb2 _ _ e,by simp only[Bg,List.length_map,List.length_take];omega,?_⟩⟩
  have hnot:(Sum.inl n:Key) ∉ (Bg ((c.take i).map fun i=>(i,f i))).map (·.1):=fun z=>by
   simp only[Bg,List.map_map,List.mem_map,Function.comp] at z
   obtain⟨m,hm,em⟩:=z
   cases em
   obtain⟨j,hj1,hj2⟩:=List.mem_take_iff_getElem.mp hm
   have e1:c[j]? = some n:=by rw[List.getElem?_eq_getElem (by omega),hj2]
   have:=(List.getElem?_inj (i:=j) (j:=i) (by omega) nd).mp (e1.trans hn.symm)
   omega
  rw[Oi hnot]
  have et:Bg ((c.take i).map fun i=>(i,f i))++[(Sum.inl n,D.int (f n))]=Bg ((c.take (i+1)).map fun i=>(i,f i)):=by
   rw[List.take_add_one,hn,List.map_append];simp[Bg]
  rw[et]
  refine Fg.of ⟨rfl,fun b o eb=>?_,Aa⟩
  have nb:b≠p:=fun z=>by rw[z,hp] at eb;cases eb
  rw[Af nb];exact sb2 _ _ (sb b o eb)
 ·rintro kvs G' ⟨rfl,sb,e⟩
  rw[List.length_map,List.take_length] at e
  exact k G' sb e
theorem L6{g:Int→Int}:∀{c:List Int} {o:Int},o∈c→vI (c.map fun r=>(r,g r)) o=g o:=fun {c o} h=>by
 have:=Gf (ps:=c.map fun r=>(r,g r)) (o:=o) (by rw[List.map_map];exact List.mem_map.mpr ⟨o,h,rfl⟩)
 obtain⟨r,_,e⟩:=List.mem_map.mp this
 have e1:=congrArg Prod.fst e
 have e2:=congrArg Prod.snd e
 simp only at e1 e2
 subst e1;exact e2.symm
theorem Ei{g:Int→Int}{c:List Int}:(c.map fun r=>(r,g r)).map (·.1)=c:=by rw[List.map_map];exact List.map_id c
def DictsAt(G:Gp)(as:List Addr)(pss:List (List (Int×Int))):Prop:=Paired (fun a ps=>G a=some (.dkk (Bg ps))) as pss
theorem DictsAt.sub{G G':Gp}(s:Sub G G'):∀{as:List Addr} {pss:List (List (Int×Int))},DictsAt G as pss→DictsAt G' as pss
 |_,_,.nil=>.nil
 |_,_,.cons h t=>.cons (s _ _ h) (DictsAt.sub s t)
theorem DictsAt.put{G:Gp}{p:Addr}{o u:GO}(hp:G p=some o)(no:∀ps,o≠.dkk ps):∀{as:List Addr} {pss:List (List (Int×Int))},DictsAt G as pss→DictsAt (Ac G p u) as pss
 |_,_,.nil=>.nil
 |_,_,.cons h t=>.cons (by rw[Af (fun z=>by rw[z,hp] at h;exact no _ (Option.some.inj h))];exact h) (DictsAt.put hp no t)
theorem DictsAt.get{G:Gp}{as:List Addr}{pss:List (List (Int×Int))}(h:DictsAt G as pss){i:Nat}{ps:List (Int×Int)}(e:pss[i]? = some ps):∃a,as[i]? = some a∧G a=some (.dkk (Bg ps)):=by
 induction h generalizing i with
 |nil=>simp at e
 |cons h t ih=>
  cases i with
  |zero=>simp at e;subst e;exact⟨_,rfl,h⟩
  |succ i=>simpa using ih (by simpa using e)
def OnQ(G:Gp)(t:D)(pf:Addr)(init:List (List Int))(c:List Int)(i:Nat)(σ:DSt)(G':Gp):Prop:=∃v2 v3 a as,σ=[some t,some (.ref pf),v2,v3]∧Sub G G'∧G' pf=some (.lst ((as++[a]).map D.ref))∧DictsAt G' (a::as.reverse) (onL ((init++[c]).drop (init.length-i)))∧as.length=i
abbrev s_ways_onward:Stmt:=top 18
abbrev Ku:List Str:=["channel", "onward", "rows", "inward"]
abbrev p_ways_onward:List Str:=["channel"]
theorem sc_ways_onward:FnScope Ku p_ways_onward (Ad s_ways_onward):=⟨rfl,rfl,rfl,by decide +kernel,rfl,by decide +kernel,by decide +kernel⟩
theorem nd_ways_onward_1:((["row"]:List Str)++(["channel", "onward", "rows", "inward"]:List Str)).Nodup:=by decide +kernel
theorem nd_ways_onward_2:((["row"]:List Str)++(["channel", "onward", "rows", "inward"]:List Str)).Nodup:=by decide +kernel
theorem Gw:((["other"]:List Str)++(["row", "channel", "onward", "rows", "inward"]:List Str)).Nodup:=by decide +kernel
def spOnward:DSp:=fun ds G Q _=>∃cs,ds=[chD cs]∧ChanN cs∧∀p as G',Sub G G'→G' p=some (.lst (as.map D.ref))→DictsAt G' as (onL cs)→Q (.ref p) G'
theorem Te{f:Addr}{fd:FuncData}(F:Fun K "ways_onward" "ways_onward" s_ways_onward f fd)(T:Nums mg)(Agk:Def P w K mg base CX0 1 "rows_near" p_rows_near spNear):FnOk P w K mg base CX0 2 f fd p_ways_onward (Al K spOnward):=by
 refine okD F sc_ways_onward (fun ds G Q E h=>?_) (fun cdv A outer s H XE ds G Q E hr h=>?_)
 ·obtain⟨cs,rfl,_⟩:=h;rfl
 ·obtain⟨cs,rfl,ok,k⟩:=h
  refine⟨_,(@qss_cons _ _ _ _ _ (@qs_set _ _ _ _ 1 _ _ sc_ways_onward.nd (@Dh _ _ _ _ (@qa_consP _ _ _ _ _ (@q_dcomp _ _ _ _ _ _ _ _ _ _ _ _ _ ["row"] ["channel", "onward", "rows", "inward"] rfl (@compOz _ _ _ _ (by rfl) (by rfl) (by rfl) (by rfl) (by rfl)) (@q_ix _ _ _ _ _ _ (@q_v1 _ _ 0 _ (by exact⟨rfl,rfl,rfl,rfl⟩)) (@q_neg _ _ _ _ (@q_int _ _ _ _)) (by intro _ _ ;rfl)) (fun _ _ _=>(@qg_name _ _ 0 _ nd_ways_onward_1 (by rfl) (by exact .inl rfl) (by exact .inr rfl))) (fun _ _ _=>(@qf_nil _)) (fun _ _ _=>(@q_v1 _ _ 0 _ (by exact⟨rfl,rfl,rfl,rfl⟩))) (fun _ _ _=>(@q_int _ _ _ _)) (by intro _ ;rfl)) (@qa_nil _) (by rfl))) (by rfl) (by exact .inl rfl) (by rfl) (by exact .inl rfl)) (@qss_cons _ _ _ _ _ (@qs_forV _ _ _ _ _ _ _ _ _ _ PassesOwn.never rfl (T.blt (by decide)) (@qa_consP _ _ _ _ _ (@q_slice _ _ _ _ _ _ _ _ _ (@q_v1 _ _ 0 _ (by exact⟨rfl,rfl,rfl,rfl⟩)) (@qo_none _) (@qo_some _ _ _ (@q_neg _ _ _ _ (@q_int _ _ _ _)))) (@qa_nil _) (by rfl)) (@qg_name _ _ 2 _ sc_ways_onward.nd (by rfl) (by exact .inl rfl) (by exact .inl rfl)) (@qss_cons _ _ _ _ _ (@qs_set _ _ _ _ 3 _ _ sc_ways_onward.nd (@q_ix _ _ _ _ _ _ (@q_v1 _ _ 1 _ (by exact⟨rfl,rfl,rfl,rfl⟩)) (@q_neg _ _ _ _ (@q_int _ _ _ _)) (by intro _ _ ;rfl)) (by rfl) (by exact .inr rfl) (by rfl) (by exact .inl rfl)) (@qss_one _ _ _ (@qs_expr _ _ _ _ (@q_app _ _ _ _ _ _ _ (@q_v1 _ _ 1 _ (by exact⟨rfl,rfl,rfl,rfl⟩)) (@q_dcomp _ _ _ _ _ _ _ _ _ _ _ _ _ ["row"] ["channel", "onward", "rows", "inward"] rfl (@compOz _ _ _ _ (by rfl) (by rfl) (by rfl) (by rfl) (by rfl)) (@q_v1 _ _ 2 _ (by exact⟨rfl,rfl,rfl,rfl⟩)) (fun _ _ _=>(@qg_name _ _ 0 _ nd_ways_onward_2 (by rfl) (by exact .inl rfl) (by exact .inr rfl))) (fun _ _ _=>(@qf_nil _)) (fun _ _ _=>(@q_v1 _ _ 0 _ (by exact⟨rfl,rfl,rfl,rfl⟩))) (fun _ _ _=>(@q_callB _ _ _ _ _ _ _ _ _ (@c_sumL _ rfl) (T.blt (by decide)) (by decide +kernel) (@qa_consP _ _ _ _ _ (@q_compz _ _ _ _ _ _ _ _ _ _ _ ["other"] ["row", "channel", "onward", "rows", "inward"] rfl (@compOz _ _ _ _ (by rfl) (by rfl) (by rfl) (by rfl) (by rfl)) (@q_call _ _ _ _ _ _ _ _ noX _ _ _ Agk (hr.mono (by decide)) (@passN _ _) (@qa_consP _ _ _ _ _ (@q_callTy _ _ _ _ _ _ _ _ _ (@Sg _ rfl) (T.blt (by decide)) (by decide +kernel) (@qa_consP _ _ _ _ _ (@q_v2 _ _ 4 _ (by exact⟨rfl,rfl,rfl,rfl⟩)) (@qa_nil _) (by rfl)) (by rfl) (by decide) (by decide) (by rfl) (by rfl)) (@qa_consP _ _ _ _ _ (@q_v1 _ _ 0 _ (by exact⟨rfl,rfl,rfl,rfl⟩)) (@qa_nil _) (by rfl)) (by rfl)) (by rfl) (by decide) (by rfl) (by rfl)) (fun _ _ _=>(@qg_name _ _ 0 _ Gw (by rfl) (by exact .inl rfl) (by exact .inr rfl))) (fun _ _ _=>(@qf_nil _)) (fun _ _ _=>(@Ig _ _ _ _ _ _ (@q_v2 _ _ 5 _ (by exact⟨rfl,rfl,rfl,rfl⟩)) (@q_v1 _ _ 0 _ (by exact⟨rfl,rfl,rfl,rfl⟩)) (by intro _ _ ;rfl))) (by intro _ ;rfl)) (@qa_nil _) (by rfl)) (by rfl) (by decide) (by decide) (by rfl) (by rfl))) (by intro _ ;rfl)) (by rfl) (by rfl) (by rfl) (by rfl) (by rfl)) (by rfl)))) (by rfl) (by rfl) (by intro _ ;rfl)) (@qss_cons _ _ _ _ _ (@qs_expr _ _ _ _ (@Vk _ _ _ _ _ (@q_v1 _ _ 1 _ (by exact⟨rfl,rfl,rfl,rfl⟩)) (by rfl) (by rfl)) (by rfl)) (@qss_one _ _ _ (@qs_ret _ _ _ _ (@q_v1 _ _ 1 _ (by exact⟨rfl,rfl,rfl,rfl⟩))))))),?_⟩
  have ne:cs≠[]:=fun e=>by have:=ok.lo;rw[e] at this;simp at this
  obtain⟨init,c,rfl⟩:=Bw ne
  have ndc:∀d∈init++[c],d.Nodup:=fun d hd=>(ok.up d hd).imp fun {a b} z e=>by omega
  have lnc:=ok.len
  have e1:B5 G (chD (init++[c])) (-1)=some (Ae c):=by
   show atI ((init++[c]).map Ae) (-1)=_
   rw[List.map_append];exact Cl _ _
  have e2:Dq ((init++[c]).map Ae) none (some (-1))=init.map Ae:=by rw[F3];simp
  have sml:∀{n:Nat},n≤100→n<sizeLine:=fun h=>Nat.lt_of_le_of_lt h (Bv (by decide))
  simp only[Bk,Cg,Ez,Ag,Ma,nOp,Ai,An,List.map_cons,List.map_nil,List.length_cons,List.length_nil,Nat.zero_add,Nat.reduceAdd,Nat.reduceSub,List.replicate,List.cons_append,List.nil_append,List.getElem?_cons_zero,Option.some.injEq,Ey,nC,D.int.injEq,dIx,As,Ao,U1,nSl,List.set_cons_succ,List.set_cons_zero,B7,D8,List.cons.injEq,and_true,exists_eq_left',Int.reduceNeg,e1]
  refine⟨c.map D.int,rfl,fun p hp=>Jf (fun _=>1) (ndc c (by simp)) hp (sml (by have:=lnc c (by simp);omega)) (fun _ _=>rfl) (fun i _ G' sb R h=>h G' (Sub.refl _)) fun G1 sb e=>?_⟩
  refine⟨szl (by decide),fun pf hf=>?_⟩
  have f1:Ac G1 pf (.lst [.ref p]) pf=some (.lst (([]++[p]).map D.ref)):=Aa
  have g1:=Bj (u:=.lst [.ref p]) e hf
  have fz:=sb.none hf
  have sb1:Sub G (Ac G1 pf (.lst [.ref p])):=sb.skip hf
  generalize Ac G1 pf (.lst [.ref p])=G2 at *
  unfold chD
  rw[Cj,e2]
  refine⟨init.map Ae,rfl,?_⟩
  have hil:init.length≤16:=by have:=ok.hi;simp at this;omega
  have d0:DictsAt G2 (p::[].reverse) (onL ((init++[c]).drop (init.length-0))):=by
   rw[Nat.sub_zero,List.drop_left]
   exact .cons (by simpa[Ab] using g1) .nil
  refine Bh (OnQ G (.tup ((init++[c]).map Ae)) pf init c) ⟨none,none,p,[],rfl,sb1,f1,d0,rfl⟩ (fun _ _ _ _ _=>trivial) ?_ ?_
  ·rintro i x σ G3 hx ⟨v2,v3,a,as,rfl,s3,f3,d3,hlen⟩
   have hi:i<init.length:=by
    rcases Nat.lt_or_ge i init.length with z|z
    ·exact z
    ·rw[List.getElem?_eq_none (by simpa using z)] at hx;cases hx
   rw[←List.map_reverse,List.getElem?_map,List.getElem?_reverse hi] at hx
   obtain⟨b,hb,rfl⟩:=Option.map_eq_some_iff.mp hx
   have hbm:b∈init++[c]:=List.mem_append_left _ (List.mem_of_getElem? hb)
   have hdr:(init++[c]).drop (init.length-(i+1))=b::(init++[c]).drop (init.length-i):=by
    have e:=List.drop_eq_getElem_cons (l:=init++[c]) (i:=init.length-(i+1)) (by simp;omega)
    rw[e,show init.length-(i+1)+1=init.length-i by omega]
    congr 1
    rw[List.getElem_append_left (by omega)]
    have:init[init.length-1-i]? = some init[init.length-(i+1)]:=by rw[show init.length-1-i=init.length-(i+1) by omega,List.getElem?_eq_getElem]
    rw[hb] at this;exact(Option.some.inj this).symm
   obtain⟨c1,rest,hc1⟩:∃c1 rest,(init++[c]).drop (init.length-i)=c1::rest:=by
    cases h:(init++[c]).drop (init.length-i) with
    |nil=>have:=congrArg List.length h;simp at this;omega
    |cons c1 rest=>exact⟨c1,rest,rfl⟩
   rw[hc1] at d3
   have hc1m:c1∈init++[c]:=List.mem_of_mem_drop (by rw[hc1];exact List.mem_cons_self ..)
   have g3:G3 a=some (.dkk (Bg (c1.map fun r=>(r,((Ab (some r) rest).length:Int))))):=by cases d3 with|cons h _=>exact h
   have e3:B5 G3 (.ref pf) (-1)=some (.ref a):=by rw[Be f3,List.map_append];exact Cl _ _
   simp only[Ao,Bk,Cg,nOp,Ai,List.set_cons_succ,List.set_cons_zero,List.getElem?_cons_succ,List.getElem?_cons_zero,Option.some.injEq,Ey,nC,D.int.injEq,dIx,C4,Nk,Ma,exists_eq_left',D.ref.injEq,f3,GO.lst.injEq,Int.reduceNeg,e3]
   refine⟨⟨_,rfl⟩,b.map D.int,rfl,fun p2 hp2=>Jf (fun r=>((Ab (some r) (c1::rest)).length:Int)) (ndc b hbm) hp2 (sml (by have:=lnc b hbm;omega)) (fun _ _=>rfl) (fun j hj G4 s4 R h=>?_) fun G4 s4 e4=>?_⟩
   ·have g4:=s4 _ _ g3
    simp only[nCB,Ag,Ci,A0,Ai,List.getElem?_cons_succ,List.getElem?_cons_zero,Option.some.injEq,As,List.cons.injEq,and_true,exists_eq_left',D.ref.injEq,g4]
    refine⟨_,rfl,fun l hl=>?_⟩
    rw[Lq,Ei]
    have f5:Ac G4 l (.lst (c1.map D.int)) l=some (.lst (c1.map D.int)):=Aa
    have s5:Sub G4 (Ac G4 l (.lst (c1.map D.int))):=Sub.new hl
    generalize Ac G4 l (.lst (c1.map D.int))=G5 at *
    refine⟨.ref l,c1,j,rfl,Ah f5,sml (by have:=lnc c1 hc1m;omega),fun m hm=>?_⟩
    have f6:Ac G5 m (.lst ((c1.filter (Az j)).map D.int)) m=some (.lst ((c1.filter (Az j)).map D.int)):=Aa
    have s6:Sub G4 (Ac G5 m (.lst ((c1.filter (Az j)).map D.int))):=s5.skip hm
    generalize Ac G5 m (.lst ((c1.filter (Az j)).map D.int))=G6 at *
    have mem:∀i∈c1.filter (Az j),i∈c1:=fun i hi=>(List.mem_filter.mp hi).1
    have lq:(c1.filter (Az j)).length≤100:=Nat.le_trans (List.length_filter_le _ _) (by have:=lnc c1 hc1m;omega)
    have hsum:=O3 (some j) c1 rest
    have hsum:((Ab (some j) (c1::rest)).length:Int)=((c1.filter (Az j)).map fun y=>((Ab (some y) rest).length:Int)).sum:=hsum
    rw[hsum] at h
    generalize c1.filter (Az j)=ks at *
    refine⟨ks.map D.int,Ah f6,fun p3 hp3=>?_⟩
    have g6:=s6 _ _ g4
    refine B2 (fun x=>.int ((Ab (some (Bb x)) rest).length:Int)) (fun _=>true) (by simpa using sml lq) (fun ys=>Ah (Bj f6 hp3)) (by decide) (fun x ys hx hl R1 R2 g1 _=>?_) ?_
    ·obtain⟨i,hi,rfl⟩:=List.mem_map.mp hx
     have ga:Ac G6 p3 (.lst ys) a=some (.dkk (Bg (c1.map fun r=>(r,((Ab (some r) rest).length:Int))))):=Bj g6 hp3
     simp only[C3,Nu,Ai,List.replicate,List.cons_append,List.nil_append,List.set_cons_zero,List.getElem?_cons_succ,List.getElem?_cons_zero,Option.some.injEq,Kh,Aa,hl,Av,true_and,exists_eq_left',D.ref.injEq,ga,if_true]
     refine⟨_,rfl,_,Np (by rw[Ei];exact mem i hi),?_⟩
     rw[L6 (mem i hi)]
     exact Fg.of (g1 rfl)
    ·refine⟨p3,rfl,ks.map fun y=>((Ab (some y) rest).length:Int),by rw[Aa,Bt,List.map_map,List.map_map];rfl,h _ (s6.skip hp3)⟩
   ·have f4:=s4 _ _ f3
    refine⟨_,f4,by simp;exact sml (by omega),Fs.of ⟨_,_,p2,as++[a],rfl,fun b o eb=>?_,?_,?_,by simp[hlen]⟩⟩
    ·have nb:b≠pf:=fun z=>by rw[z,fz] at eb;cases eb
     rw[Af nb];exact s4 _ _ (s3 b o eb)
    ·rw[Aa];simp
    ·rw[hdr,hc1,List.reverse_append,onL]
     refine .cons ?_ (DictsAt.put f4 (fun ps z=>by cases z) (d3.sub s4))
     have n2:p2≠pf:=fun z=>by rw[z] at hp2;rw[f3] at hp2;cases hp2
     rw[Af n2];exact e4
  ·rintro σ G3 ⟨v2,v3,a,as,rfl,s3,f3,d3,hlen⟩
   simp only[Bk,C4,Uz,Ai,List.getElem?_cons_succ,List.getElem?_cons_zero,Option.some.injEq,Bc,exists_eq_left',D.ref.injEq,f3,GO.lst.injEq]
   rw[List.length_reverse,List.length_map,Nat.sub_self,List.drop_zero] at d3
   refine Fq.of (k pf (a::as.reverse) _ (fun b o eb=>?_) (by rw[Aa];simp) (DictsAt.put f3 (fun ps z=>by cases z) d3))
   have nb:b≠pf:=fun z=>by rw[z,fz] at eb;cases eb
   rw[Af nb];exact s3 b o eb
end
end K2
namespace K2
open PySem L2 D3
section
variable{P:Program}{w:World}{K:W.Frag}{mg:Str→Option Value}{base:Heap}
theorem Me{cs:List (List Int)}(ok:ChanN cs):SzT (chD cs):=Kx (by have:=ok.hi;omega) fun c hc=>by have:=ok.len c hc;omega
theorem ChanN.head{cs:List (List Int)}(ok:ChanN cs):∃c r,cs=c::r∧r≠[]:=by
 cases cs with
 |nil=>have:=ok.lo;simp at this
 |cons c r=>exact⟨c,r,rfl,fun z=>by have:=ok.lo;rw[z] at this;simp at this⟩
theorem Ea{n:Nat}(h:n<20000):n<sizeLine:=by rw[sizeLine_eq];omega
abbrev s_many_ways:Stmt:=top 20
abbrev Pm:List Str:=["channel"]
abbrev p_many_ways:List Str:=["channel"]
theorem M3:FnScope Pm p_many_ways (Ad s_many_ways):=⟨rfl,rfl,rfl,by decide +kernel,rfl,by decide +kernel,by decide +kernel⟩
def spMany:DSp:=fun ds G Q _=>∃cs,ds=[chD cs]∧ChanN cs∧Q (.int ((Ab none cs).length:Int)) G
theorem Aab{f:Addr}{fd:FuncData}(F:Fun K "many_ways" "many_ways" s_many_ways f fd)(T:Nums mg)(Agi:Def P w K mg base CX0 5 "check_channel" p_check_channel spCheckC)(Agm:Def P w K mg base CX0 2 "ways_onward" p_ways_onward spOnward):FnOk P w K mg base CX0 6 f fd p_many_ways (Al K spMany):=by
 refine okD F M3 (fun ds G Q E h=>?_) (fun cdv A outer s H XE ds G Q E hr h=>?_)
 ·obtain⟨cs,rfl,_⟩:=h;rfl
 ·obtain⟨cs,rfl,ok,k⟩:=h
  refine⟨_,(@qss_cons _ _ _ _ _ (@qs_expr _ _ _ _ (@q_call _ _ _ _ _ _ _ _ noX _ _ _ Agi (hr.mono (by decide)) (@passN _ _) (@qa_consP _ _ _ _ _ (@q_v1 _ _ 0 _ (by exact⟨rfl,rfl,rfl,rfl⟩)) (@qa_nil _) (by rfl)) (by rfl) (by decide) (by rfl) (by rfl)) (by rfl)) (@qss_one _ _ _ (@qs_ret _ _ _ _ (@Acb _ _ _ _ _ _ _ rfl (T.blt (by decide)) (@q_ix _ _ _ _ _ _ (@q_call _ _ _ _ _ _ _ _ noX _ _ _ Agm (hr.mono (by decide)) (@passN _ _) (@qa_consP _ _ _ _ _ (@q_v1 _ _ 0 _ (by exact⟨rfl,rfl,rfl,rfl⟩)) (@qa_nil _) (by rfl)) (by rfl) (by decide) (by rfl) (by rfl)) (@q_int _ _ _ _) (by intro _ _ ;rfl)) (by rfl) (by rfl) (by rfl) (by rfl) (by rfl))))),?_⟩
  simp only[Bk,C4,A0,Ag,Ai,An,List.map_cons,List.map_nil,List.length_cons,List.length_nil,Nat.zero_add,Nat.reduceSub,List.replicate,List.cons_append,List.nil_append,List.getElem?_cons_zero,Option.some.injEq,As,Bc,Abd,nOp,nC,dIx,D.int.injEq,exists_eq_left']
  refine⟨_,rfl,Fm,Me ok,ok.chan,cs,rfl,ok,fun p as G1 sb hp d=>?_⟩
  obtain⟨c,r,rfl,_⟩:=ok.head
  rw[onL] at d
  cases d with
  |cons h t=>
   rename_i a as
   refine⟨_,by rw[Be hp,List.map_cons];exact Sk,a,rfl,_,h,c.map fun r'=>((Ab (some r') r).length:Int),by simp only[Bg,List.map_map];rfl,⟨G,sb,?_⟩⟩
   have e:=O3 none c r
   have e2:c.filter (okp none)=c:=List.filter_eq_self.mpr fun _ _=>rfl
   rw[e2] at e
   rw[←e];exact k
abbrev s_row_at:Stmt:=top 21
abbrev Yd:List Str:=["onward", "rows", "place", "at", "left"]
abbrev Dv:List Str:=["onward", "rows", "place"]
theorem sc_row_at:FnScope Yd Dv (Ad s_row_at):=⟨rfl,rfl,rfl,by decide +kernel,rfl,by decide +kernel,by decide +kernel⟩
def Mf:DSp:=fun ds G Q _=>∃(a:Addr) (d:D) (ps:List (Int×Int)) (ns:List Int) (k:Nat) (r:Int) (j:Nat),ds=[.ref a,d,.int k]∧G a=some (.dkk (Bg ps))∧Aq G d=some (ns.map D.int)∧(∀x∈ns,x∈ps.map (·.1))∧(∀x∈ns,0≤vI ps x)∧C2 (fun r=>(vI ps r).toNat) ns k=some (r,j)∧Q (.tup [.int r,.int j]) G
theorem Xt{G:Gp}{d:D}{ns:List Int}(h:Aq G d=some (ns.map D.int)){i:Nat}{x:Int}(e:ns[i]? = some x):B5 G d (i:Int)=some (.int x):=by
 have hd:(ns.map D.int)[i]? = some (.int x):=by rw[List.getElem?_map,e];rfl
 cases d with
 |tup ds=>simp only[Aq,Option.some.injEq] at h;subst h;exact C5 hd
 |ref a=>
  simp only[Aq] at h
  split at h
  ·rename_i ds g;cases h;rw[Be g];exact C5 hd
  ·cases h
 |lint ms=>simp only[Aq,Option.some.injEq] at h;rw[Lo,h];exact C5 hd
 |_=>cases h
theorem Xb{f:Addr}{fd:FuncData}(F:Fun K "row_at" "row_at" s_row_at f fd)(T:Nums mg):FnOk P w K mg base CX0 1 f fd Dv (Al K Mf):=by
 refine okD F sc_row_at (fun ds G Q E h=>?_) (fun cdv A outer s H XE ds G Q E hr h=>?_)
 ·obtain⟨_,_,_,_,_,_,_,rfl,_⟩:=h;rfl
 ·obtain⟨a,d,ps,ns,k,r,j,rfl,ha,hi,hk,hv,hp,q⟩:=h
  refine⟨_,(@qss_cons _ _ _ _ _ (@qs_set _ _ _ _ 3 _ _ sc_row_at.nd (@q_int _ _ _ _) (by rfl) (by exact .inl rfl) (by rfl) (by exact .inl rfl)) (@qss_cons _ _ _ _ _ (@qs_set _ _ _ _ 4 _ _ sc_row_at.nd (@q_v1 _ _ 2 _ (by exact⟨rfl,rfl,rfl,rfl⟩)) (by rfl) (by exact .inl rfl) (by rfl) (by exact .inl rfl)) (@qss_cons _ _ _ _ _ (@Wp _ _ _ _ _ _ PassesOwn.never (@qt_cmp _ _ _ _ _ _ _ _ (@o_ge _) (@q_v1 _ _ 4 _ (by exact⟨rfl,rfl,rfl,rfl⟩)) (@Ig _ _ _ _ _ _ (@q_v1 _ _ 0 _ (by exact⟨rfl,rfl,rfl,rfl⟩)) (@q_ix _ _ _ _ _ _ (@q_v1 _ _ 1 _ (by exact⟨rfl,rfl,rfl,rfl⟩)) (@q_v1 _ _ 3 _ (by exact⟨rfl,rfl,rfl,rfl⟩)) (by intro _ _ ;rfl)) (by intro _ _ ;rfl)) (nomark _)) (@qss_cons _ _ _ _ _ (@Vj _ _ _ _ 4 _ _ _ _ sc_row_at.nd (@Ads _) (@Ig _ _ _ _ _ _ (@q_v1 _ _ 0 _ (by exact⟨rfl,rfl,rfl,rfl⟩)) (@q_ix _ _ _ _ _ _ (@q_v1 _ _ 1 _ (by exact⟨rfl,rfl,rfl,rfl⟩)) (@q_v1 _ _ 3 _ (by exact⟨rfl,rfl,rfl,rfl⟩)) (by intro _ _ ;rfl)) (by intro _ _ ;rfl)) (by rfl) (by exact .inl rfl) (by exact .inl rfl)) (@qss_one _ _ _ (@Vj _ _ _ _ 3 _ _ _ _ sc_row_at.nd (@Adt _) (@q_int _ _ _ _) (by rfl) (by exact .inl rfl) (by exact .inl rfl))))) (@qss_one _ _ _ (@qs_ret _ _ _ _ (@Cp _ _ _ _ _ (@qa_consP _ _ _ _ _ (@q_ix _ _ _ _ _ _ (@q_v1 _ _ 1 _ (by exact⟨rfl,rfl,rfl,rfl⟩)) (@q_v1 _ _ 3 _ (by exact⟨rfl,rfl,rfl,rfl⟩)) (by intro _ _ ;rfl)) (@qa_consP _ _ _ _ _ (@q_v1 _ _ 4 _ (by exact⟨rfl,rfl,rfl,rfl⟩)) (@qa_nil _) (by rfl)) (by rfl)))))))),?_⟩
  simp only[Bk,Cg,nC,Ao,Ai,An,List.map_cons,List.map_nil,List.length_cons,List.length_nil,Nat.zero_add,Nat.reduceAdd,Nat.reduceSub,List.replicate,List.cons_append,List.nil_append,List.set_cons_succ,List.set_cons_zero,List.getElem?_cons_succ,List.getElem?_cons_zero,Option.some.injEq,exists_eq_left']
  refine⟨fun m σ G'=>∃(at' left:Nat),σ=[some (.ref a),some d,some (.int k),some (.int at'),some (.int left)]∧G'=G∧m=ns.length-at'∧C2 (fun r=>(vI ps r).toNat) (ns.drop at') left=some (r,j),⟨ns.length-0,0,k,rfl,rfl,rfl,hp⟩,?_⟩
  rintro m σ G' ⟨at',left,rfl,rfl,rfl,hq⟩
  cases hdr:ns.drop at' with
  |nil=>rw[hdr] at hq;simp[C2] at hq
  |cons x rest=>
   rw[hdr,C2] at hq
   have hx:ns[at']? = some x:=by
    have:=congrArg (fun l=>l[0]?) hdr
    simpa using this
   have hxm:x∈ns:=List.mem_of_getElem? hx
   have hrest:ns.drop (at'+1)=rest:=by
    have:=congrArg (List.drop 1) hdr
    simpa[List.drop_drop,Nat.add_comm] using this
   have hit:=Xt hi hx
   have hlt:=(List.getElem?_eq_some_iff.mp hx).1
   simp only[Bl,nOp,Ai,List.getElem?_cons_succ,List.getElem?_cons_zero,Option.some.injEq,Nu,dIx,Kh,dI0,D.bl.injEq,Bk,nAug,List.set_cons_succ,List.set_cons_zero,nC,D.int.injEq,exists_eq_left',hit,D.ref.injEq,ha,Bc,L0,Ag,As,List.length_cons,List.length_nil,Nat.zero_add,Nat.reduceAdd,decide_eq_true_eq]
   refine⟨_,rfl,_,Np (hk x hxm),_,rfl,?_⟩
   have h0:=hv x hxm
   by_cases hc:left<(vI ps x).toNat
   ·rw[if_pos hc] at hq
    cases hq
    exact it1 (by omega) ⟨szl (by decide),Fq.of q⟩
   ·rw[if_neg hc] at hq
    refine it0 (by omega) ?_
    refine⟨fun σ' G''=>∃left':Nat,σ'=[some (.ref a),some d,some (.int k),some (.int ((at'+1:Nat):Int)),some (.int left')]∧G''=G'∧C2 (fun r=>(vI ps r).toNat) (ns.drop (at'+1)) left'=some (r,j),fun σ' G'' ⟨left',e,eg,hp'⟩=>⟨ns.length-(at'+1),by omega,at'+1,left',e,eg,rfl,hp'⟩,_,rfl,_,Np (hk x hxm),_,rfl,Fs.of ⟨left-(vI ps x).toNat,?_,rfl,by rw[hrest];exact hq⟩⟩
    have e1:(left:Int)-vI ps x=((left-(vI ps x).toNat:Nat):Int):=by omega
    rw[e1];rfl
def K0(v:List Int):Option Int:=v.getLast?
theorem Sub.over{G0 G:Gp}(s:Sub G0 G){p:Addr}(h:G0 p=none)(o:GO):Sub G0 (Ac G p o):=fun a u e=>by rw[Af (gne e h)];exact s a u e
def WWi(cs:List (List Int))(t:D)(place:Nat)(q p:Addr)(as:List Addr)(G:Gp)(i:Nat)(σ:DSt)(G':Gp):Prop:=∃(v:List Int) (k:Nat) (v4 v5 v6 v7:Option D),σ=[some t,some (.int place),some (.ref q),some (.int k),v4,v5,v6,v7]∧Sub G G'∧G' q=some (.lst (v.map D.int))∧G' p=some (.lst (as.map D.ref))∧DictsAt G' as (onL cs)∧v.length=i∧
 k<(Ab (K0 v) (cs.drop i)).length∧(Ab none cs)[place]? = ((Ab (K0 v) (cs.drop i))[k]?).map (v ++ ·)
theorem Py:∀{xs ys:List D} {i:Nat} {z:D},(Bx [xs,ys])[i]? = some z→∃u v:D,xs[i]? = some u∧ys[i]? = some v∧z=.tup [u,v]
 |[],ys,i,z,h=>by obtain⟨u,v,_,hu,_⟩:=Dj (List.mem_of_getElem? h);cases hu
 |x::xs,[],i,z,h=>by obtain⟨u,v,_,_,hv⟩:=Dj (List.mem_of_getElem? h);cases hv
 |x::xs,y::ys,0,z,h=>by rw[Fx] at h;simp at h;exact⟨x,y,rfl,rfl,h.symm⟩
 |x::xs,y::ys,i+1,z,h=>by
  rw[Fx] at h
  obtain⟨u,v,h1,h2,h3⟩:=Py (xs:=xs) (ys:=ys) (i:=i) (by simpa using h)
  exact⟨u,v,by simpa using h1,by simpa using h2,h3⟩
theorem items2{G:Gp}{cs:List (List Int)}{p:Addr}{xs:List D}(h:G p=some (.lst xs)):Bd G [chD cs,.ref p]=some [cs.map Ae,xs]:=by
 simp only[Bd,chD,Aq,h]
theorem Jr{f g:Int→Nat}:∀{R:List Int} {k:Nat},(∀x∈R,f x=g x)→C2 f R k=C2 g R k
 |[],_,_=>rfl
 |r::R,k,h=>by
  rw[C2,C2,h r (by simp)]
  split
  ·rfl
  ·exact Jr fun x hx=>h x (by simp[hx])
theorem Mt(p:Option Int)(c:List Int)(cs:List (List Int)):(Ab p (c::cs)).length=((c.filter (okp p)).map fun y=>(Ab (some y) cs).length).sum:=by
 rw[Ab,List.length_flatMap]
 congr 1
 exact List.map_congr_left fun y _=>by simp
theorem Gq(v:List Int)(r:Int):K0 (v++[r])=some r:=by unfold K0;simp
theorem Aai{G:Gp}{q:Addr}{v c:List Int}{R:DK}(hq:G q=some (.lst (v.map D.int)))(hz:c.length<sizeLine)(h:∀d G2,Sub G G2→Aq G2 d=some ((c.filter (okp (K0 v))).map D.int)→R d G2) :
  if (!(v.map D.int).isEmpty)=true then ∃x,B5 G (.ref q) (-1)=some x∧spNear [Ae c,x] G R noX else R (Ae c) G:=by
 cases hv:v with
 |nil=>
  refine it1 (by simp) (h _ _ (Sub.refl _) ?_)
  have:c.filter (okp (K0 v))=c:=by rw[hv];exact List.filter_eq_self.mpr fun _ _=>rfl
  rw[this];rfl
 |cons y r=>
  obtain⟨u,l,e⟩:=Bw (xs:=v) (by rw[hv];simp)
  rw[←hv]
  refine it0 (by rw[hv];rfl) ⟨.int l,by rw[Be hq,e,List.map_append];exact Cl _ _,_,c,l,rfl,rfl,hz,fun m hm=>h _ _ (Sub.new hm) ?_⟩
  rw[e,Gq]
  exact Ah Aa
abbrev s_way_with:Stmt:=top 22
abbrev Q2:List Str:=["channel", "place", "way", "left", "rows", "onward", "choices", "row"]
abbrev Ca:List Str:=["channel", "place"]
theorem sc_way_with:FnScope Q2 Ca (Ad s_way_with):=⟨rfl,rfl,rfl,by decide +kernel,rfl,by decide +kernel,by decide +kernel⟩
def spWith:DSp:=fun ds G Q _=>∃cs k w,ds=[chD cs,.int ((k:Nat):Int)]∧ChanN cs∧(Ab none cs)[k]? = some w∧Q (Ae w) G
theorem Z6{f:Addr}{fd:FuncData}(F:Fun K "way_with" "way_with" s_way_with f fd)(T:Nums mg)(Agm:Def P w K mg base CX0 2 "ways_onward" p_ways_onward spOnward)(Agk:Def P w K mg base CX0 1 "rows_near" p_rows_near spNear)(Ag6:Def P w K mg base CX0 1 "row_at" Dv Mf):FnOk P w K mg base CX0 3 f fd Ca (Al K spWith):=by
 refine okD F sc_way_with (fun ds G Q E h=>?_) (fun cdv A outer s H XE ds G Q E hr h=>?_)
 ·obtain⟨_,_,_,rfl,_⟩:=h;rfl
 ·obtain⟨cs,place,w,rfl,ok,hw,k⟩:=h
  refine⟨_,(@qss_cons _ _ _ _ _ (@qs_set _ _ _ _ 2 _ _ sc_way_with.nd (@Dh _ _ _ _ (@qa_nil _)) (by rfl) (by exact .inl rfl) (by rfl) (by exact .inl rfl)) (@qss_cons _ _ _ _ _ (@qs_set _ _ _ _ 3 _ _ sc_way_with.nd (@q_v1 _ _ 1 _ (by exact⟨rfl,rfl,rfl,rfl⟩)) (by rfl) (by exact .inl rfl) (by rfl) (by exact .inl rfl)) (@qss_cons _ _ _ _ _ (@Of _ _ _ _ _ _ _ _ _ _ _ _ PassesOwn.never rfl (T.blt (by decide)) (@qa_consP _ _ _ _ _ (@q_v1 _ _ 0 _ (by exact⟨rfl,rfl,rfl,rfl⟩)) (@qa_consP _ _ _ _ _ (@q_call _ _ _ _ _ _ _ _ noX _ _ _ Agm (hr.mono (by decide)) (@passN _ _) (@qa_consP _ _ _ _ _ (@q_v1 _ _ 0 _ (by exact⟨rfl,rfl,rfl,rfl⟩)) (@qa_nil _) (by rfl)) (by rfl) (by decide) (by rfl) (by rfl)) (@qa_nil _) (by rfl)) (by rfl)) (@qg_tup _ _ _ _ _ 2 rfl (@qgs_cons _ _ _ _ _ (@qg_name _ _ 4 _ sc_way_with.nd (by rfl) (by exact .inl rfl) (by exact .inl rfl)) (@qgs_cons _ _ _ _ _ (@qg_name _ _ 5 _ sc_way_with.nd (by rfl) (by exact .inl rfl) (by exact .inl rfl)) (@qgs_nil _) (by rfl)) (by rfl)) (by rfl) (by rfl)) (@qss_cons _ _ _ _ _ (@qs_set _ _ _ _ 6 _ _ sc_way_with.nd (@Rn _ _ _ _ _ _ _ _ (@qt_tru _ _ _ (@q_v1 _ _ 2 _ (by exact⟨rfl,rfl,rfl,rfl⟩)) (by intro _ ;rfl)) (@q_call _ _ _ _ _ _ _ _ noX _ _ _ Agk (hr.mono (by decide)) (@passN _ _) (@qa_consP _ _ _ _ _ (@q_v1 _ _ 4 _ (by exact⟨rfl,rfl,rfl,rfl⟩)) (@qa_consP _ _ _ _ _ (@q_ix _ _ _ _ _ _ (@q_v1 _ _ 2 _ (by exact⟨rfl,rfl,rfl,rfl⟩)) (@q_neg _ _ _ _ (@q_int _ _ _ _)) (by intro _ _ ;rfl)) (@qa_nil _) (by rfl)) (by rfl)) (by rfl) (by decide) (by rfl) (by rfl)) (@q_v1 _ _ 4 _ (by exact⟨rfl,rfl,rfl,rfl⟩))) (by rfl) (by exact .inl rfl) (by rfl) (by exact .inl rfl)) (@qss_cons _ _ _ _ _ (@E5 _ _ _ _ _ _ (@q_call _ _ _ _ _ _ _ _ noX _ _ _ Ag6 (hr.mono (by decide)) (@passN _ _) (@qa_consP _ _ _ _ _ (@q_v1 _ _ 5 _ (by exact⟨rfl,rfl,rfl,rfl⟩)) (@qa_consP _ _ _ _ _ (@q_v1 _ _ 6 _ (by exact⟨rfl,rfl,rfl,rfl⟩)) (@qa_consP _ _ _ _ _ (@q_v1 _ _ 3 _ (by exact⟨rfl,rfl,rfl,rfl⟩)) (@qa_nil _) (by rfl)) (by rfl)) (by rfl)) (by rfl) (by decide) (by rfl) (by rfl)) (@qg_tup _ _ _ _ _ 2 rfl (@qgs_cons _ _ _ _ _ (@qg_name _ _ 7 _ sc_way_with.nd (by rfl) (by exact .inl rfl) (by exact .inl rfl)) (@qgs_cons _ _ _ _ _ (@qg_name _ _ 3 _ sc_way_with.nd (by rfl) (by exact .inl rfl) (by exact .inl rfl)) (@qgs_nil _) (by rfl)) (by rfl)) (by rfl) (by rfl)) (by rfl) (by rfl) (by rfl)) (@qss_one _ _ _ (@qs_expr _ _ _ _ (@q_app _ _ _ _ _ _ _ (@q_v1 _ _ 2 _ (by exact⟨rfl,rfl,rfl,rfl⟩)) (@q_v1 _ _ 7 _ (by exact⟨rfl,rfl,rfl,rfl⟩)) (by rfl) (by rfl) (by rfl) (by rfl) (by rfl)) (by rfl))))) (by rfl) (by rfl) (by rfl) (by intro _ ;rfl) _) (@qss_one _ _ _ (@qs_ret _ _ _ _ (@q_callTy _ _ _ _ _ _ _ _ _ (@c_tuple _) (T.blt (by decide)) (by decide +kernel) (@qa_consP _ _ _ _ _ (@q_v1 _ _ 2 _ (by exact⟨rfl,rfl,rfl,rfl⟩)) (@qa_nil _) (by rfl)) (by rfl) (by decide) (by decide) (by rfl) (by rfl))))))),?_⟩
  have sz0:0≤sizeLine:=Nat.zero_le _
  simp only[Bk,Cg,Ez,As,List.length_nil,sz0,Ao,Ai,An,List.map_cons,List.map_nil,List.length_cons,Nat.zero_add,Nat.reduceAdd,Nat.reduceSub,List.replicate,List.cons_append,List.nil_append,List.set_cons_succ,List.set_cons_zero,List.getElem?_cons_succ,List.getElem?_cons_zero,Option.some.injEq,Ky,Ag,A0,true_and,exists_eq_left']
  intro q hq
  refine⟨cs,rfl,ok,fun p as G1 sb hp d=>⟨_,items2 hp,?_⟩⟩
  have hz:∀c∈cs,c.length<sizeLine:=fun c hc=>Ea (by have:=ok.len c hc;omega)
  have has:as.length=cs.length:=by have:=Paired.length d;rw[Ml] at this;exact this
  have hq1:G1 q=some (.lst []):=sb _ _ Aa
  have npq:p≠q:=fun z=>by
   rw[z,hq1] at hp
   have:=ok.lo
   cases as with
   |nil=>simp at has;omega
   |cons _ _=>cases hp
  have sbG:Sub G G1:=(Sub.new hq).trans sb
  have hpl:place<(Ab none cs).length:=(List.getElem?_eq_some_iff.mp hw).1
  refine Bh (WWi cs (chD cs) place q p as G) ⟨[],place,none,none,none,none,rfl,sbG,hq1,hp,d,rfl,hpl,by show _=Option.map (fun x=>[]++x) (Ab none cs)[place]?;simp⟩ ?_ ?_ ?_
  ·rintro i σ G2 _ ⟨v,k',v4,v5,v6,v7,rfl,_,_,hp2,_⟩
   exact items2 hp2
  ·rintro i x σ G2 hx ⟨v,k',v4,v5,v6,v7,rfl,s2,hq2,hp2,d2,hvl,hkl,hway⟩
   obtain⟨u1,u2,e1,e2,rfl⟩:=Py hx
   rw[List.getElem?_map] at e1 e2
   obtain⟨c,hc,rfl⟩:=Option.map_eq_some_iff.mp e1
   obtain⟨a,ha,rfl⟩:=Option.map_eq_some_iff.mp e2
   have hcm:c∈cs:=List.mem_of_getElem? hc
   have hil:=(List.getElem?_eq_some_iff.mp hc).1
   have hdr:cs.drop i=c::cs.drop (i+1):=by
    rw[List.drop_eq_getElem_cons hil]
    congr 1
    exact(List.getElem?_eq_some_iff.mp hc).2
   rw[hdr] at hkl hway
   obtain⟨a',ha',hd'⟩:=d2.get (Mm hc)
   rw[ha] at ha';cases ha'
   have te:Kg G2 (.ref q)=some (!(v.map D.int).isEmpty):=Rb hq2
   simp only[Gc,D.tup.injEq,Dr,Ao,Gd,Bk,Cg,nIf,D4,Ai,List.set_cons_succ,List.set_cons_zero,List.getElem?_cons_succ,List.getElem?_cons_zero,Option.some.injEq,A0,Ag,nOp,Ey,nC,D.int.injEq,dIx,As,C4,Nk,exists_eq_left',D.ref.injEq,Int.reduceNeg,te,List.length_cons,List.length_nil,Nat.zero_add,Nat.reduceAdd,List.cons.injEq,and_assoc,exists_and_left,true_and]
   refine Aai hq2 (hz c hcm) fun dd G3 s3 hi3=>?_
   rw[Mt] at hkl
   obtain⟨r,j,hpk,hrm,hj⟩:=Lg hkl
   have hrc:r∈c:=(List.mem_filter.mp hrm).1
   have keys:(c.map fun r=>(r,((Ab (some r) (cs.drop (i+1))).length:Int))).map (·.1)=c:=Ei
   refine⟨a,dd,_,_,k',r,j,rfl,s3 _ _ hd',hi3,fun x hx=>by rw[keys];exact(List.mem_filter.mp hx).1,fun x hx=>by rw[L6 (List.mem_filter.mp hx).1];omega,?_,?_⟩
   ·rw[←hpk]
    exact Jr fun x hx=>by rw[L6 (List.mem_filter.mp hx).1];omega
   ·have hq3:=s3 _ _ hq2
    refine⟨_,rfl,rfl,_,_,rfl,_,_,rfl,rfl,⟨_,hq3⟩,_,hq3,by rw[List.length_map];exact Ea (by have:=ok.hi;omega),Fs.of ⟨v++[r],j,_,_,_,_,rfl,Sub.over (s2.trans s3) hq _,by rw[Aa,List.map_append];rfl,by rw[Af npq];exact s3 _ _ hp2,DictsAt.put hq3 (fun ps z=>by cases z) (d2.sub s3),by rw[List.length_append,hvl];rfl,by rw[Gq];exact hj,?_⟩⟩
    rw[hway,V9 hpk,Gq,Option.map_map]
    congr 1
    funext z
    simp
  ·rintro σ G2 ⟨v,k',v4,v5,v6,v7,rfl,s2,hq2,hp2,d2,hvl,hkl,hway⟩
   have hn:(Bx [cs.map Ae,as.map D.ref]).length=cs.length:=by rw[B6];simp[Cq,has]
   rw[hn,List.drop_of_length_le (Nat.le_refl _)] at hkl hway
   rw[Ab,List.length_singleton] at hkl
   have hk0:k'=0:=by omega
   subst hk0
   rw[Ab,hw] at hway
   have ew:w=v:=by simpa using hway
   subst ew
   simp only[Bc,nCB,Ag,Ai,List.getElem?_cons_succ,List.getElem?_cons_zero,Option.some.injEq,As,List.cons.injEq,and_true,exists_eq_left',Ah hq2]
   exact⟨G,s2,k⟩
abbrev s_way_at:Stmt:=top 23
abbrev Yc:List Str:=["channel", "place"]
abbrev p_way_at:List Str:=["channel", "place"]
theorem Sz:FnScope Yc p_way_at (Ad s_way_at):=⟨rfl,rfl,rfl,by decide +kernel,rfl,by decide +kernel,by decide +kernel⟩
theorem ok_at{f:Addr}{fd:FuncData}(F:Fun K "way_at" "way_at" s_way_at f fd)(T:Nums mg)(Agh:Def P w K mg base CX0 6 "many_ways" p_many_ways spMany)(Agl:Def P w K mg base CX0 1 "is_whole_within" p_is_whole_within spWhole)(Ags:Def P w K mg base CX0 3 "way_with" Ca spWith):FnOk P w K mg base CX0 7 f fd p_way_at (Al K spWith):=by
 refine okD F Sz (fun ds G Q E h=>?_) (fun cdv A outer s H XE ds G Q E hr h=>?_)
 ·obtain⟨_,_,_,rfl,_⟩:=h;rfl
 ·obtain⟨cs,place,w,rfl,ok,hw,k⟩:=h
  refine⟨_,(@qss_cons _ _ _ _ _ (@qs_if _ _ _ _ _ _ _ _ (@qt_not _ _ _ _ (@qt_tru _ _ _ (@q_call _ _ _ _ _ _ _ _ noX _ _ _ Agl (hr.mono (by decide)) (@passN _ _) (@qa_consP _ _ _ _ _ (@q_v1 _ _ 1 _ (by exact⟨rfl,rfl,rfl,rfl⟩)) (@qa_consP _ _ _ _ _ (@q_int _ _ _ _) (@qa_consP _ _ _ _ _ (@A9 _ _ _ _ _ _ _ _ (@Hz _) (@q_call _ _ _ _ _ _ _ _ noX _ _ _ Agh (hr.mono (by decide)) (@passN _ _) (@qa_consP _ _ _ _ _ (@q_v1 _ _ 0 _ (by exact⟨rfl,rfl,rfl,rfl⟩)) (@qa_nil _) (by rfl)) (by rfl) (by decide) (by rfl) (by rfl)) (@q_int _ _ _ _)) (@qa_nil _) (by rfl)) (by rfl)) (by rfl)) (by rfl) (by decide) (by rfl) (by rfl)) (by intro _ ;rfl))) (@qss_one _ _ _ (@Oe _ _)) (@qss_nil _)) (@qss_one _ _ _ (@qs_ret _ _ _ _ (@q_call _ _ _ _ _ _ _ _ noX _ _ _ Ags (hr.mono (by decide)) (@passN _ _) (@qa_consP _ _ _ _ _ (@q_v1 _ _ 0 _ (by exact⟨rfl,rfl,rfl,rfl⟩)) (@qa_consP _ _ _ _ _ (@q_v1 _ _ 1 _ (by exact⟨rfl,rfl,rfl,rfl⟩)) (@qa_nil _) (by rfl)) (by rfl)) (by rfl) (by decide) (by rfl) (by rfl))))),?_⟩
  have hpl:place<(Ab none cs).length:=(List.getElem?_eq_some_iff.mp hw).1
  simp only[Bk,C1,Ex,D4,A0,Ag,Ai,An,List.map_cons,List.map_nil,List.length_cons,List.length_nil,Nat.zero_add,Nat.reduceAdd,Nat.reduceSub,List.replicate,List.cons_append,List.nil_append,List.getElem?_cons_succ,List.getElem?_cons_zero,Option.some.injEq,nC,nOp,As,dI0,D.int.injEq,Bm,Bc,exists_eq_left']
  refine⟨cs,rfl,ok,?_⟩
  refine⟨_,rfl,_,_,_,rfl,⟨_,rfl⟩,_,rfl,it1 ?_ ⟨cs,place,w,rfl,ok,hw,Fq.of k⟩⟩
  simp only[Bn]
  rw[decide_eq_true (by omega),decide_eq_true (by omega)];decide
abbrev s_least_way:Stmt:=top 24
abbrev Pn:List Str:=["channel"]
abbrev p_least_way:List Str:=["channel"]
theorem M4:FnScope Pn p_least_way (Ad s_least_way):=⟨rfl,rfl,rfl,by decide +kernel,rfl,by decide +kernel,by decide +kernel⟩
def Dn(cs:List (List Int)):D:=match Ab none cs with
 |[]=>.non
 |w::_=>Ae w
def spLeast:DSp:=fun ds G Q _=>∃cs,ds=[chD cs]∧ChanN cs∧Q (Dn cs) G
theorem Xd{f:Addr}{fd:FuncData}(F:Fun K "least_way" "least_way" s_least_way f fd)(T:Nums mg)(Agh:Def P w K mg base CX0 6 "many_ways" p_many_ways spMany)(Ags:Def P w K mg base CX0 3 "way_with" Ca spWith):FnOk P w K mg base CX0 7 f fd p_least_way (Al K spLeast):=by
 refine okD F M4 (fun ds G Q E h=>?_) (fun cdv A outer s H XE ds G Q E hr h=>?_)
 ·obtain⟨_,rfl,_⟩:=h;rfl
 ·obtain⟨cs,rfl,ok,k⟩:=h
  refine⟨_,(@qss_cons _ _ _ _ _ (@qs_if _ _ _ _ _ _ _ _ (@qt_cmp _ _ _ _ _ _ _ _ (@Nj _) (@q_call _ _ _ _ _ _ _ _ noX _ _ _ Agh (hr.mono (by decide)) (@passN _ _) (@qa_consP _ _ _ _ _ (@q_v1 _ _ 0 _ (by exact⟨rfl,rfl,rfl,rfl⟩)) (@qa_nil _) (by rfl)) (by rfl) (by decide) (by rfl) (by rfl)) (@q_int _ _ _ _) (nomark _)) (@qss_one _ _ _ (@qs_ret _ _ _ _ (@q_non _ _ _))) (@qss_nil _)) (@qss_one _ _ _ (@qs_ret _ _ _ _ (@q_call _ _ _ _ _ _ _ _ noX _ _ _ Ags (hr.mono (by decide)) (@passN _ _) (@qa_consP _ _ _ _ _ (@q_v1 _ _ 0 _ (by exact⟨rfl,rfl,rfl,rfl⟩)) (@qa_consP _ _ _ _ _ (@q_int _ _ _ _) (@qa_nil _) (by rfl)) (by rfl)) (by rfl) (by decide) (by rfl) (by rfl))))),?_⟩
  simp only[Bk,C1,Bl,nOp,A0,Ag,Ai,An,List.map_cons,List.map_nil,List.length_cons,List.length_nil,Nat.zero_add,Nat.reduceSub,List.replicate,List.cons_append,List.nil_append,List.getElem?_cons_zero,Option.some.injEq,As,nC,dEq,eqS,D.bl.injEq,Bc,Bm,exists_eq_left']
  refine⟨cs,rfl,ok,_,rfl,?_⟩
  unfold Dn at k
  cases e:Ab none cs with
  |nil=>rw[e] at k;exact it0 (by simp) (Fq.of k)
  |cons w r=>rw[e] at k;exact it1 (by simp;omega) ⟨cs,0,w,rfl,ok,by rw[e];rfl,Fq.of k⟩
end
end K2
namespace K2
open PySem L2 D3
section
variable{P:Program}{w:World}{K:W.Frag}{mg:Str→Option Value}{base:Heap}
abbrev s_step_on:Stmt:=top 25
abbrev Uk:List Str:=["inward", "row", "steps"]
abbrev Cr:List Str:=["inward", "row"]
theorem sc_step_on:FnScope Uk Cr (Ad s_step_on):=⟨rfl,rfl,rfl,by decide +kernel,rfl,by decide +kernel,by decide +kernel⟩
theorem M5:((["other"]:List Str)++(["inward", "row", "steps"]:List Str)).Nodup:=by decide +kernel
def L7:DSp:=fun ds G Q _=>∃(a:Addr) (ps:List (Int×Int)) (r:Int),ds=[.ref a,.int r]∧G a=some (.dkk (Bg ps))∧ps.length≤100∧(Dk ps r=[]→Q .non G)∧∀M∈Dk ps r,(∀x∈Dk ps r,¬Br x M)→Q (Bq M) G
theorem Z8{f:Addr}{fd:FuncData}(F:Fun K "step_on" "step_on" s_step_on f fd)(T:Nums mg)(Agk:Def P w K mg base CX0 1 "rows_near" p_rows_near spNear):FnOk P w K mg base CX0 2 f fd Cr (Al K L7):=by
 refine okD F sc_step_on (fun ds G Q E h=>?_) (fun cdv A outer s H XE ds G Q E hr h=>?_)
 ·obtain⟨_,_,_,rfl,_⟩:=h;rfl
 ·obtain⟨a,ps,r,rfl,ha,hl,k0,k⟩:=h
  refine⟨_,(@qss_cons _ _ _ _ _ (@Og _ _ _ _ _ _ _ _ _ _ _ ["other"] ["inward", "row", "steps"] 2 _ _ _ rfl (@compOz _ _ _ _ (by rfl) (by rfl) (by rfl) (by rfl) (by rfl)) (@q_call _ _ _ _ _ _ _ _ noX _ _ _ Agk (hr.mono (by decide)) (@passN _ _) (@qa_consP _ _ _ _ _ (@q_callTy _ _ _ _ _ _ _ _ _ (@Sg _ rfl) (T.blt (by decide)) (by decide +kernel) (@qa_consP _ _ _ _ _ (@q_v2 _ _ 0 _ (by exact⟨rfl,rfl,rfl,rfl⟩)) (@qa_nil _) (by rfl)) (by rfl) (by decide) (by decide) (by rfl) (by rfl)) (@qa_consP _ _ _ _ _ (@q_v2 _ _ 1 _ (by exact⟨rfl,rfl,rfl,rfl⟩)) (@qa_nil _) (by rfl)) (by rfl)) (by rfl) (by decide) (by rfl) (by rfl)) (fun _ _ _=>(@qg_name _ _ 0 _ M5 (by rfl) (by exact .inl rfl) (by exact .inr rfl))) (fun _ _ _=>(@qf_nil _)) (fun _ _ _=>(@Cp _ _ _ _ _ (@qa_consP _ _ _ _ _ (@A9 _ _ _ _ _ _ _ _ (@A5 _) (@Ig _ _ _ _ _ _ (@q_v2 _ _ 1 _ (by exact⟨rfl,rfl,rfl,rfl⟩)) (@q_v1 _ _ 0 _ (by exact⟨rfl,rfl,rfl,rfl⟩)) (by intro _ _ ;rfl)) (@Rn _ _ _ _ _ _ _ _ (@qt_cmp _ _ _ _ _ _ _ _ (@o_ne _) (@q_v1 _ _ 0 _ (by exact⟨rfl,rfl,rfl,rfl⟩)) (@q_v2 _ _ 2 _ (by exact⟨rfl,rfl,rfl,rfl⟩)) (nomark _)) (@q_int _ _ _ _) (@q_int _ _ _ _))) (@qa_consP _ _ _ _ _ (@q_v1 _ _ 0 _ (by exact⟨rfl,rfl,rfl,rfl⟩)) (@qa_nil _) (by rfl)) (by rfl)))) sc_step_on.nd rfl (by rfl) (by first|exact .inl rfl|exact .inr rfl) (by first|exact .inl rfl|exact .inr rfl) (by intro _ ;rfl)) (@qss_one _ _ _ (@qs_ret _ _ _ _ (@Zk _ _ _ _ _ _ _ _ _ rfl hr (T.blt (by decide)) (@q_v1 _ _ 2 _ (by exact⟨rfl,rfl,rfl,rfl⟩)) (by rfl) (by rfl))))),?_⟩
  simp only[Bk,Cg,Ci,A0,Ag,nCB,Ai,An,List.map_cons,List.map_nil,List.length_cons,List.length_nil,Nat.zero_add,Nat.reduceAdd,Nat.reduceSub,List.replicate,List.cons_append,List.nil_append,List.getElem?_cons_zero,Option.some.injEq,As,List.cons.injEq,and_true,List.getElem?_cons_succ,Ao,Bc,Vt,List.set_cons_succ,List.set_cons_zero,exists_eq_left',D.ref.injEq,ha]
  refine⟨_,rfl,fun p1 hp1=>?_⟩
  rw[Lq]
  have s1:Sub G (Ac G p1 (.lst ((ps.map (·.1)).map D.int))):=Sub.new hp1
  have f1:Ac G p1 (.lst ((ps.map (·.1)).map D.int)) p1=some (.lst ((ps.map (·.1)).map D.int)):=Aa
  generalize Ac G p1 (.lst ((ps.map (·.1)).map D.int))=G1 at *
  refine⟨.ref p1,ps.map (·.1),r,rfl,Ah f1,Ea (by rw[List.length_map];omega),fun p2 hp2=>?_⟩
  have mem:∀o∈(ps.map (·.1)).filter (Az r),o∈ps.map (·.1):=fun o ho=>(List.mem_filter.mp ho).1
  have lq:((ps.map (·.1)).filter (Az r)).length≤100:=Nat.le_trans (List.length_filter_le _ _) (by rw[List.length_map];exact hl)
  have es:Dk ps r=((ps.map (·.1)).filter (Az r)).map fun o=>(vI ps o+B0 r o,o):=rfl
  rw[es] at k0 k
  have s2:=s1.skip (o:=.lst (((ps.map (·.1)).filter (Az r)).map D.int)) hp2
  have f2:Ac G1 p2 (.lst (((ps.map (·.1)).filter (Az r)).map D.int)) p2=some (.lst (((ps.map (·.1)).filter (Az r)).map D.int)):=Aa
  generalize Ac G1 p2 (.lst (((ps.map (·.1)).filter (Az r)).map D.int))=G2 at *
  generalize (ps.map (·.1)).filter (Az r)=ks at *
  refine⟨ks.map D.int,Ah f2,fun p3 hp3=>?_⟩
  refine B2 (fun x=>Bq (vI ps (Bb x)+B0 r (Bb x),Bb x)) (fun _=>true) (by simpa using Ea (by omega)) (fun ys=>Ah (Bj f2 hp3)) (by decide) (fun x ys hx hlz R1 R2 g1 _=>?_) ?_
  ·obtain⟨o,ho,rfl⟩:=List.mem_map.mp hx
   have ga:Ac G2 p3 (.lst ys) a=some (.dkk (Bg ps)):=Bj (s2 _ _ ha) hp3
   have sz2:=sz2
   simp only[C3,L0,Ag,nOp,Nu,Ai,List.replicate,List.cons_append,List.nil_append,List.set_cons_zero,List.getElem?_cons_succ,List.getElem?_cons_zero,Option.some.injEq,Kh,nIf,Bl,dNe,eqS,D.bl.injEq,nC,As,List.length_cons,List.length_nil,Nat.zero_add,Nat.reduceAdd,sz2,hlz,true_and,exists_eq_left',D.ref.injEq,ga,if_true]
   have g1:R1 (.tup [.int (vI ps o+B0 r o),.int o]) (Ac G2 p3 (.lst (ys++[.tup [.int (vI ps o+B0 r o),.int o]]))):=g1 rfl
   refine⟨_,rfl,_,Np (mem o ho),?_⟩
   by_cases hb:o=r
   ·refine it1 (by simpa using hb) ?_
    rw[Dc,show(0:Int)=B0 r o from(if_neg (by simpa using hb)).symm]
    exact⟨Aa,by rw[Av];exact Fg.of g1⟩
   ·refine it0 (by simpa using hb) ?_
    rw[Dc,show(1:Int)=B0 r o from(if_pos hb).symm]
    exact⟨Aa,by rw[Av];exact Fg.of g1⟩
  ·have em:((ks.map D.int).filter fun _=>true).map (fun x=>Bq (vI ps (Bb x)+B0 r (Bb x),Bb x))=(ks.map fun o=>(vI ps o+B0 r o,o)).map Bq:=by
    rw[Bt,List.map_map,List.map_map];rfl
   rw[em]
   exact⟨p3,rfl,_,Aa,fun e=>⟨G,s2.skip hp3,k0 e⟩,fun M h1 h2=>⟨G,s2.skip hp3,k M h1 h2⟩⟩
inductive FDL:List (List Int)→List (List (Int×Int))→Prop
 |nil:FDL [] []
 |cons {c:List Int} {cs:List (List Int)} {ps:List (Int×Int)} {pss:List (List (Int×Int))}:FD c cs ps→FDL cs pss→FDL (c::cs) (ps::pss)
theorem FDL.len{cs:List (List Int)}{pss:List (List (Int×Int))}(h:FDL cs pss):cs.length=pss.length:=by
 induction h with
 |nil=>rfl
 |cons _ _ ih=>rw[List.length_cons,List.length_cons,ih]
theorem FD.len{c:List Int}{cs:List (List Int)}{ps:List (Int×Int)}(h:FD c cs ps):ps.length≤c.length:=by
 have:=congrArg List.length h.keys
 rw[List.length_map] at this
 rw[this];exact List.length_filter_le _ _
def BnQ(G:Gp)(t:D)(pf:Addr)(init:List (List Int))(c:List Int)(i:Nat)(σ:DSt)(G':Gp):Prop:=∃v2 v3 v4 v5 a as pss,σ=[some t,some (.ref pf),v2,v3,v4,v5]∧Sub G G'∧G' pf=some (.lst ((as++[a]).map D.ref))∧DictsAt G' (a::as.reverse) pss∧FDL ((init++[c]).drop (init.length-i)) pss∧(a::as.reverse).Nodup∧(∀b∈a::as.reverse,G b=none)∧as.length=i
abbrev s_bends_onward:Stmt:=top 26
abbrev Ke:List Str:=["channel", "onward", "rows", "bends", "row", "step"]
abbrev p_bends_onward:List Str:=["channel"]
theorem sc_bends_onward:FnScope Ke p_bends_onward (Ad s_bends_onward):=⟨rfl,rfl,rfl,by decide +kernel,rfl,by decide +kernel,by decide +kernel⟩
theorem F7:((["row"]:List Str)++(["channel", "onward", "rows", "bends", ".1", "step"]:List Str)).Nodup:=by decide +kernel
def spBends:DSp:=fun ds G Q _=>∃cs,ds=[chD cs]∧ChanN cs∧∀p as pss G',Sub G G'→G' p=some (.lst (as.map D.ref))→DictsAt G' as pss→FDL cs pss→as.Nodup→(∀b∈as,G b=none)→Q (.ref p) G'
theorem Xh{f:Addr}{fd:FuncData}(F:Fun K "bends_onward" "bends_onward" s_bends_onward f fd)(T:Nums mg)(Agt:Def P w K mg base CX0 2 "step_on" Cr L7):FnOk P w K mg base CX0 3 f fd p_bends_onward (Al K spBends):=by
 refine okD F sc_bends_onward (fun ds G Q E h=>?_) (fun cdv A outer s H XE ds G Q E hr h=>?_)
 ·obtain⟨cs,rfl,_⟩:=h;rfl
 ·obtain⟨cs,rfl,ok,k⟩:=h
  refine⟨_,(@qss_cons _ _ _ _ _ (@qs_set _ _ _ _ 1 _ _ sc_bends_onward.nd (@Dh _ _ _ _ (@qa_consP _ _ _ _ _ (@q_dcomp _ _ _ _ _ _ _ _ _ _ _ _ _ ["row"] ["channel", "onward", "rows", "bends", ".1", "step"] rfl (@compOz _ _ _ _ (by rfl) (by rfl) (by rfl) (by rfl) (by rfl)) (@q_ix _ _ _ _ _ _ (@q_v1 _ _ 0 _ (by exact⟨rfl,rfl,rfl,rfl⟩)) (@q_neg _ _ _ _ (@q_int _ _ _ _)) (by intro _ _ ;rfl)) (fun _ _ _=>(@qg_name _ _ 0 _ F7 (by rfl) (by exact .inl rfl) (by exact .inr rfl))) (fun _ _ _=>(@qf_nil _)) (fun _ _ _=>(@q_v1 _ _ 0 _ (by exact⟨rfl,rfl,rfl,rfl⟩))) (fun _ _ _=>(@q_int _ _ _ _)) (by intro _ ;rfl)) (@qa_nil _) (by rfl))) (by rfl) (by exact .inl rfl) (by rfl) (by exact .inl rfl)) (@qss_cons _ _ _ _ _ (@qs_forV _ _ _ _ _ _ _ _ _ _ PassesOwn.never rfl (T.blt (by decide)) (@qa_consP _ _ _ _ _ (@q_slice _ _ _ _ _ _ _ _ _ (@q_v1 _ _ 0 _ (by exact⟨rfl,rfl,rfl,rfl⟩)) (@qo_none _) (@qo_some _ _ _ (@q_neg _ _ _ _ (@q_int _ _ _ _)))) (@qa_nil _) (by rfl)) (@qg_name _ _ 2 _ sc_bends_onward.nd (by rfl) (by exact .inl rfl) (by exact .inl rfl)) (@qss_cons _ _ _ _ _ (@qs_set _ _ _ _ 3 _ _ sc_bends_onward.nd (@Ace _ _) (by rfl) (by exact .inl rfl) (by rfl) (by exact .inl rfl)) (@qss_cons _ _ _ _ _ (@Gh _ _ _ _ _ _ _ _ PassesOwn.never rfl (@q_v1 _ _ 2 _ (by exact⟨rfl,rfl,rfl,rfl⟩)) (@qg_name _ _ 4 _ sc_bends_onward.nd (by rfl) (by exact .inl rfl) (by exact .inl rfl)) (@qss_cons _ _ _ _ _ (@qs_set _ _ _ _ 5 _ _ sc_bends_onward.nd (@q_call _ _ _ _ _ _ _ _ noX _ _ _ Agt (hr.mono (by decide)) (@passN _ _) (@qa_consP _ _ _ _ _ (@q_ix _ _ _ _ _ _ (@q_v1 _ _ 1 _ (by exact⟨rfl,rfl,rfl,rfl⟩)) (@q_neg _ _ _ _ (@q_int _ _ _ _)) (by intro _ _ ;rfl)) (@qa_consP _ _ _ _ _ (@q_v1 _ _ 4 _ (by exact⟨rfl,rfl,rfl,rfl⟩)) (@qa_nil _) (by rfl)) (by rfl)) (by rfl) (by decide) (by rfl) (by rfl)) (by rfl) (by exact .inl rfl) (by rfl) (by exact .inl rfl)) (@qss_one _ _ _ (@qs_if _ _ _ _ _ _ _ _ (@qt_cmp _ _ _ _ _ _ _ _ (@o_notN _) (@q_v1 _ _ 5 _ (by exact⟨rfl,rfl,rfl,rfl⟩)) (@q_non _ _ _) (nomark _)) (@qss_one _ _ _ (@E5 _ _ _ _ _ _ (@q_ix _ _ _ _ _ _ (@q_v1 _ _ 5 _ (by exact⟨rfl,rfl,rfl,rfl⟩)) (@q_int _ _ _ _) (by intro _ _ ;rfl)) (@P5 _ _ _ _ _ _ _ (@q_v1 _ _ 3 _ (by exact⟨rfl,rfl,rfl,rfl⟩)) (@q_v1 _ _ 4 _ (by exact⟨rfl,rfl,rfl,rfl⟩)) (@Y8 _ _ hr) (by intro _ ;rfl)) (by rfl) (by rfl) (by rfl))) (@qss_nil _)))) (by intro _ ;rfl)) (@qss_one _ _ _ (@qs_expr _ _ _ _ (@q_app _ _ _ _ _ _ _ (@q_v1 _ _ 1 _ (by exact⟨rfl,rfl,rfl,rfl⟩)) (@q_v1 _ _ 3 _ (by exact⟨rfl,rfl,rfl,rfl⟩)) (by rfl) (by rfl) (by rfl) (by rfl) (by rfl)) (by rfl))))) (by rfl) (by rfl) (by intro _ ;rfl)) (@qss_cons _ _ _ _ _ (@qs_expr _ _ _ _ (@Vk _ _ _ _ _ (@q_v1 _ _ 1 _ (by exact⟨rfl,rfl,rfl,rfl⟩)) (by rfl) (by rfl)) (by rfl)) (@qss_one _ _ _ (@qs_ret _ _ _ _ (@q_v1 _ _ 1 _ (by exact⟨rfl,rfl,rfl,rfl⟩))))))),?_⟩
  have ne:cs≠[]:=fun e=>by have:=ok.lo;rw[e] at this;simp at this
  obtain⟨init,c,rfl⟩:=Bw ne
  have ndc:∀d∈init++[c],d.Nodup:=fun d hd=>(ok.up d hd).imp fun {a b} z e=>by omega
  have lnc:=ok.len
  have e1:B5 G (chD (init++[c])) (-1)=some (Ae c):=by
   show atI ((init++[c]).map Ae) (-1)=_
   rw[List.map_append];exact Cl _ _
  have e2:Dq ((init++[c]).map Ae) none (some (-1))=init.map Ae:=by rw[F3];simp
  simp only[Bk,Cg,Ez,Ag,Ma,nOp,Ai,An,List.map_cons,List.map_nil,List.length_cons,List.length_nil,Nat.zero_add,Nat.reduceAdd,Nat.reduceSub,List.replicate,List.cons_append,List.nil_append,List.getElem?_cons_zero,Option.some.injEq,Ey,nC,D.int.injEq,dIx,As,Ao,U1,nSl,List.set_cons_succ,List.set_cons_zero,B7,D8,List.cons.injEq,and_true,exists_eq_left',Int.reduceNeg,e1]
  refine⟨c.map D.int,rfl,fun p hp=>Jf (fun _=>0) (ndc c (by simp)) hp (Ea (by have:=lnc c (by simp);omega)) (fun _ _=>rfl) (fun i _ G' sb R h=>h G' (Sub.refl _)) fun G1 sb e=>?_⟩
  refine⟨szl (by decide),fun pf hf=>?_⟩
  have f1:Ac G1 pf (.lst [.ref p]) pf=some (.lst (([]++[p]).map D.ref)):=Aa
  have g1:=Bj (u:=.lst [.ref p]) e hf
  have fz:=sb.none hf
  have sb1:Sub G (Ac G1 pf (.lst [.ref p])):=sb.skip hf
  generalize Ac G1 pf (.lst [.ref p])=G2 at *
  unfold chD
  rw[Cj,e2]
  refine⟨init.map Ae,rfl,?_⟩
  have hil:init.length≤16:=by have:=ok.hi;simp at this;omega
  have fd0:FD c [] (c.map fun i=>(i,0)):=⟨by rw[Ei (g:=fun _=>0)];exact(List.filter_eq_self.mpr fun _ _=>rfl).symm,fun q hq=>by
   obtain⟨r,_,rfl⟩:=List.mem_map.mp hq
   exact few_zero.mpr rfl⟩
  refine Bh (BnQ G (.tup ((init++[c]).map Ae)) pf init c) ⟨none,none,none,none,p,[],[c.map fun i=>(i,0)],rfl,sb1,f1,.cons g1 .nil,by rw[Nat.sub_zero,List.drop_left];exact .cons fd0 .nil,by simp,fun b hb=>by simp at hb;subst hb;exact hp,rfl⟩ (fun _ _ _ _ _=>trivial) ?_ ?_
  ·rintro i x σ G3 hx ⟨v2,v3,v4,v5,a,as,pss,rfl,s3,f3,d3,fl3,nd3,fr3,hlen⟩
   have hi:i<init.length:=by
    rcases Nat.lt_or_ge i init.length with z|z
    ·exact z
    ·rw[List.getElem?_eq_none (by simpa using z)] at hx;cases hx
   rw[←List.map_reverse,List.getElem?_map,List.getElem?_reverse hi] at hx
   obtain⟨b,hb,rfl⟩:=Option.map_eq_some_iff.mp hx
   have hbm:b∈init++[c]:=List.mem_append_left _ (List.mem_of_getElem? hb)
   have hdr:(init++[c]).drop (init.length-(i+1))=b::(init++[c]).drop (init.length-i):=by
    have e:=List.drop_eq_getElem_cons (l:=init++[c]) (i:=init.length-(i+1)) (by simp;omega)
    rw[e,show init.length-(i+1)+1=init.length-i by omega]
    congr 1
    rw[List.getElem_append_left (by omega)]
    have:init[init.length-1-i]? = some init[init.length-(i+1)]:=by rw[show init.length-1-i=init.length-(i+1) by omega,List.getElem?_eq_getElem]
    rw[hb] at this;exact(Option.some.inj this).symm
   obtain⟨c1,rest,hc1⟩:∃c1 rest,(init++[c]).drop (init.length-i)=c1::rest:=by
    cases h:(init++[c]).drop (init.length-i) with
    |nil=>have:=congrArg List.length h;simp at this;omega
    |cons c1 rest=>exact⟨c1,rest,rfl⟩
   rw[hc1] at fl3 hdr
   have hc1m:c1∈init++[c]:=List.mem_of_mem_drop (by rw[hc1];exact List.mem_cons_self ..)
   cases fl3 with
   |@cons _ _ qs pss fdc flr=>
   have g3:G3 a=some (.dkk (Bg qs)):=by cases d3 with|cons h _=>exact h
   have e3:B5 G3 (.ref pf) (-1)=some (.ref a):=by rw[Be f3,List.map_append];exact Cl _ _
   have hql:qs.length≤100:=by have:=fdc.len;have:=lnc c1 hc1m;omega
   have nap:a≠pf:=fun z=>by rw[z,f3] at g3;cases g3
   simp only[Ao,Bk,Cg,Abh,Pt,Ai,List.set_cons_succ,List.set_cons_zero,List.getElem?_cons_succ,List.getElem?_cons_zero,Option.some.injEq,exists_eq_left']
   intro p2 hp2
   have npf:p2≠pf:=fun z=>by rw[z] at hp2;rw[f3] at hp2;cases hp2
   have npa:p2≠a:=fun z=>by rw[z] at hp2;rw[g3] at hp2;cases hp2
   have ndb:=ndc b hbm
   refine⟨b.map D.int,rfl,?_⟩
   refine Bh (fun j σ G'=>∃rs v4 v5,σ=[some (.tup ((init++[c]).map Ae)),some (.ref pf),some (Ae b),some (.ref p2),v4,v5]∧Ac G3 p2 (.dkk (Bg rs))=G'∧FD (b.take j) (c1::rest) rs) ⟨[],v4,v5,rfl,rfl,⟨by simp,fun q hq=>by simp at hq⟩⟩ (fun _ _ _ _ _=>rfl) ?_ ?_
   ·rintro j x σ _ hx ⟨rs,v4,v5,rfl,rfl,fdj⟩
    rw[List.getElem?_map] at hx
    obtain⟨r,hr,rfl⟩:=Option.map_eq_some_iff.mp hx
    have tk:b.take (j+1)=b.take j++[r]:=by rw[List.take_add_one,hr];rfl
    have ga:Ac G3 p2 (.dkk (Bg rs)) a=some (.dkk (Bg qs)):=by rw[Af npa.symm];exact g3
    have e4:B5 (Ac G3 p2 (.dkk (Bg rs))) (.ref pf) (-1)=some (.ref a):=by rw[Be (by rw[Af npf.symm];exact f3),List.map_append];exact Cl _ _
    simp only[Ao,Bk,Cg,A0,Ag,nOp,Ai,List.set_cons_succ,List.set_cons_zero,List.getElem?_cons_succ,List.getElem?_cons_zero,Option.some.injEq,Ey,nC,D.int.injEq,dIx,As,C1,Bl,D.bl.injEq,Yt,Abm,Kh,exists_eq_left',D.ref.injEq,Bm,true_and,Int.reduceNeg,e4]
    refine⟨a,qs,r,rfl,ga,hql,fun e0=>?_,fun M hM least=>?_⟩
    ·refine it1 (by decide) (Fs.of ⟨rs,_,_,rfl,rfl,⟨?_,fdj.few⟩⟩)
     rw[tk,List.filter_append,←fdj.keys]
     have:=La fdc e0
     simp[this]
    ·obtain⟨_,_,_,few⟩:=N5 fdc hM least
     have hrl:rs.length≤100:=by have:=fdj.len;rw[List.length_take] at this;have:=lnc b hbm;omega
     refine it0 (by rfl) ?_
     refine⟨.int M.1,rfl,_,Aa,by simp only[Bg,List.length_map];exact Ea (by omega),?_⟩
     have hnot:(Sum.inl r:Key) ∉ (Bg rs).map (·.1):=fun z=>by
      obtain⟨q,hq,eq⟩:=List.mem_map.mp z
      obtain⟨q',hq',rfl⟩:=List.mem_map.mp hq
      have eq:q'.1=r:=Sum.inl.inj eq
      have hm:r∈rs.map (·.1):=List.mem_map.mpr ⟨q',hq',eq⟩
      rw[fdj.keys] at hm
      obtain⟨jj,hj1,hj2⟩:=List.mem_take_iff_getElem.mp (List.mem_filter.mp hm).1
      have e1:b[jj]? = some r:=by rw[List.getElem?_eq_getElem (by omega),hj2]
      have:=(List.getElem?_inj (i:=jj) (j:=j) (by omega) ndb).mp (e1.trans hr.symm)
      omega
     rw[Oi hnot,Av]
     have et:Bg rs++[(Sum.inl r,D.int M.1)]=Bg (rs++[(r,M.1)]):=by simp[Bg]
     rw[et]
     refine Fs.of ⟨rs++[(r,M.1)],_,_,rfl,rfl,⟨?_,fun q hq=>?_⟩⟩
     ·rw[tk,List.filter_append,List.map_append,fdj.keys]
      obtain⟨w',hw',_⟩:=few.ex
      have:(Ab (some r) (c1::rest)).isEmpty=false:=by
       cases hz:Ab (some r) (c1::rest) with
       |nil=>rw[hz] at hw';simp at hw'
       |cons _ _=>rfl
      simp[this]
     ·rcases List.mem_append.mp hq with hq|hq
      ·exact fdj.few q hq
      ·simp at hq;subst hq;exact few
   ·rintro σ _ ⟨rs,v4,v5,rfl,rfl,fdj⟩
    rw[List.length_map,List.take_length] at fdj
    have f4:Ac G3 p2 (.dkk (Bg rs)) pf=some (.lst ((as++[a]).map D.ref)):=by rw[Af npf.symm];exact f3
    simp only[C4,Nk,Ai,List.getElem?_cons_succ,List.getElem?_cons_zero,Option.some.injEq,exists_eq_left',D.ref.injEq,f4,GO.lst.injEq]
    have s4:Sub G3 (Ac G3 p2 (.dkk (Bg rs))):=Sub.new hp2
    refine⟨⟨_,rfl⟩,by simp;exact Ea (by omega),Fs.of ⟨_,_,_,_,p2,as++[a],rs::qs::pss,rfl,Sub.over (s3.trans s4) fz _,by rw[Aa];simp,?_,by rw[hdr];exact .cons fdj (.cons fdc flr),?_,?_,by simp[hlen]⟩⟩
    ·rw[List.reverse_append]
     refine .cons (by rw[Af npf];exact Aa) (DictsAt.put f4 (fun ps z=>by cases z) (d3.sub s4))
    ·rw[List.reverse_append,List.nodup_cons]
     refine⟨fun z=>?_,nd3⟩
     obtain⟨ii,hii,e⟩:=List.getElem_of_mem z
     have hlp:(a::as.reverse).length=(qs::pss).length:=Paired.length d3
     have hii:ii<(a::as.reverse).length:=hii
     obtain⟨a',ha',hd'⟩:=d3.get (i:=ii) (List.getElem?_eq_getElem (by omega))
     have:(a::as.reverse)[ii]? = some p2:=by rw[List.getElem?_eq_getElem hii];exact congrArg some e
     rw[this] at ha';cases ha'
     rw[hp2] at hd';cases hd'
    ·rw[List.reverse_append]
     intro b' hb'
     rcases List.mem_cons.mp hb' with rfl|hb'
     ·exact s3.none hp2
     ·exact fr3 b' hb'
  ·rintro σ G3 ⟨v2,v3,v4,v5,a,as,pss,rfl,s3,f3,d3,fl3,nd3,fr3,hlen⟩
   simp only[Bk,C4,Uz,Ai,List.getElem?_cons_succ,List.getElem?_cons_zero,Option.some.injEq,Bc,exists_eq_left',D.ref.injEq,f3,GO.lst.injEq]
   rw[List.length_reverse,List.length_map,Nat.sub_self,List.drop_zero] at fl3
   refine Fq.of (k pf (a::as.reverse) pss _ (Sub.over s3 fz _) (by rw[Aa];simp) (DictsAt.put f3 (fun ps z=>by cases z) d3) fl3 nd3 fr3)
end
end K2
namespace K2
open PySem L2 D3
section
variable{P:Program}{w:World}{K:W.Frag}{mg:Str→Option Value}{base:Heap}
theorem Cs{n:Nat}{p:Addr}{ds:List D}{same:Gp→Prop}{g:DTG}{tf:DTT}{te:DTE}{σ:DSt}{G:Gp}{Q:DK}(f:D→D)(c:D→Bool)(hz:ds.length<sizeLine)(hsm:∀ys,same (Ac G p (.lst ys)))(hs:∀x ys,x∈ds→ys.length<sizeLine→∀(R1:D→Gp→Prop) (R2:Gp→Prop),(c x=true→R1 (f x) (Ac G p (.lst (ys++[f x]))))→(c x=false→R2 (Ac G p (.lst ys)))→
   g x (List.replicate n none++σ) (Ac G p (.lst ys)) fun σ2 G2=>Q9 n σ σ2∧tf σ2 G2 fun b G3=>if b=true then te σ2 G3 fun y G4=>G4 p=some (.lst ys)∧ys.length<sizeLine∧Fg (R1 y) (Ac G4 p (.lst (ys++[y]))) else Fg R2 G3)(hq:Q (.ref p) (Ac G p (.lst ((ds.filter c).map f)))):Fn n p ds same g tf te σ (Ac G p (.lst [])) Q:=by
 refine⟨fun i ys G'=>ys=((ds.take i).filter c).map f∧Ac G p (.lst ys)=G',⟨rfl,rfl⟩,?_,?_,?_⟩
 ·rintro i ys _ _ ⟨_,rfl⟩
  exact⟨hsm ys,Aa⟩
 ·rintro i x ys _ hx ⟨e,rfl⟩
  have hi:=(List.getElem?_eq_some_iff.mp hx).1
  have hl:ys.length<sizeLine:=by
   rw[e,List.length_map]
   refine Nat.lt_of_le_of_lt (List.length_filter_le _ _) ?_
   rw[List.length_take];omega
  have tk:ds.take (i+1)=ds.take i++[x]:=by rw[List.take_add_one,hx];rfl
  refine hs x ys (List.mem_of_getElem? hx) hl (fun y G'=>ys++[y]=((ds.take (i+1)).filter c).map f∧Ac G p (.lst (ys++[y]))=G') (fun G'=>ys=((ds.take (i+1)).filter c).map f∧Ac G p (.lst ys)=G') (fun hc=>⟨?_,rfl⟩) (fun hc=>⟨?_,rfl⟩)
  ·rw[tk,List.filter_append,List.map_append,←e];simp[hc]
  ·rw[tk,List.filter_append,List.map_append,←e];simp[hc]
 ·rintro ys _ ⟨e,rfl⟩
  rw[List.take_length] at e
  rw[e];exact hq
theorem Sw{G:Gp}{p:Addr}{ds:List D}{lo hi:Option Int}{Q:DK}(h:G p=some (.lst ds))(k:∀q,G q=none→Q (.ref q) (Ac G q (.lst (Dq ds lo hi)))):B4 G (.ref p) lo hi Q:=by simp only[B4,h];exact k
theorem FDL.get:∀{cs:List (List Int)} {pss:List (List (Int×Int))},FDL cs pss→∀{i:Nat} {c:List Int} {ps:List (Int×Int)},cs[i]? = some c→pss[i]? = some ps→FD c (cs.drop (i+1)) ps
 |_,_,.cons h t,0,c,ps,e1,e2=>by simp at e1 e2;subst e1;subst e2;exact h
 |_,_,.cons h t,i+1,c,ps,e1,e2=>by simpa using FDL.get t (i:=i) (by simpa using e1) (by simpa using e2)
theorem FewIs.one{r:Int}{cs:List (List Int)}{a b:Int}(h:FewIs r cs a)(h2:FewIs r cs b):a=b:=by
 obtain⟨w1,m1,e1⟩:=h.ex
 obtain⟨w2,m2,e2⟩:=h2.ex
 have:=h.le w2 m2
 have:=h2.le w1 m1
 omega
theorem Jh{G:Gp}{a b:Addr}(h:b≠a):Ge G a b=G b:=by unfold Ge;rw[if_neg h]
theorem Sub.del{G0 G:Gp}{a:Addr}(s:Sub G0 G)(h:G0 a=none):Sub G0 (Ge G a):=fun b o e=>by
 rw[Jh (gne e h)];exact s b o e
theorem Xs(ps:List (Int×Int)):(Bg ps).map Vw=ps.map Bq:=by
 unfold Bg;rw[List.map_map];rfl
def Yu:D→Int×Int
 |.tup [.int x,.int y]=>(x,y)
 |_=>(0,0)
def StQ(cs rest:List (List Int))(t:D)(p5 q:Addr)(F:Int)(as:List Addr)(pss:List (List (Int×Int)))(G:Gp)(o1 o2 o3:Option D)(i:Nat)(σ:DSt)(G':Gp):Prop:=∃(v:List Int) (r b:Int) (v5:Option D),σ=[some t,o1,o2,o3,some (.ref q),v5]∧Sub G G'∧G' p5=some (.lst (as.map D.ref))∧G' q=some (.lst ((v++[r]).map D.int))∧DictsAt G' as pss∧v.length=i∧
 FewIs r (rest.drop i) b∧bdW (v++[r])+b=F∧∀w∈Ab (some r) (rest.drop i),v++r::w∈Ab none cs
abbrev s_straightest:Stmt:=top 27
abbrev Kv:List Str:=["channel", "onward", "fewest", "start", "way", "inward"]
abbrev p_straightest:List Str:=["channel"]
theorem sc_straightest:FnScope Kv p_straightest (Ad s_straightest):=⟨rfl,rfl,rfl,by decide +kernel,rfl,by decide +kernel,by decide +kernel⟩
theorem D0:((["row", "bends"]:List Str)++(["channel", "onward", "fewest", "start", "way", "inward"]:List Str)).Nodup:=by decide +kernel
def spStraight:DSp:=fun ds G Q _=>∃cs,ds=[chD cs]∧ChanN cs∧(Ab none cs=[]→Q .non G)∧∀w,Straight cs w→Q (Ae w) G
theorem Pd{f:Addr}{fd:FuncData}(F:Fun K "straightest" "straightest" s_straightest f fd)(T:Nums mg)(Agi:Def P w K mg base CX0 5 "check_channel" p_check_channel spCheckC)(Ag7:Def P w K mg base CX0 3 "bends_onward" p_bends_onward spBends)(Agt:Def P w K mg base CX0 2 "step_on" Cr L7):FnOk P w K mg base CX0 6 f fd p_straightest (Al K spStraight):=by
 refine okD F sc_straightest (fun ds G Q E h=>?_) (fun cdv A outer s H XE ds G Q E hr h=>?_)
 ·obtain⟨cs,rfl,_⟩:=h;rfl
 ·obtain⟨cs,rfl,ok,k0,k⟩:=h
  refine⟨_,(@qss_cons _ _ _ _ _ (@qs_expr _ _ _ _ (@q_call _ _ _ _ _ _ _ _ noX _ _ _ Agi (hr.mono (by decide)) (@passN _ _) (@qa_consP _ _ _ _ _ (@q_v1 _ _ 0 _ (by exact⟨rfl,rfl,rfl,rfl⟩)) (@qa_nil _) (by rfl)) (by rfl) (by decide) (by rfl) (by rfl)) (by rfl)) (@qss_cons _ _ _ _ _ (@qs_set _ _ _ _ 1 _ _ sc_straightest.nd (@q_call _ _ _ _ _ _ _ _ noX _ _ _ Ag7 (hr.mono (by decide)) (@passN _ _) (@qa_consP _ _ _ _ _ (@q_v1 _ _ 0 _ (by exact⟨rfl,rfl,rfl,rfl⟩)) (@qa_nil _) (by rfl)) (by rfl) (by decide) (by rfl) (by rfl)) (by rfl) (by exact .inl rfl) (by rfl) (by exact .inl rfl)) (@qss_cons _ _ _ _ _ (@qs_if _ _ _ _ _ _ _ _ (@qt_not _ _ _ _ (@qt_tru _ _ _ (@q_ix _ _ _ _ _ _ (@q_v1 _ _ 1 _ (by exact⟨rfl,rfl,rfl,rfl⟩)) (@q_int _ _ _ _) (by intro _ _ ;rfl)) (by intro _ ;rfl))) (@qss_one _ _ _ (@qs_ret _ _ _ _ (@q_non _ _ _))) (@qss_nil _)) (@qss_cons _ _ _ _ _ (@E5 _ _ _ _ _ _ (@q_callB _ _ _ _ _ _ _ _ _ (@Adz _ _ rfl hr) (T.blt (by decide)) (by decide +kernel) (@qa_consP _ _ _ _ _ (@Zl _ _ _ _ _ _ _ _ _ _ _ _ _ _ _ ["row", "bends"] ["channel", "onward", "fewest", "start", "way", "inward"] rfl (@compOz _ _ _ _ (by rfl) (by rfl) (by rfl) (by rfl) (by rfl)) (@q_ix _ _ _ _ _ _ (@q_v1 _ _ 1 _ (by exact⟨rfl,rfl,rfl,rfl⟩)) (@q_int _ _ _ _) (by intro _ _ ;rfl)) (fun _ _ _=>(@qg_tup _ _ _ _ _ 2 rfl (@qgs_cons _ _ _ _ _ (@qg_name _ _ 0 _ D0 (by rfl) (by exact .inl rfl) (by exact .inr rfl)) (@qgs_cons _ _ _ _ _ (@qg_name _ _ 1 _ D0 (by rfl) (by exact .inl rfl) (by exact .inr rfl)) (@qgs_nil _) (by rfl)) (by rfl)) (by rfl) (by rfl))) (fun _ _ _=>(@qf_nil _)) (fun _ _ _=>(@Cp _ _ _ _ _ (@qa_consP _ _ _ _ _ (@q_v1 _ _ 1 _ (by exact⟨rfl,rfl,rfl,rfl⟩)) (@qa_consP _ _ _ _ _ (@q_v1 _ _ 0 _ (by exact⟨rfl,rfl,rfl,rfl⟩)) (@qa_nil _) (by rfl)) (by rfl)))) (by rfl) (by rfl) (by intro _ ;rfl)) (@qa_nil _) (by rfl)) (by rfl) (by decide) (by decide) (by rfl) (by rfl)) (@qg_tup _ _ _ _ _ 2 rfl (@qgs_cons _ _ _ _ _ (@qg_name _ _ 2 _ sc_straightest.nd (by rfl) (by exact .inl rfl) (by exact .inl rfl)) (@qgs_cons _ _ _ _ _ (@qg_name _ _ 3 _ sc_straightest.nd (by rfl) (by exact .inl rfl) (by exact .inl rfl)) (@qgs_nil _) (by rfl)) (by rfl)) (by rfl) (by rfl)) (by rfl) (by rfl) (by rfl)) (@qss_cons _ _ _ _ _ (@qs_set _ _ _ _ 4 _ _ sc_straightest.nd (@Dh _ _ _ _ (@qa_consP _ _ _ _ _ (@q_v1 _ _ 3 _ (by exact⟨rfl,rfl,rfl,rfl⟩)) (@qa_nil _) (by rfl))) (by rfl) (by exact .inl rfl) (by rfl) (by exact .inl rfl)) (@qss_cons _ _ _ _ _ (@Gh _ _ _ _ _ _ _ _ PassesOwn.never rfl (@q_slice _ _ _ _ _ _ _ _ _ (@q_v1 _ _ 1 _ (by exact⟨rfl,rfl,rfl,rfl⟩)) (@qo_some _ _ _ (@q_int _ _ _ _)) (@qo_none _)) (@qg_name _ _ 5 _ sc_straightest.nd (by rfl) (by exact .inl rfl) (by exact .inl rfl)) (@qss_one _ _ _ (@qs_expr _ _ _ _ (@q_app _ _ _ _ _ _ _ (@q_v1 _ _ 4 _ (by exact⟨rfl,rfl,rfl,rfl⟩)) (@q_ix _ _ _ _ _ _ (@q_call _ _ _ _ _ _ _ _ noX _ _ _ Agt (hr.mono (by decide)) (@passN _ _) (@qa_consP _ _ _ _ _ (@q_v1 _ _ 5 _ (by exact⟨rfl,rfl,rfl,rfl⟩)) (@qa_consP _ _ _ _ _ (@q_ix _ _ _ _ _ _ (@q_v1 _ _ 4 _ (by exact⟨rfl,rfl,rfl,rfl⟩)) (@q_neg _ _ _ _ (@q_int _ _ _ _)) (by intro _ _ ;rfl)) (@qa_nil _) (by rfl)) (by rfl)) (by rfl) (by decide) (by rfl) (by rfl)) (@q_int _ _ _ _) (by intro _ _ ;rfl)) (by rfl) (by rfl) (by rfl) (by rfl) (by rfl)) (by rfl))) (by intro _ ;rfl)) (@qss_one _ _ _ (@qs_ret _ _ _ _ (@q_callTy _ _ _ _ _ _ _ _ _ (@c_tuple _) (T.blt (by decide)) (by decide +kernel) (@qa_consP _ _ _ _ _ (@q_v1 _ _ 4 _ (by exact⟨rfl,rfl,rfl,rfl⟩)) (@qa_nil _) (by rfl)) (by rfl) (by decide) (by decide) (by rfl) (by rfl)))))))))),?_⟩
  have sz1:1≤sizeLine:=szl (by decide)
  have sz2:=sz2
  simp only[Bk,C4,A0,Ag,Ai,An,List.map_cons,List.map_nil,List.length_cons,List.length_nil,Nat.zero_add,Nat.reduceAdd,Nat.reduceSub,List.replicate,List.cons_append,List.nil_append,List.getElem?_cons_zero,Option.some.injEq,As,Cg,Ao,C1,Ex,D4,nOp,List.set_cons_succ,List.set_cons_zero,List.getElem?_cons_succ,nC,dIx,D.int.injEq,Bc,Bm,nCB,Vu,List.cons.injEq,and_true,Gc,Dr,Gd,Ez,sz1,Pt,nSl,D8,B7,exists_eq_left',true_and]
  refine⟨_,rfl,Fm,Me ok,ok.chan,cs,rfl,ok,fun p as pss G1 sb hp d fl nd fr=>?_⟩
  have lnc:=ok.len
  have hhi:=ok.hi
  obtain⟨c,rest,rfl,hrest⟩:=ok.head
  cases fl with
  |@cons _ _ ps0 pss fd0 flr=>
  obtain⟨a0,as,rfl⟩:∃a0 as',as=a0::as':=by
   cases as with
   |nil=>cases d
   |cons a0 as=>exact⟨a0,as,rfl⟩
  have h0:G1 a0=some (.dkk (Bg ps0)):=by cases d with|cons h _=>exact h
  have dr:DictsAt G1 as pss:=by cases d with|cons _ t=>exact t
  have e0:B5 G1 (.ref p) 0=some (.ref a0):=by rw[Be hp,List.map_cons];exact Sk
  have t0:Kg G1 (.ref a0)=some (!(Bg ps0).isEmpty):=by simp only[Kg,h0]
  have npa:p≠a0:=fun z=>by rw[z,h0] at hp;cases hp
  simp only[e0,Option.some.injEq,exists_eq_left',D.ref.injEq,h0,t0]
  cases hps:ps0 with
  |nil=>
   refine it0 (by rfl) ⟨G,sb,k0 ?_⟩
   rw[List.eq_nil_iff_forall_not_mem]
   intro u hu
   obtain⟨y,v,rfl,hy,_,hv⟩:=mem_wfrom_cons.mp hu
   have:=(Dx fd0).mpr ⟨hy,v,hv⟩
   rw[hps] at this;simp at this
  |cons q0 qr=>
   rw[←hps]
   refine it1 (by rw[hps];simp[Bg]) ⟨_,rfl,fun p1 hp1=>?_⟩
   rw[Xs]
   have lp0:ps0.length≤9:=Nat.le_trans fd0.len (lnc c (by simp))
   have fr0:G a0=none:=fr a0 (by simp)
   have hp1G:G p1=none:=sb.none hp1
   have na01:p1≠a0:=fun z=>by rw[z,h0] at hp1;cases hp1
   have npp1:p≠p1:=gne hp hp1
   refine Cs (fun x=>Bq ((Yu x).2,(Yu x).1)) (fun _=>true) (by rw[List.length_map];exact Ea (by omega)) (fun _=>trivial) (fun x ys hx hlz R1 R2 g1 _=>?_) ?_
   ·obtain⟨o,ho,rfl⟩:=List.mem_map.mp hx
    simp only[Gc,Dr,Ao,Gd,List.replicate,List.cons_append,List.nil_append,List.set_cons_zero,List.set_cons_succ,C3,L0,Ag,Ai,List.getElem?_cons_succ,List.getElem?_cons_zero,Option.some.injEq,As,List.length_cons,List.length_nil,Nat.zero_add,Nat.reduceAdd,sz2,Aa,Av,true_and,exists_eq_left',if_true]
    exact⟨_,rfl,rfl,_,_,rfl,_,_,rfl,rfl,⟨[_,_],rfl,rfl⟩,hlz,Fg.of (g1 rfl)⟩
   ·have em:((ps0.map Bq).filter fun _=>true).map (fun x=>Bq ((Yu x).2,(Yu x).1))=(ps0.map fun q=>(q.2,q.1)).map Bq:=by
     rw[Bt,List.map_map,List.map_map];rfl
    rw[em]
    refine⟨p1,rfl,_,Aa,by rw[List.length_map,hps];simp,fun M hM least=>⟨_,rfl,rfl,_,_,rfl,_,_,rfl,rfl,fun q hq=>?_⟩⟩
    obtain⟨m0,hm0,rfl⟩:=List.mem_map.mp hM
    have few0:=fd0.few m0 hm0
    have hm0c:m0.1∈c:=((Dx fd0).mp (List.mem_map.mpr ⟨m0,hm0,rfl⟩)).1
    have least0:∀u∈Ab none (c::rest),m0.2≤bdW u:=fun u hu=>by
     obtain⟨y,v,rfl,hy,_,hv⟩:=mem_wfrom_cons.mp hu
     have hky:=(Dx fd0).mpr ⟨hy,v,hv⟩
     have h1:=least _ (List.mem_map.mpr ⟨_,Gf hky,rfl⟩)
     have h2:=(fd0.few _ (Gf hky)).le v hv
     have h2:vI ps0 y≤bdI y v:=h2
     show m0.2≤bdI y v
     unfold Br at h1
     simp only at h1
     omega
    have sb2:Sub G (Ac (Ge G1 a0) p1 (.lst ((ps0.map fun q=>(q.2,q.1)).map Bq))):=Sub.over (Sub.del sb fr0) hp1G _
    have hp2:Ac (Ge G1 a0) p1 (.lst ((ps0.map fun q=>(q.2,q.1)).map Bq)) p=some (.lst ((a0::as).map D.ref)):=by rw[Af npp1,Jh npa];exact hp
    have nda:a0 ∉ as:=(List.nodup_cons.mp nd).1
    have d2:DictsAt (Ac (Ge G1 a0) p1 (.lst ((ps0.map fun q=>(q.2,q.1)).map Bq))) as pss:=by
     have:∀{as:List Addr} {pss:List (List (Int×Int))},DictsAt G1 as pss→a0 ∉ as→DictsAt (Ac (Ge G1 a0) p1 (.lst ((ps0.map fun q=>(q.2,q.1)).map Bq))) as pss:=fun {as pss} h=>by
      induction h with
      |nil=>exact fun _=>.nil
      |cons h t ih=>exact fun hn=>.cons (by rw[Af (gne h hp1),Jh fun z=>hn (by simp[z])];exact h) (ih fun z=>hn (by simp[z]))
     exact this dr nda
    generalize Ac (Ge G1 a0) p1 (.lst ((ps0.map fun q=>(q.2,q.1)).map Bq))=G2 at *
    have hqG:=sb2.none hq
    have sb3:=sb2.skip (o:=.lst [.int m0.1]) hq
    have hp3:=Bj (u:=.lst [.int m0.1]) hp2 hq
    have hq3:Ac G2 q (.lst [.int m0.1]) q=some (.lst (([]++[m0.1]).map D.int)):=Aa
    have d3:=d2.sub (Sub.new (o:=.lst [.int m0.1]) hq)
    generalize Ac G2 q (.lst [.int m0.1])=G3 at *
    refine Sw hp3 fun p5 hp5=>?_
    have cut1:Dq ((a0::as).map D.ref) (some 1) none=as.map D.ref:=by rw[Gj];rfl
    rw[cut1]
    have n5q:p5≠q:=fun z=>by rw[z] at hp5;rw[hq3] at hp5;cases hp5
    have sb5:=sb3.skip (o:=.lst (as.map D.ref)) hp5
    have h5:Ac G3 p5 (.lst (as.map D.ref)) p5=some (.lst (as.map D.ref)):=Aa
    have hq5:=Bj (u:=.lst (as.map D.ref)) hq3 hp5
    have d5:=d3.sub (Sub.new (o:=.lst (as.map D.ref)) hp5)
    generalize Ac G3 p5 (.lst (as.map D.ref))=G5 at *
    refine⟨_,Ah h5,?_⟩
    have hasl:as.length=rest.length:=by have h1:as.length=pss.length:=Paired.length dr;rw[h1,←flr.len]
    have hrl:rest.length≤15:=by rw[List.length_cons] at hhi;omega
    refine Bh (StQ (c::rest) rest (chD (c::rest)) p5 q m0.2 as pss G (some (.ref p)) (some (.int m0.2)) (some (.int m0.1))) ⟨[],m0.1,m0.2,none,rfl,sb5,h5,hq5,d5,rfl,few0,by show bdI m0.1 []+m0.2=m0.2;simp[bdI],fun u hu=>mem_wfrom_cons.mpr ⟨m0.1,u,rfl,hm0c,rfl,hu⟩⟩ ?_ ?_ ?_
    ·rintro i σ G6 _ ⟨v,r,b,v5,rfl,_,h6,_⟩
     exact Ah h6
    ·rintro i x σ G6 hx ⟨v,r,b,v5,rfl,s6,h6,hq6,d6,hvl,few,hF,hjoin⟩
     rw[List.getElem?_map] at hx
     obtain⟨a,ha,rfl⟩:=Option.map_eq_some_iff.mp hx
     have hil:i<rest.length:=by rw[←hasl];exact(List.getElem?_eq_some_iff.mp ha).1
     have hdr:rest.drop i=rest[i]::rest.drop (i+1):=List.drop_eq_getElem_cons hil
     have hpl:i<pss.length:=by rw[←flr.len];exact hil
     obtain⟨a',ha',hd'⟩:=d6.get (i:=i) (List.getElem?_eq_getElem hpl)
     rw[ha] at ha';cases ha'
     have fdi:=flr.get (List.getElem?_eq_getElem hil) (List.getElem?_eq_getElem hpl)
     rw[hdr] at few hjoin
     have eq6:B5 G6 (.ref q) (-1)=some (.int r):=by rw[Be hq6,List.map_append];exact Cl _ _
     simp only[Ao,C4,Nk,Ai,List.set_cons_succ,List.set_cons_zero,List.getElem?_cons_succ,List.getElem?_cons_zero,Option.some.injEq,nOp,A0,Ag,Ey,nC,D.int.injEq,dIx,As,exists_eq_left',Int.reduceNeg,eq6,D.ref.injEq,hq6,GO.lst.injEq]
     refine⟨⟨_,rfl⟩,a,_,r,rfl,hd',by have:=fdi.len;have:=lnc rest[i] (by simp);omega,fun e0=>?_,fun M hM2 least2=>?_⟩
     ·obtain⟨w',hw',_⟩:=few.ex
      rw[La fdi e0] at hw';simp at hw'
     ·obtain⟨mc,mn,fw2,fw1⟩:=N5 fdi hM2 least2
      have eb:=FewIs.one fw1 few
      refine⟨.int M.2,rfl,_,hq6,by rw[List.length_map];exact Ea (by simp;omega),Fs.of ⟨v++[r],M.2,M.1-B0 r M.2,_,rfl,Sub.over s6 hqG _,by rw[Af n5q];exact h6,by rw[Aa,List.map_append (l₁:=v++[r])];rfl,DictsAt.put hq6 (fun ps z=>by cases z) d6,by rw[List.length_append,hvl];rfl,fw2,?_,fun u hu=>?_⟩⟩
      ·rw[show v++[r]++[M.2]=v++r::[M.2] by simp,Aay]
       have:bdI r [M.2]=B0 r M.2:=by simp[bdI,B0]
       omega
      ·rw[List.append_assoc]
       exact hjoin _ (mem_wfrom_cons.mpr ⟨M.2,u,rfl,mc,mn,hu⟩)
    ·rintro σ G6 ⟨v,r,b,v5,rfl,s6,h6,hq6,d6,hvl,few,hF,hjoin⟩
     rw[List.length_map,hasl,List.drop_of_length_le (Nat.le_refl _)] at few hjoin
     have hb0:=few_zero.mp few
     have hmem:=hjoin [] (by simp[Ab])
     simp only[Bc,nCB,Ag,Ai,List.getElem?_cons_succ,List.getElem?_cons_zero,Option.some.injEq,As,List.cons.injEq,and_true,exists_eq_left',Ah hq6]
     refine⟨G,s6,k (v++[r]) ⟨mem_ways.mp hmem,fun u hu=>?_⟩⟩
     have h1:=least0 u (mem_ways.mpr hu)
     have h2:=Mw (v++[r])
     have h3:=Mw u
     omega
end
end K2
namespace K2
open PySem L2 D3
section
variable{P:Program}{w:World}{K:W.Frag}{mg:Str→Option Value}{base:Heap}
def Yl(lo hi:Int):DSp:=fun ds G Q _=>∃i,ds=[.int i]∧lo≤i∧i≤hi∧Q (.bl true) G
theorem O9{α:Type}(c:List α):(c.map fun _=>true).all id=true:=by simp
abbrev s_is_row:Stmt:=top 11
abbrev Yf:List Str:=["thing"]
abbrev Dw:List Str:=["thing"]
theorem S1:FnScope Yf Dw (Ad s_is_row):=⟨rfl,rfl,rfl,by decide +kernel,rfl,by decide +kernel,by decide +kernel⟩
theorem Ac7{f:Addr}{fd:FuncData}(F:Fun K "is_row" "is_row" s_is_row f fd)(T:Nums mg)(Agl:Def P w K mg base CX0 1 "is_whole_within" p_is_whole_within spWhole):FnOk P w K mg base CX0 2 f fd Dw (Al K (Yl 0 8)):=by
 refine okD F S1 (fun ds G Q E h=>?_) (fun cdv A outer s H XE ds G Q E hr h=>?_)
 ·obtain⟨i,rfl,_⟩:=h;rfl
 ·obtain⟨i,rfl,h1,h2,k⟩:=h
  refine⟨_,(@qss_one _ _ _ (@qs_ret _ _ _ _ (@q_call _ _ _ _ _ _ _ _ noX _ _ _ Agl (hr.mono (by decide)) (@passN _ _) (@qa_consP _ _ _ _ _ (@q_v1 _ _ 0 _ (by exact⟨rfl,rfl,rfl,rfl⟩)) (@qa_consP _ _ _ _ _ (@q_int _ _ _ _) (@qa_consP _ _ _ _ _ (@q_globx _ _ _ _ T.LAST_ROW (by rfl) (by decide)) (@qa_nil _) (by rfl)) (by rfl)) (by rfl)) (by rfl) (by decide) (by rfl) (by rfl)))),?_⟩
  have kn:Kn G (.int i):=⟨_,rfl⟩
  simp only[Bc,A0,Ag,Ai,An,List.map_cons,List.map_nil,List.length_cons,List.length_nil,Nat.zero_add,Nat.reduceSub,List.replicate,List.cons_append,List.nil_append,List.getElem?_cons_zero,Option.some.injEq,nC,As,spWhole,List.cons.injEq,D.int.injEq,and_true,Bn,and_assoc,exists_and_left,exists_eq_left',kn,h1,decide_true,h2,true_and]
  exact Fq.of k
structure WayOk(cs:List (List Int))(ws:List Int):Prop where
 chan:Ic (chD cs)=true
 len:ws.length=cs.length
 small:cs.length≤16∧∀c∈cs,c.length≤9
 row:∀(i:Nat) r c,ws[i]? = some r→cs[i]? = some c→(0≤r∧r≤8)∧r∈c
 step:∀(i:Nat) r t,ws[i]? = some r→ws[i+1]? = some t→t-r≤1∧r-t≤1
theorem L5:∀{xs ys:List D} {z:D},z∈Bx [xs,ys]→∃(i:Nat) (u v:D),xs[i]? = some u∧ys[i]? = some v∧z=.tup [u,v]
 |[],ys,z,h=>by obtain⟨u,v,_,hu,_⟩:=Dj h;cases hu
 |x::xs,[],z,h=>by obtain⟨u,v,_,_,hv⟩:=Dj h;cases hv
 |x::xs,y::ys,z,h=>by
  rw[Fx] at h
  rcases List.mem_cons.mp h with rfl|h
  ·exact⟨0,x,y,rfl,rfl,rfl⟩
  ·obtain⟨i,u,v,h1,h2,h3⟩:=L5 h
   exact⟨i+1,u,v,h1,h2,h3⟩
abbrev s_is_way:Stmt:=top 19
abbrev Ye:List Str:=["channel", "thing"]
abbrev p_is_way:List Str:=["channel", "thing"]
theorem S0:FnScope Ye p_is_way (Ad s_is_way):=⟨rfl,rfl,rfl,by decide +kernel,rfl,by decide +kernel,by decide +kernel⟩
theorem nd_is_way_1:((["row", "rows"]:List Str)++(["channel", "thing"]:List Str)).Nodup:=by decide +kernel
theorem He:((["ahead", "row"]:List Str)++(["channel", "thing"]:List Str)).Nodup:=by decide +kernel
def spWay:DSp:=fun ds G Q _=>∃cs ws,ds=[chD cs,Ae ws]∧WayOk cs ws∧Q (.bl true) G
theorem Ac6{f:Addr}{fd:FuncData}(F:Fun K "is_way" "is_way" s_is_way f fd)(T:Nums mg)(Agi:Def P w K mg base CX0 5 "check_channel" p_check_channel spCheckC)(Ag8:Def P w K mg base CX0 2 "is_row" Dw (Yl 0 8)):FnOk P w K mg base CX0 6 f fd p_is_way (Al K spWay):=by
 refine okD F S0 (fun ds G Q E h=>?_) (fun cdv A outer s H XE ds G Q E hr h=>?_)
 ·obtain⟨_,_,rfl,_⟩:=h;rfl
 ·obtain⟨cs,ws,rfl,ok,k⟩:=h
  refine⟨_,(@qss_cons _ _ _ _ _ (@qs_expr _ _ _ _ (@q_call _ _ _ _ _ _ _ _ noX _ _ _ Agi (hr.mono (by decide)) (@passN _ _) (@qa_consP _ _ _ _ _ (@q_v1 _ _ 0 _ (by exact⟨rfl,rfl,rfl,rfl⟩)) (@qa_nil _) (by rfl)) (by rfl) (by decide) (by rfl) (by rfl)) (by rfl)) (@qss_cons _ _ _ _ _ (@qs_if _ _ _ _ _ _ _ _ (@qt_of _ _ _ (@qw_or _ _ _ _ _ _ _ (@qt_not _ _ _ _ (@qt_tru _ _ _ (@q_callB _ _ _ _ _ _ _ _ _ (@c_isinst _) (T.blt (by decide)) (by decide +kernel) (@qa_consP _ _ _ _ _ (@q_v1 _ _ 1 _ (by exact⟨rfl,rfl,rfl,rfl⟩)) (@qa_consP _ _ _ _ _ (@q_globty _ _ _ "tuple" (T.blt (by decide)) (by decide +kernel) (by rfl) (by decide) (by decide)) (@qa_nil _) (by rfl)) (by rfl)) (by rfl) (by decide) (by decide) (by rfl) (by rfl)) (by intro _ ;rfl))) (@qw_or1 _ _ _ _ (@qt_cmp _ _ _ _ _ _ _ _ (@o_ne _) (@q_callB _ _ _ _ _ _ _ _ _ (@c_len _) (T.blt (by decide)) (by decide +kernel) (@qa_consP _ _ _ _ _ (@q_v1 _ _ 1 _ (by exact⟨rfl,rfl,rfl,rfl⟩)) (@qa_nil _) (by rfl)) (by rfl) (by decide) (by decide) (by rfl) (by rfl)) (@q_callB _ _ _ _ _ _ _ _ _ (@c_len _) (T.blt (by decide)) (by decide +kernel) (@qa_consP _ _ _ _ _ (@q_v1 _ _ 0 _ (by exact⟨rfl,rfl,rfl,rfl⟩)) (@qa_nil _) (by rfl)) (by rfl) (by decide) (by decide) (by rfl) (by rfl)) (nomark _))))) (@qss_one _ _ _ (@qs_ret _ _ _ _ (@q_bl _ _ _ _))) (@qss_nil _)) (@qss_cons _ _ _ _ _ (@qs_if _ _ _ _ _ _ _ _ (@qt_not _ _ _ _ (@qt_tru _ _ _ (@q_callB _ _ _ _ _ _ _ _ _ (@c_all _ rfl) (T.blt (by decide)) (by decide +kernel) (@qa_consP _ _ _ _ _ (@q_compzZ2 _ _ _ _ _ _ _ _ ["row", "rows"] ["channel", "thing"] _ _ _ _ _ _ _ _ rfl (@compOz _ _ _ _ (by rfl) (by rfl) (by rfl) (by rfl) (by rfl)) (T.blt (by decide)) (@qa_consP _ _ _ _ _ (@q_v1 _ _ 1 _ (by exact⟨rfl,rfl,rfl,rfl⟩)) (@qa_consP _ _ _ _ _ (@q_v1 _ _ 0 _ (by exact⟨rfl,rfl,rfl,rfl⟩)) (@qa_nil _) (by rfl)) (by rfl)) (fun _ _ _=>(@qg_tup _ _ _ _ _ 2 rfl (@qgs_cons _ _ _ _ _ (@qg_name _ _ 0 _ nd_is_way_1 (by rfl) (by exact .inl rfl) (by exact .inr rfl)) (@qgs_cons _ _ _ _ _ (@qg_name _ _ 1 _ nd_is_way_1 (by rfl) (by exact .inl rfl) (by exact .inr rfl)) (@qgs_nil _) (by rfl)) (by rfl)) (by rfl) (by rfl))) (fun _ _ _=>(@qf_nil _)) (fun _ _ _=>(@q_and _ _ _ _ _ _ _ (@q_call _ _ _ _ _ _ _ _ noX _ _ _ Ag8 (hr.mono (by decide)) (@passN _ _) (@qa_consP _ _ _ _ _ (@q_v1 _ _ 0 _ (by exact⟨rfl,rfl,rfl,rfl⟩)) (@qa_nil _) (by rfl)) (by rfl) (by decide) (by rfl) (by rfl)) (@q_one _ _ _ _ _ (@q_cmp _ _ _ _ _ _ _ _ (@o_inD _ _ hr) (@q_v1 _ _ 0 _ (by exact⟨rfl,rfl,rfl,rfl⟩)) (@q_v1 _ _ 1 _ (by exact⟨rfl,rfl,rfl,rfl⟩)) (by with_unfolding_all rfl))))) (by rfl) (by rfl) (by rfl) (by intro _ ;rfl)) (@qa_nil _) (by rfl)) (by rfl) (by decide) (by decide) (by rfl) (by rfl)) (by intro _ ;rfl))) (@qss_one _ _ _ (@qs_ret _ _ _ _ (@q_bl _ _ _ _))) (@qss_nil _)) (@qss_one _ _ _ (@qs_ret _ _ _ _ (@q_callB _ _ _ _ _ _ _ _ _ (@c_all _ rfl) (T.blt (by decide)) (by decide +kernel) (@qa_consP _ _ _ _ _ (@q_compzZ2 _ _ _ _ _ _ _ _ ["ahead", "row"] ["channel", "thing"] _ _ _ _ _ _ _ _ rfl (@compOz _ _ _ _ (by rfl) (by rfl) (by rfl) (by rfl) (by rfl)) (T.blt (by decide)) (@qa_consP _ _ _ _ _ (@q_v1 _ _ 1 _ (by exact⟨rfl,rfl,rfl,rfl⟩)) (@qa_consP _ _ _ _ _ (@q_slice _ _ _ _ _ _ _ _ _ (@q_v1 _ _ 1 _ (by exact⟨rfl,rfl,rfl,rfl⟩)) (@qo_some _ _ _ (@q_int _ _ _ _)) (@qo_none _)) (@qa_nil _) (by rfl)) (by rfl)) (fun _ _ _=>(@qg_tup _ _ _ _ _ 2 rfl (@qgs_cons _ _ _ _ _ (@qg_name _ _ 0 _ He (by rfl) (by exact .inl rfl) (by exact .inr rfl)) (@qgs_cons _ _ _ _ _ (@qg_name _ _ 1 _ He (by rfl) (by exact .inl rfl) (by exact .inr rfl)) (@qgs_nil _) (by rfl)) (by rfl)) (by rfl) (by rfl))) (fun _ _ _=>(@qf_nil _)) (fun _ _ _=>(@q_cmp _ _ _ _ _ _ _ _ (@o_le _) (@q_callB _ _ _ _ _ _ _ _ _ (@U7 _) (T.blt (by decide)) (by decide +kernel) (@qa_consP _ _ _ _ _ (@A9 _ _ _ _ _ _ _ _ (@Hz _) (@q_v1 _ _ 1 _ (by exact⟨rfl,rfl,rfl,rfl⟩)) (@q_v1 _ _ 0 _ (by exact⟨rfl,rfl,rfl,rfl⟩))) (@qa_nil _) (by rfl)) (by rfl) (by decide) (by decide) (by rfl) (by rfl)) (@q_int _ _ _ _) (nomark _))) (by rfl) (by rfl) (by rfl) (by intro _ ;rfl)) (@qa_nil _) (by rfl)) (by rfl) (by decide) (by decide) (by rfl) (by rfl))))))),?_⟩
  simp only[Bk,C4,A0,Ag,Ai,An,List.map_cons,List.map_nil,List.length_cons,List.length_nil,Nat.zero_add,Nat.reduceAdd,Nat.reduceSub,List.replicate,List.cons_append,List.nil_append,List.getElem?_cons_zero,Option.some.injEq,As,spCheckC,List.cons.injEq,and_true,C1,nOr,Ex,D4,nCB,List.getElem?_cons_succ,nC,D.ty.injEq,Bc,Bm,Ht,nSl,D8,D.int.injEq,B7,true_and,exists_eq_left',if_true,Bl,nOp,dNe,eqS,D.bl.injEq,and_assoc,exists_and_left,F4]
  have hsm:=ok.small
  have sz:SzT (chD cs):=fun xs e=>by
   cases e
   refine⟨by rw[List.length_map,sizeLine_eq];omega,fun y hy ys e=>?_⟩
   obtain⟨c,hc,rfl⟩:=List.mem_map.mp hy
   cases e
   rw[List.length_map,sizeLine_eq];have:=hsm.2 c hc;omega
  refine⟨Fm,sz,ok.chan, "tuple",rfl,true,rfl,it1 (by decide) ⟨ws.length,by simp[Ae,Hi],cs.length,by simp[chD,Hi],it1 (by simp[ok.len]) ⟨[ws.map D.int,cs.map Ae],rfl,fun p hp=>?_⟩⟩⟩
  have hzl:(Bx [ws.map D.int,cs.map Ae]).length<sizeLine:=by
   rw[B6,sizeLine_eq]
   simp only[Cq,List.length_map];omega
  refine Ji (fun z=>match z with|.tup [u,v]=>[some u,some v,some (chD cs),some (Ae ws)]|_=>[none,none,some (chD cs),some (Ae ws)]) (fun z=>.bl true) (fun _=>true) hzl (fun _=>rfl) (fun z hz=>?_) (fun z ys hzm hl R1 R2 g1 _=>?_) ?_
  ·obtain⟨u,v,rfl,_,_⟩:=Dj hz
   refine⟨⟨[some u,some v],rfl,rfl⟩,fun G' R h=>?_⟩
   simp only[Gc,D.tup.injEq,Dr,Ao,Gd,List.replicate,List.cons_append,List.nil_append,List.set_cons_zero,List.set_cons_succ,exists_eq_left',List.length_cons,List.length_nil,Nat.zero_add,Nat.reduceAdd,List.cons.injEq,and_assoc,exists_and_left,true_and]
   exact h
  ·obtain⟨i,u,v,hu,hv,rfl⟩:=L5 hzm
   rw[List.getElem?_map] at hu hv
   obtain⟨r,hr1,rfl⟩:=Option.map_eq_some_iff.mp hu
   obtain⟨c,hc1,rfl⟩:=Option.map_eq_some_iff.mp hv
   obtain⟨⟨r0,r8⟩,rc⟩:=ok.row i r c hr1 hc1
   simp only[C3,Nw,A0,Ag,Ai,List.getElem?_cons_zero,Option.some.injEq,As,Yl,List.cons.injEq,and_true,D.bl.injEq,nOp,List.getElem?_cons_succ,hl,true_and,exists_eq_left',Aa,Av,if_true,D.int.injEq,r0,r8]
   refine V0 ?_
   simp only[decide_eq_true rc]
   exact⟨Aa,by rw[Av];exact Fg.of (g1 rfl)⟩
  ·refine⟨p,rfl,(Bx [ws.map D.int,cs.map Ae]).map (fun _=>true),by rw[Aa,Bt,List.map_map];rfl,true,by rw[O9];rfl,it1 (by decide) ?_⟩
   have sg:Sub G (Ac G p (.lst (((Bx [ws.map D.int,cs.map Ae]).filter fun _=>true).map fun _=>.bl true))):=Sub.new hp
   generalize Ac G p (.lst (((Bx [ws.map D.int,cs.map Ae]).filter fun _=>true).map fun _=>.bl true))=G1 at *
   unfold Ae
   rw[Cj,Gj]
   refine⟨[ws.map D.int,(ws.map D.int).drop 1],rfl,fun p2 hp2=>?_⟩
   have hz2:(Bx [ws.map D.int,(ws.map D.int).drop 1]).length<sizeLine:=by
    rw[B6,sizeLine_eq]
    have:=ok.len
    simp only[Cq,List.length_map,List.length_drop];omega
   refine Ji (fun z=>match z with|.tup [u,v]=>[some u,some v,some (chD cs),some (.tup (ws.map D.int))]|_=>[none,none,some (chD cs),some (.tup (ws.map D.int))]) (fun z=>.bl true) (fun _=>true) hz2 (fun _=>rfl) (fun z hz=>?_) (fun z ys hzm hl R1 R2 g1 _=>?_) ?_
   ·obtain⟨u,v,rfl,_,_⟩:=Dj hz
    refine⟨⟨[some u,some v],rfl,rfl⟩,fun G' R h=>?_⟩
    simp only[Gc,D.tup.injEq,Dr,Ao,Gd,List.replicate,List.cons_append,List.nil_append,List.set_cons_zero,List.set_cons_succ,exists_eq_left',List.length_cons,List.length_nil,Nat.zero_add,Nat.reduceAdd,List.cons.injEq,and_assoc,exists_and_left,true_and]
    exact h
   ·obtain⟨i,u,v,hu,hv,rfl⟩:=L5 hzm
    rw[List.getElem?_drop,List.getElem?_map] at hv
    rw[List.getElem?_map] at hu
    obtain⟨r,hr1,rfl⟩:=Option.map_eq_some_iff.mp hu
    obtain⟨t,ht1,rfl⟩:=Option.map_eq_some_iff.mp hv
    obtain⟨s1,s2⟩:=ok.step i r t hr1 (by rw[Nat.add_comm];exact ht1)
    have ab:(if t-r<0 then -(t-r) else t-r)≤1:=by split<;>omega
    simp only[C3,nOp,nCB,Ag,Ai,List.getElem?_cons_succ,List.getElem?_cons_zero,Option.some.injEq,dI0,As,List.cons.injEq,D.int.injEq,and_true,nC,Aa,hl,Av,true_and,exists_eq_left',if_true]
    rw[decide_eq_true ab]
    exact Fg.of (g1 rfl)
   ·refine⟨p2,rfl,(Bx [ws.map D.int,(ws.map D.int).drop 1]).map (fun _=>true),by rw[Aa,Bt,List.map_map];rfl,?_⟩
    rw[O9]
    exact⟨G,sg.skip hp2,k⟩
theorem Wy.ok{cs:List (List Int)}{ws:List Int}(h:Wy cs ws)(ok:ChanN cs):WayOk cs ws:=⟨ok.chan,h.len,⟨ok.hi,ok.len⟩,fun i r c e1 e2=>⟨(ok.rw c (List.mem_of_getElem? e2)).1 r (h.mem i r c e1 e2),h.mem i r c e1 e2⟩,fun i r t e1 e2=>by have:=near_iff.mp (h.nr i r t e1 e2);omega⟩
structure GatesOk(cs:List (List Int))(gs:List (Int×Int)):Prop where
 len:gs.length=cs.length
 lo:∀(i:Nat) g,gs[i]? = some g→∃w,Wy cs w∧w[i]? = some g.1
 hi:∀(i:Nat) g,gs[i]? = some g→∃w,Wy cs w∧w[i]? = some g.2
 inn:∀(i:Nat) g w r,gs[i]? = some g→Wy cs w→w[i]? = some r→g.1≤r∧r≤g.2
theorem Ry{G:Gp}{p q:Addr}{xs ys:List D}(h:G p=some (.lst xs))(h2:G q=some (.lst ys)):Bd G [.ref p,.ref q]=some [xs,ys]:=by
 simp only[Bd,Aq,h,h2]
def GtQ(cs:List (List Int))(t:D)(p1 p2 q:Addr)(rs:List (List Int))(as:List Addr)(G:Gp)(o1:Option D)(i:Nat)(σ:DSt)(G':Gp):Prop:=∃(gs:List (Int×Int)) (v3 v4 v5:Option D),σ=[some t,o1,some (.ref q),v3,v4,v5]∧Sub G G'∧G' p1=some (.lst (rs.map Ae))∧G' p2=some (.lst (as.map D.ref))∧G' q=some (.lst (gs.map Bq))∧DictsAt G' as (onL cs)∧gs.length=i∧
 ∀(j:Nat) g,gs[j]? = some g→(∃w,Wy cs w∧w[j]? = some g.1)∧(∃w,Wy cs w∧w[j]? = some g.2)∧∀w r,Wy cs w→w[j]? = some r→g.1≤r∧r≤g.2
abbrev s_gates:Stmt:=top 32
abbrev Aa1:List Str:=["channel", "reached", "told", "rows", "onward", "passed"]
abbrev p_gates:List Str:=["channel"]
theorem sc_gates:FnScope Aa1 p_gates (Ad s_gates):=⟨rfl,rfl,rfl,by decide +kernel,rfl,by decide +kernel,by decide +kernel⟩
theorem Qk:((["row"]:List Str)++(["channel", "reached", "told", "rows", "onward", "passed"]:List Str)).Nodup:=by decide +kernel
def spGates:DSp:=fun ds G Q _=>∃cs,ds=[chD cs]∧ChanN cs∧(Ab none cs=[]→Q .non G)∧(Ab none cs≠[]→∀p gs G',GatesOk cs gs→Sub G G'→G p=none→G' p=some (.lst (gs.map Bq))→Q (.ref p) G')
theorem Xg{f:Addr}{fd:FuncData}(F:Fun K "gates" "gates" s_gates f fd)(T:Nums mg)(Agi:Def P w K mg base CX0 5 "check_channel" p_check_channel spCheckC)(Agr:Def P w K mg base CX0 3 "rows_reached" p_rows_reached spReached)(Agm:Def P w K mg base CX0 2 "ways_onward" p_ways_onward spOnward):FnOk P w K mg base CX0 6 f fd p_gates (Al K spGates):=by
 refine okD F sc_gates (fun ds G Q E h=>?_) (fun cdv A outer s H XE ds G Q E hr h=>?_)
 ·obtain⟨cs,rfl,_⟩:=h;rfl
 ·obtain⟨cs,rfl,ok,k0,k⟩:=h
  refine⟨_,(@qss_cons _ _ _ _ _ (@qs_expr _ _ _ _ (@q_call _ _ _ _ _ _ _ _ noX _ _ _ Agi (hr.mono (by decide)) (@passN _ _) (@qa_consP _ _ _ _ _ (@q_v1 _ _ 0 _ (by exact⟨rfl,rfl,rfl,rfl⟩)) (@qa_nil _) (by rfl)) (by rfl) (by decide) (by rfl) (by rfl)) (by rfl)) (@qss_cons _ _ _ _ _ (@qs_set _ _ _ _ 1 _ _ sc_gates.nd (@q_call _ _ _ _ _ _ _ _ noX _ _ _ Agr (hr.mono (by decide)) (@passN _ _) (@qa_consP _ _ _ _ _ (@q_v1 _ _ 0 _ (by exact⟨rfl,rfl,rfl,rfl⟩)) (@qa_nil _) (by rfl)) (by rfl) (by decide) (by rfl) (by rfl)) (by rfl) (by exact .inl rfl) (by rfl) (by exact .inl rfl)) (@qss_cons _ _ _ _ _ (@qs_if _ _ _ _ _ _ _ _ (@qt_not _ _ _ _ (@qt_tru _ _ _ (@q_ix _ _ _ _ _ _ (@q_v1 _ _ 1 _ (by exact⟨rfl,rfl,rfl,rfl⟩)) (@q_neg _ _ _ _ (@q_int _ _ _ _)) (by intro _ _ ;rfl)) (by intro _ ;rfl))) (@qss_one _ _ _ (@qs_ret _ _ _ _ (@q_non _ _ _))) (@qss_nil _)) (@qss_cons _ _ _ _ _ (@qs_set _ _ _ _ 2 _ _ sc_gates.nd (@Dh _ _ _ _ (@qa_nil _)) (by rfl) (by exact .inl rfl) (by rfl) (by exact .inl rfl)) (@qss_cons _ _ _ _ _ (@Of _ _ _ _ _ _ _ _ _ _ _ _ PassesOwn.never rfl (T.blt (by decide)) (@qa_consP _ _ _ _ _ (@q_v1 _ _ 1 _ (by exact⟨rfl,rfl,rfl,rfl⟩)) (@qa_consP _ _ _ _ _ (@q_call _ _ _ _ _ _ _ _ noX _ _ _ Agm (hr.mono (by decide)) (@passN _ _) (@qa_consP _ _ _ _ _ (@q_v1 _ _ 0 _ (by exact⟨rfl,rfl,rfl,rfl⟩)) (@qa_nil _) (by rfl)) (by rfl) (by decide) (by rfl) (by rfl)) (@qa_nil _) (by rfl)) (by rfl)) (@qg_tup _ _ _ _ _ 2 rfl (@qgs_cons _ _ _ _ _ (@qg_name _ _ 3 _ sc_gates.nd (by rfl) (by exact .inl rfl) (by exact .inl rfl)) (@qgs_cons _ _ _ _ _ (@qg_name _ _ 4 _ sc_gates.nd (by rfl) (by exact .inr rfl) (by exact .inl rfl)) (@qgs_nil _) (by rfl)) (by rfl)) (by rfl) (by rfl)) (@qss_cons _ _ _ _ _ (@Og _ _ _ _ _ _ _ _ _ _ _ ["row"] ["channel", "reached", "told", "rows", "onward", "passed"] 5 _ _ _ rfl (@compOz _ _ _ _ (by rfl) (by rfl) (by rfl) (by rfl) (by rfl)) (@q_v1 _ _ 3 _ (by exact⟨rfl,rfl,rfl,rfl⟩)) (fun _ _ _=>(@qg_name _ _ 0 _ Qk (by rfl) (by exact .inl rfl) (by exact .inr rfl))) (fun _ _ _=>(@E6 _ _ _ (@qt_cmp _ _ _ _ _ _ _ _ (@Yq _) (@Ig _ _ _ _ _ _ (@q_v2 _ _ 5 _ (by exact⟨rfl,rfl,rfl,rfl⟩)) (@q_v1 _ _ 0 _ (by exact⟨rfl,rfl,rfl,rfl⟩)) (by intro _ _ ;rfl)) (@q_int _ _ _ _) (nomark _)))) (fun _ _ _=>(@q_v1 _ _ 0 _ (by exact⟨rfl,rfl,rfl,rfl⟩))) sc_gates.nd rfl (by rfl) (by first|exact .inl rfl|exact .inr rfl) (by first|exact .inl rfl|exact .inr rfl) (by intro _ ;rfl)) (@qss_one _ _ _ (@qs_expr _ _ _ _ (@q_app _ _ _ _ _ _ _ (@q_v1 _ _ 2 _ (by exact⟨rfl,rfl,rfl,rfl⟩)) (@Cp _ _ _ _ _ (@qa_consP _ _ _ _ _ (@q_ix _ _ _ _ _ _ (@q_v1 _ _ 5 _ (by exact⟨rfl,rfl,rfl,rfl⟩)) (@q_int _ _ _ _) (by intro _ _ ;rfl)) (@qa_consP _ _ _ _ _ (@q_ix _ _ _ _ _ _ (@q_v1 _ _ 5 _ (by exact⟨rfl,rfl,rfl,rfl⟩)) (@q_neg _ _ _ _ (@q_int _ _ _ _)) (by intro _ _ ;rfl)) (@qa_nil _) (by rfl)) (by rfl))) (by rfl) (by rfl) (by rfl) (by rfl) (by rfl)) (by rfl)))) (by rfl) (by rfl) (by rfl) (by intro _ ;rfl) _) (@qss_one _ _ _ (@qs_ret _ _ _ _ (@q_v1 _ _ 2 _ (by exact⟨rfl,rfl,rfl,rfl⟩))))))))),?_⟩
  have sz0:0≤sizeLine:=Nat.zero_le _
  have sz2:=sz2
  simp only[Bk,C4,A0,Ag,Ai,An,List.map_cons,List.map_nil,List.length_cons,List.length_nil,Nat.zero_add,Nat.reduceAdd,Nat.reduceSub,List.replicate,List.cons_append,List.nil_append,List.getElem?_cons_zero,Option.some.injEq,As,Cg,Ao,C1,Ex,D4,nOp,List.set_cons_succ,List.set_cons_zero,List.getElem?_cons_succ,Ey,nC,D.int.injEq,dIx,Bc,Bm,Ez,sz0,Ky,true_and,exists_eq_left',Int.reduceNeg]
  have lnc:=ok.len
  have hhi:=ok.hi
  obtain⟨c,rest,rfl,hrest⟩:=ok.head
  refine⟨_,rfl,Fm,Me ok,ok.chan,c::rest,rfl,by simp,by omega,fun d hd=>by have:=lnc d hd;omega,fun p1 hp1=>?_⟩
  obtain⟨rw1,rfull⟩:=Jn (c:=c) hrest
  have e1:B5 (Ac G p1 (.lst ((Aw (c::rest)).map Ae))) (.ref p1) (-1)=some (Ae ((Aw (c::rest)).getLastD [])):=by
   rw[Be Aa];exact Hw (Oc _)
  simp only[Int.reduceNeg,e1,Option.some.injEq,exists_eq_left']
  refine⟨!((Aw (c::rest)).getLastD []).isEmpty,by cases h:(Aw (c::rest)).getLastD []<;>rfl,?_⟩
  cases hlast:((Aw (c::rest)).getLastD []).isEmpty with
  |true=>exact it0 (by simp) ⟨G,Sub.new hp1,k0 (rw1.mp hlast)⟩
  |false=>
   refine it1 (by simp) ?_
   have hne:Ab none (c::rest)≠[]:=fun z=>by rw[rw1.mpr z] at hlast;cases hlast
   rw[rfull hlast]
   have sb1:Sub G (Ac G p1 (.lst ((c::rch c rest).map Ae))):=Sub.new hp1
   have f1:Ac G p1 (.lst ((c::rch c rest).map Ae)) p1=some (.lst ((c::rch c rest).map Ae)):=Aa
   generalize Ac G p1 (.lst ((c::rch c rest).map Ae))=G1 at *
   intro q hq
   have hqG:=sb1.none hq
   refine⟨c::rest,rfl,ok,fun p2 as G2 sb2 hp2 d=>⟨_,Ry (sb2 _ _ (Bj f1 hq)) hp2,?_⟩⟩
   have f2:=sb2 _ _ (Bj (u:=.lst []) f1 hq)
   have q2:G2 q=some (.lst []):=sb2 _ _ Aa
   have sbG:Sub G G2:=(sb1.skip hq).trans sb2
   have has:as.length=rest.length+1:=by have:=Paired.length d;rw[Ml] at this;exact this
   have nq1:p1≠q:=gne f1 hq
   have nq2:p2≠q:=fun z=>by
    rw[z,q2] at hp2
    cases as with
    |nil=>simp at has
    |cons _ _=>cases hp2
   have hup:∀R∈c::rch c rest,R.Pairwise (· < ·)∧R.length≤9:=fun R hR=>by
    rcases List.mem_cons.mp hR with rfl|hR
    ·exact⟨ok.up R (by simp),lnc R (by simp)⟩
    ·obtain⟨e,he,sub⟩:=Mj hR
     exact⟨(ok.up e (by simp[he])).sublist sub,Nat.le_trans sub.length_le (lnc e (by simp[he]))⟩
   have hrl:rest.length≤15:=by rw[List.length_cons] at hhi;omega
   refine Bh (GtQ (c::rest) (chD (c::rest)) p1 p2 q (c::rch c rest) as G (some (.ref p1))) ⟨[],none,none,none,rfl,sbG,f2,hp2,q2,d,rfl,fun j g e=>by simp at e⟩ ?_ ?_ ?_
   ·rintro i σ G3 _ ⟨gs,v3,v4,v5,rfl,_,h1,h2,_⟩
    exact Ry h1 h2
   ·rintro i x σ G3 hx ⟨gs,v3,v4,v5,rfl,s3,h1,h2,h3,d3,hgl,hgs⟩
    obtain⟨u1,u2,e1,e2,rfl⟩:=Py hx
    rw[List.getElem?_map] at e1 e2
    obtain⟨R,hR,rfl⟩:=Option.map_eq_some_iff.mp e1
    obtain⟨a,ha,rfl⟩:=Option.map_eq_some_iff.mp e2
    have hil:i<(c::rest).length:=by rw[List.length_cons,←has];exact(List.getElem?_eq_some_iff.mp ha).1
    have hci:(c::rest)[i]? = some (c::rest)[i]:=List.getElem?_eq_getElem hil
    obtain⟨a',ha',hd'⟩:=d3.get (Mm hci)
    rw[ha] at ha';cases ha'
    have hRm:=List.mem_of_getElem? hR
    obtain⟨hRup,hRl⟩:=hup R hRm
    have hRc:∀r∈R,r∈(c::rest)[i]:=fun r hr=>by
     obtain⟨u,hu,e⟩:=(Jc hR).mp hr
     exact hu.mem i r _ e (by rw[List.getElem?_take,if_pos (by omega)];exact hci)
    have keys:((c::rest)[i].map fun r=>(r,((Ab (some r) ((c::rest).drop (i+1))).length:Int))).map (·.1)=(c::rest)[i]:=Ei
    have hpass:∀r,r∈R.filter (fun r=>decide (0<(Ab (some r) ((c::rest).drop (i+1))).length))↔∃w,Wy (c::rest) w∧w[i]? = some r:=fun r=>by
     rw[List.mem_filter,decide_eq_true_eq];exact passed hR
    simp only[Gc,D.tup.injEq,Dr,Ao,Gd,Bk,Cg,Ci,Ai,List.set_cons_succ,List.set_cons_zero,List.getElem?_cons_succ,List.getElem?_cons_zero,Option.some.injEq,C4,Nk,L0,Ag,nOp,nC,dIx,D.int.injEq,Ey,As,List.length_cons,List.length_nil,Nat.zero_add,Nat.reduceAdd,exists_eq_left',Int.reduceNeg,D.ref.injEq,List.cons.injEq,and_assoc,exists_and_left,true_and]
    refine⟨R.map D.int,rfl,fun p4 hp4=>?_⟩
    refine Cs id (fun d=>decide (0<(Ab (some (Bb d)) ((c::rest).drop (i+1))).length)) (by rw[List.length_map];exact Ea (by omega)) (fun _=>rfl) (fun x ys hx hlz R1 R2 g1 g2=>?_) ?_
    ·obtain⟨o,ho,rfl⟩:=List.mem_map.mp hx
     have ga:=Bj (u:=.lst ys) hd' hp4
     simp only[Ao,List.replicate,List.cons_append,List.nil_append,List.set_cons_zero,Bl,nOp,Nu,Ai,List.getElem?_cons_succ,List.getElem?_cons_zero,Option.some.injEq,Kh,nC,dI0,D.int.injEq,D.bl.injEq,Aa,Av,true_and,exists_eq_left',decide_eq_true_eq,D.ref.injEq,ga]
     refine⟨⟨[_],rfl,rfl⟩,_,rfl,_,Np (by rw[keys];exact hRc o ho),_,rfl,?_⟩
     rw[L6 (hRc o ho)]
     by_cases hz:0<(Ab (some o) ((c::rest).drop (i+1))).length
     ·exact it0 (by omega) ⟨hlz,Fg.of (g1 (decide_eq_true hz))⟩
     ·exact it1 (by omega) (Fg.of (g2 (decide_eq_false hz)))
    ·have em:((R.map D.int).filter fun d=>decide (0<(Ab (some (Bb d)) ((c::rest).drop (i+1))).length)).map id=(R.filter fun r=>decide (0<(Ab (some r) ((c::rest).drop (i+1))).length)).map D.int:=by
      rw[List.map_id,List.filter_map];rfl
     rw[em]
     have hPup:(R.filter fun r=>decide (0<(Ab (some r) ((c::rest).drop (i+1))).length)).Pairwise (· < ·):=hRup.filter _
     generalize R.filter (fun r=>decide (0<(Ab (some r) ((c::rest).drop (i+1))).length))=Ps at *
     obtain⟨w0,hw0⟩:=List.exists_mem_of_ne_nil _ hne
     have hw0:=mem_ways.mp hw0
     have hPne:Ps≠[]:=fun z=>by
      have:w0[i]? = some (w0[i]'(by rw[hw0.len];exact hil)):=List.getElem?_eq_getElem _
      have:=(hpass _).mpr ⟨w0,hw0,this⟩
      rw[z] at this;simp at this
     obtain⟨init,l,el⟩:=Bw hPne
     obtain⟨y,t,ey⟩:∃y t,Ps=y::t:=by
      cases Ps with
      |nil=>exact absurd rfl hPne
      |cons y t=>exact⟨y,t,rfl⟩
     have f4:Ac G3 p4 (.lst (Ps.map D.int)) p4=some (.lst (Ps.map D.int)):=Aa
     have s4:Sub G3 (Ac G3 p4 (.lst (Ps.map D.int))):=Sub.new hp4
     have i0:B5 (Ac G3 p4 (.lst (Ps.map D.int))) (.ref p4) 0=some (.int y):=by rw[Be f4,ey,List.map_cons];exact Sk
     have i1:B5 (Ac G3 p4 (.lst (Ps.map D.int))) (.ref p4) (-1)=some (.int l):=by rw[Be f4,el,List.map_append];exact Cl _ _
     generalize Ac G3 p4 (.lst (Ps.map D.int))=G4 at *
     have q4:=s4 _ _ h3
     simp only[q4,Option.some.injEq,GO.lst.injEq,i0,Int.reduceNeg,i1,sz2,exists_eq_left',true_and]
     refine⟨⟨_,rfl⟩,by rw[List.length_map];exact Ea (by omega),Fs.of ⟨gs++[(y,l)],_,_,_,rfl,Sub.over (s3.trans s4) hqG _,by rw[Af nq1];exact s4 _ _ h1,by rw[Af nq2];exact s4 _ _ h2,by rw[Aa,List.map_append];rfl,DictsAt.put q4 (fun ps z=>by cases z) (d3.sub s4),by rw[List.length_append,hgl];rfl,fun j g e=>?_⟩⟩
     by_cases hj:j<gs.length
     ·rw[List.getElem?_append_left hj] at e;exact hgs j g e
     ·have hji:j=i:=by
       have:=(List.getElem?_eq_some_iff.mp e).1
       rw[List.length_append,List.length_singleton] at this;omega
      subst hji
      rw[List.getElem?_append_right (by omega),hgl,Nat.sub_self] at e
      simp at e;subst e
      refine⟨(hpass y).mp (by rw[ey];exact List.mem_cons_self ..),(hpass l).mp (by rw[el];simp),fun u r hu eu=>?_⟩
      have hr:=(hpass r).mpr ⟨u,hu,eu⟩
      constructor
      ·rw[ey] at hr hPup
       rcases List.mem_cons.mp hr with rfl|hr
       ·exact Int.le_refl _
       ·exact Int.le_of_lt ((List.pairwise_cons.mp hPup).1 r hr)
      ·rw[el] at hr hPup
       rcases List.mem_append.mp hr with hr|hr
       ·exact Int.le_of_lt ((List.pairwise_append.mp hPup).2.2 r hr l (by simp))
       ·simp at hr;subst hr;exact Int.le_refl _
   ·rintro σ G3 ⟨gs,v3,v4,v5,rfl,s3,h1,h2,h3,d3,hgl,hgs⟩
    have hn:(Bx [(c::rch c rest).map Ae,as.map D.ref]).length=rest.length+1:=by rw[B6];simp[Cq,has,Dl]
    rw[hn] at hgl
    simp only[Bc,Ai,List.getElem?_cons_succ,List.getElem?_cons_zero,Option.some.injEq,exists_eq_left']
    exact Fq.of (k hne q gs G3 ⟨by rw[hgl,List.length_cons],fun i g e=>(hgs i g e).1,fun i g e=>(hgs i g e).2.1,fun i g u r e=>(hgs i g e).2.2 u r⟩ s3 hqG h3)
end
end K2
namespace K2
open PySem L2 D3
section
variable{P:Program}{w:World}{K:W.Frag}{mg:Str→Option Value}{base:Heap}
def RowOk(c:List Int):Prop:=(∀i∈c,0≤i∧i≤8)∧c.Pairwise (· < ·)
theorem RowOk.nil:RowOk []:=⟨by simp,.nil⟩
theorem Ze{xs:List (List Int)}{j:Nat}{y:List Int}:(xs.map Ae).set j (Ae y)=(xs.set j y).map Ae:=by rw[List.map_set]
abbrev s_L_channel:Stmt:=top 38
abbrev Po:List Str:=["_law_box_here", "_law_most", "_law_count", "_law_rows", "_law_found", "_law_thin", "_law_column"]
abbrev p_L_channel:List Str:=["_law_box_here", "_law_most"]
theorem sc_L_channel:FnScope Po p_L_channel (Ad s_L_channel):=⟨rfl,rfl,rfl,by decide +kernel,rfl,by decide +kernel,by decide +kernel⟩
theorem J6:((["_law_row"]:List Str)++(["_law_box_here", "_law_most", "_law_count", "_law_rows", "_law_found", "_law_thin", "_law_column"]:List Str)).Nodup:=by decide +kernel
def spLChan:DSp:=fun ds G Q _=>∃a m,ds=[.ref a,.int m]∧(∃b,G a=some (.lst [.int b]))∧2≤m∧m≤16∧∀cs G',Step a G G'→ChanN cs→(cs.length:Int)≤m→Q (chD cs) G'
theorem Xe{f:Addr}{fd:FuncData}(F:Fun K "_law_channel" "_law_channel" s_L_channel f fd)(T:Blt mg)(Agj:Def P w K mg base CX0 1 "_law_take" p_L_take spTake):FnOk P w K mg base CX0 2 f fd p_L_channel (Al K spLChan):=by
 refine okD F sc_L_channel (fun ds G Q E h=>?_) (fun cdv A outer s H XE ds G Q E hr h=>?_)
 ·obtain⟨a,m,rfl,_⟩:=h;rfl
 ·obtain⟨a,m,rfl,hG,m2,m16,q⟩:=h
  refine⟨_,(@qss_cons _ _ _ _ _ (@Zi _ _ 2 3 4 _ _ _ _ _ _ _ _ _ _ _ _ _ _ rfl sc_L_channel.nd (@qa_consP _ _ _ _ _ (@A9 _ _ _ _ _ _ _ _ (@A5 _) (@q_int _ _ _ _) (@q_call _ _ _ _ _ _ _ _ noX _ _ _ Agj (hr.mono (by decide)) (@passN _ _) (@qa_consP _ _ _ _ _ (@q_v2 _ _ 0 _ (by exact⟨rfl,rfl,rfl,rfl⟩)) (@qa_consP _ _ _ _ _ (@A9 _ _ _ _ _ _ _ _ (@Hz _) (@q_v1 _ _ 1 _ (by exact⟨rfl,rfl,rfl,rfl⟩)) (@q_int _ _ _ _)) (@qa_nil _) (by rfl)) (by rfl)) (by rfl) (by decide) (by rfl) (by rfl))) (@qa_consP _ _ _ _ _ (@A9 _ _ _ _ _ _ _ _ (@A5 _) (@q_int _ _ _ _) (@q_call _ _ _ _ _ _ _ _ noX _ _ _ Agj (hr.mono (by decide)) (@passN _ _) (@qa_consP _ _ _ _ _ (@q_v2 _ _ 0 _ (by exact⟨rfl,rfl,rfl,rfl⟩)) (@qa_consP _ _ _ _ _ (@q_int _ _ _ _) (@qa_nil _) (by rfl)) (by rfl)) (by rfl) (by decide) (by rfl) (by rfl))) (@qa_consP _ _ _ _ _ (@Dh _ _ _ _ (@qa_nil _)) (@qa_nil _) (by rfl)) (by rfl)) (by rfl)) (by rfl) (by rfl) (by rfl) (by decide) (by decide) (by decide) (by rfl) (by rfl) (by rfl) (by rfl) (by rfl)) (@qss_cons _ _ _ _ _ (@qs_set _ _ _ _ 5 _ _ sc_L_channel.nd (@A9 _ _ _ _ _ _ _ _ (@A5 _) (@q_int _ _ _ _) (@q_call _ _ _ _ _ _ _ _ noX _ _ _ Agj (hr.mono (by decide)) (@passN _ _) (@qa_consP _ _ _ _ _ (@q_v2 _ _ 0 _ (by exact⟨rfl,rfl,rfl,rfl⟩)) (@qa_consP _ _ _ _ _ (@q_int _ _ _ _) (@qa_nil _) (by rfl)) (by rfl)) (by rfl) (by decide) (by rfl) (by rfl))) (by rfl) (by exact .inr rfl) (by rfl) (by exact .inl rfl)) (@qss_cons _ _ _ _ _ (@Hs _ _ _ _ _ _ _ _ _ _ PassesOwn.never rfl (T.blt (by decide)) (@qa_consP _ _ _ _ _ (@q_v1 _ _ 2 _ (by exact⟨rfl,rfl,rfl,rfl⟩)) (@qa_nil _) (by rfl)) (@qg_name _ _ 6 _ sc_L_channel.nd (by rfl) (by exact .inl rfl) (by exact .inl rfl)) (@qss_one _ _ _ (@qs_expr _ _ _ _ (@q_app _ _ _ _ _ _ _ (@q_v1 _ _ 4 _ (by exact⟨rfl,rfl,rfl,rfl⟩)) (@q_callTy _ _ _ _ _ _ _ _ _ (@c_tuple _) (T.blt (by decide)) (by decide +kernel) (@qa_consP _ _ _ _ _ (@Oh _ _ _ _ _ _ _ _ _ ["_law_row"] ["_law_box_here", "_law_most", "_law_count", "_law_rows", "_law_found", "_law_thin", "_law_column"] _ _ _ _ rfl (@compOz _ _ _ _ (by rfl) (by rfl) (by rfl) (by rfl) (by rfl)) (T.blt (by decide)) (@qa_consP _ _ _ _ _ (@q_v1 _ _ 3 _ (by exact⟨rfl,rfl,rfl,rfl⟩)) (@qa_nil _) (by rfl)) (fun _ _ _=>(@qg_name _ _ 0 _ J6 (by rfl) (by exact .inl rfl) (by exact .inr rfl))) (fun _ _ _=>(@E6 _ _ _ (@qt_cmp _ _ _ _ _ _ _ _ (@Yq _) (@q_call _ _ _ _ _ _ _ _ noX _ _ _ Agj (hr.mono (by decide)) (@passN _ _) (@qa_consP _ _ _ _ _ (@q_v2 _ _ 1 _ (by exact⟨rfl,rfl,rfl,rfl⟩)) (@qa_consP _ _ _ _ _ (@q_v2 _ _ 6 _ (by exact⟨rfl,rfl,rfl,rfl⟩)) (@qa_nil _) (by rfl)) (by rfl)) (by rfl) (by decide) (by rfl) (by rfl)) (@q_int _ _ _ _) (nomark _)))) (fun _ _ _=>(@q_v1 _ _ 0 _ (by exact⟨rfl,rfl,rfl,rfl⟩))) (by rfl) (by rfl) (by intro _ ;rfl)) (@qa_nil _) (by rfl)) (by rfl) (by decide) (by decide) (by rfl) (by rfl)) (by rfl) (by rfl) (by rfl) (by rfl) (by rfl)) (by rfl))) (by rfl) (by rfl) (by intro _ ;rfl)) (@qss_cons _ _ _ _ _ (@Aca _ _ _ _ _ _ _ _ (@qt_cmp _ _ _ _ _ _ _ _ (@Nj _) (@q_call _ _ _ _ _ _ _ _ noX _ _ _ Agj (hr.mono (by decide)) (@passN _ _) (@qa_consP _ _ _ _ _ (@q_v2 _ _ 0 _ (by exact⟨rfl,rfl,rfl,rfl⟩)) (@qa_consP _ _ _ _ _ (@q_int _ _ _ _) (@qa_nil _) (by rfl)) (by rfl)) (by rfl) (by decide) (by rfl) (by rfl)) (@q_int _ _ _ _) (nomark _)) (@qss_one _ _ _ (@E5 _ _ _ _ _ _ (@Cp _ _ _ _ _ (@qa_nil _)) (@P5 _ _ _ _ _ _ _ (@q_v1 _ _ 4 _ (by exact⟨rfl,rfl,rfl,rfl⟩)) (@q_call _ _ _ _ _ _ _ _ noX _ _ _ Agj (hr.mono (by decide)) (@passN _ _) (@qa_consP _ _ _ _ _ (@q_v2 _ _ 0 _ (by exact⟨rfl,rfl,rfl,rfl⟩)) (@qa_consP _ _ _ _ _ (@q_v1 _ _ 2 _ (by exact⟨rfl,rfl,rfl,rfl⟩)) (@qa_nil _) (by rfl)) (by rfl)) (by rfl) (by decide) (by rfl) (by rfl)) (@Ve _) (by intro _ ;rfl)) (by rfl) (by rfl) (by rfl))) (@qss_nil _)) (@qss_one _ _ _ (@qs_ret _ _ _ _ (@q_callTy _ _ _ _ _ _ _ _ _ (@c_tuple _) (T.blt (by decide)) (by decide +kernel) (@qa_consP _ _ _ _ _ (@q_v1 _ _ 4 _ (by exact⟨rfl,rfl,rfl,rfl⟩)) (@qa_nil _) (by rfl)) (by rfl) (by decide) (by decide) (by rfl) (by rfl)))))))),?_⟩
  have sz0:0≤sizeLine:=szl (by decide)
  simp only[Bk,Abe,Ag,nOp,nC,A0,Ai,An,List.map_cons,List.map_nil,List.length_cons,List.length_nil,Nat.zero_add,Nat.reduceAdd,Nat.reduceSub,List.replicate,List.cons_append,List.nil_append,List.getElem?_cons_zero,Option.some.injEq,List.getElem?_cons_succ,dI0,D.int.injEq,As,Ez,sz0,List.cons.injEq,and_true,Cg,List.set_cons_succ,List.set_cons_zero,Ao,Nv,Int.reducePow,Int.reduceNeg,and_assoc,exists_eq_left',exists_and_left,true_and]
  refine Cu hG (by omega) (by omega) fun r1 b1 r10 r11=>?_
  have s1:=(Step.refl hG).take b1
  generalize Ac G a (.lst [.int b1])=G1 at *
  rw[Dc]
  refine Cu s1.box (by decide) (by decide) fun r2 b2 r20 r21=>?_
  have s2:=s1.take b2
  generalize Ac G1 a (.lst [.int b2])=G2 at *
  rw[Dc]
  intro pf hf
  have nf:=Step.ne s2.box hf
  have f0:=s2.back hf
  have s3:=s2.lay (o:=.lst []) hf
  have g3:Ac G2 pf (.lst []) pf=some (.lst []):=Aa
  generalize Ac G2 pf (.lst [])=G3 at *
  refine Cu s3.box (by decide) (by decide) fun r3 b3 r30 r31=>?_
  have s4:=s3.take b3
  have g4:Ac G3 a (.lst [.int b3]) pf=some (.lst []):=by rw[Af nf.symm];exact g3
  generalize Ac G3 a (.lst [.int b3])=G4 at *
  simp only[D.int.injEq,Int.reduceNeg,exists_eq_left',Dc]
  refine⟨by omega,by omega,?_⟩
  refine Df (fun i σ G'=>∃v,σ=[some (.ref a),some (.int m),some (.int (2+r1)),some (.int (1+r2)),some (.ref pf),some (.int (2+r3)),v]∧Step a G G'∧∃cs:List (List Int),G' pf=some (.lst (cs.map Ae))∧cs.length=i∧∀c∈cs,RowOk c) ⟨none,rfl,s4,[],g4,rfl,by simp⟩ ?_ ?_
  ·rintro i σ G5 hi ⟨v,rfl,s5,cs,g5,hl,hrw⟩
   have szc:cs.length<sizeLine:=Nat.lt_of_le_of_lt (show cs.length≤100 by omega) (Bv (by decide))
   simp only[Ao,C4,Nk,Ai,List.set_cons_succ,List.set_cons_zero,List.getElem?_cons_succ,List.getElem?_cons_zero,Option.some.injEq,nCB,Ag,Mo,As,List.cons.injEq,and_true,Int.reducePow,Int.reduceNeg,exists_eq_left',and_assoc,D.int.injEq,D.ref.injEq,g5,GO.lst.injEq]
   refine⟨⟨_,rfl⟩,by omega,by omega,fun pc hc=>?_⟩
   have c0:=s5.back hc
   have nc:=Step.ne s5.box hc
   have npf:pf≠pc:=gne g5 hc
   refine⟨fun j ys G6=>∃ns:List Int,ys=ns.map D.int∧Step a G G6∧G6 pf=some (.lst (cs.map Ae))∧G6 pc=some (.lst ys)∧ns.Pairwise (· < ·)∧(∀k∈ns,0≤k∧k<(j:Int))∧ns.length≤j,⟨[],rfl,s5.lay hc,Bj g5 hc,Aa,.nil,by simp,Nat.zero_le _⟩,fun j ys G6 _ ⟨ns,_,_,_,e,_⟩=>⟨trivial,e⟩,?_,?_⟩
   ·rintro j x ys G6 hx ⟨ns,rfl,s6,g6,gc6,hp,hb,hnl⟩
    have hj:j<(1+r2).toNat:=by
     have:=(List.getElem?_eq_some_iff.mp hx).1
     rw[Bs] at this;exact this
    rw[Ee hj] at hx
    cases hx
    simp only[Ao,List.replicate,List.cons_append,List.nil_append,List.set_cons_zero,Bl,nOp,A0,Ag,Ai,List.getElem?_cons_succ,List.getElem?_cons_zero,Option.some.injEq,As,nC,dI0,D.int.injEq,D.bl.injEq,exists_eq_left',decide_eq_true_eq]
    refine⟨⟨[some (.int j)],rfl,rfl⟩,Cu s6.box (by omega) (by omega) fun r b' r0 r1'=>?_⟩
    have s7:=s6.take b'
    have g7:Ac G6 a (.lst [.int b']) pf=some (.lst (cs.map Ae)):=by rw[Af nf.symm];exact g6
    have gc7:Ac G6 a (.lst [.int b']) pc=some (.lst (ns.map D.int)):=by rw[Af nc.symm];exact gc6
    generalize Ac G6 a (.lst [.int b'])=G7 at *
    simp only[D.int.injEq,exists_eq_left']
    by_cases hr:0<r
    ·rw[if_pos hr]
     refine⟨gc7,?_,Fg.of ⟨ns++[(j:Int)],by simp,s7.write c0 nc,?_,Aa,?_,?_,by simp;omega⟩⟩
     ·rw[List.length_map];exact Nat.lt_of_le_of_lt (show ns.length≤100 by omega) (Bv (by decide))
     ·rw[Af npf];exact g7
     ·refine List.pairwise_append.mpr ⟨hp,by simp,fun x hx y hy=>?_⟩
      rw[List.mem_singleton.mp hy];exact(hb x hx).2
     ·intro k hk
      rcases List.mem_append.mp hk with z|z
      ·have:=hb k z;omega
      ·rw[List.mem_singleton.mp z];omega
    ·rw[if_neg hr]
     exact Fg.of ⟨ns,rfl,s7,g7,gc7,hp,fun k hk=>by have:=hb k hk;omega,by omega⟩
   ·rintro ys G6 ⟨ns,rfl,s6,g6,gc6,hp,hb,hnl⟩
    rw[Bs] at hb
    have rok:RowOk ns:=⟨fun k hk=>by have:=hb k hk;omega,hp⟩
    simp only[Ah gc6,Option.some.injEq,g6,GO.lst.injEq,exists_eq_left']
    refine⟨by rw[List.length_map];exact szc,Fs.of ⟨_,rfl,s6.write f0 nf,cs++[ns],by rw[Aa,List.map_append];rfl,by simp[hl],fun c hc=>?_⟩⟩
    rcases List.mem_append.mp hc with z|z
    ·exact hrw c z
    ·rw[List.mem_singleton.mp z];exact rok
  ·rintro σ G5 ⟨v,rfl,s5,cs,g5,hl,hrw⟩
   have hlc:(cs.length:Int)=2+r1:=by omega
   simp only[Bk,nIfM,Bl,nOp,A0,Ag,Ai,List.getElem?_cons_zero,Option.some.injEq,nC,As,dEq,eqS,D.bl.injEq,Cg,L0,List.length_nil,Yt,List.getElem?_cons_succ,U5,exists_eq_left',D.ref.injEq,Bm,Bc,nCB,List.cons.injEq,and_true]
   refine⟨fun σ' G'=>∃v,σ'=[some (.ref a),some (.int m),some (.int (2+r1)),some (.int (1+r2)),some (.ref pf),some (.int (2+r3)),v]∧Step a G G'∧∃cs:List (List Int),G' pf=some (.lst (cs.map Ae))∧(cs.length:Int)=2+r1∧∀c∈cs,RowOk c,?_,?_⟩
   ·refine Cu s5.box (by decide) (by decide) fun r b' r0 r1'=>?_
    have s6:=s5.take b'
    have g6:Ac G5 a (.lst [.int b']) pf=some (.lst (cs.map Ae)):=by rw[Af nf.symm];exact g5
    generalize Ac G5 a (.lst [.int b'])=G6 at *
    simp only[Option.some.injEq,exists_eq_left',decide_eq_true_eq]
    by_cases h5:r=5
    ·rw[if_pos h5]
     refine⟨sz0,Cu (c:=2+r1) s6.box (by omega) (by omega) fun j b2 j0 j1=>?_⟩
     have s7:=s6.take b2
     have g7:Ac G6 a (.lst [.int b2]) pf=some (.lst (cs.map Ae)):=by rw[Af nf.symm];exact g6
     generalize Ac G6 a (.lst [.int b2])=G7 at *
     simp only[D.int.injEq,g7,Option.some.injEq,GO.lst.injEq,exists_eq_left']
     refine⟨j.toNat,by unfold ixN;rw[if_pos j0,if_pos (by rw[List.length_map];omega)],Fs.of ⟨_,rfl,s7.write f0 nf,cs.set j.toNat [],by rw[Aa];exact congrArg (fun z=>some (GO.lst z)) (Ze (y:=[])),by rw[List.length_set];exact hlc,fun c hc=>?_⟩⟩
     rcases List.mem_or_eq_of_mem_set hc with z|z
     ·exact hrw c z
     ·rw[z];exact RowOk.nil
    ·rw[if_neg h5]
     exact Fs.of ⟨_,rfl,s6,cs,g6,hlc,hrw⟩
   ·rintro σ' G6 ⟨v,rfl,s6,cs,g6,hlc,hrw⟩
    simp only[List.getElem?_cons_succ,List.getElem?_cons_zero,Option.some.injEq,exists_eq_left',Ah g6]
    exact Fq.of (q cs G6 s6 ⟨by omega,by omega,hrw⟩ (by omega))
theorem near3{c:List Int}(h:c.Pairwise (· < ·))(r:Int):(c.filter (Az r)).length≤3:=by
 have:=Ed id (a:=c.filter (Az r)) (b:=[r-1,r,r+1]) ((h.filter _).imp fun {a b} z e=>by omega) (fun x hx=>by
  have:=near_iff.mp (List.mem_filter.mp hx).2
  show x∈[r-1,r,r+1]
  simp only[List.mem_cons,List.not_mem_nil,or_false];omega) fun _ _ _ _ e=>e
 simpa using this
theorem P2{f:Int→Nat}{m:Nat}:∀{l:List Int},(∀x∈l,f x≤m)→(l.map f).sum≤l.length*m
 |[],_=>by simp
 |x::r,h=>by
  have:=P2 (l:=r) fun y hy=>h y (by simp[hy])
  have:=h x (by simp)
  rw[List.map_cons,List.sum_cons,List.length_cons,Nat.add_mul];omega
theorem cnt3:∀{cs:List (List Int)} (r:Int),(∀c∈cs,c.Pairwise (· < ·))→(Ab (some r) cs).length≤3 ^ cs.length
 |[],r,_=>by simp[Ab]
 |c::cs,r,h=>by
  rw[Mt]
  refine Nat.le_trans (P2 fun x _=>cnt3 x fun d hd=>h d (by simp[hd])) ?_
  rw[List.length_cons,Nat.pow_succ,Nat.mul_comm]
  exact Nat.mul_le_mul_left _ (near3 (h c (by simp)) r)
theorem ChanN.cnt{cs:List (List Int)}(ok:ChanN cs):(Ab none cs).length<1000000000:=by
 obtain⟨c,r,rfl,_⟩:=ok.head
 rw[Mt]
 have h1:=P2 (f:=fun y=>(Ab (some y) r).length) (m:=3 ^ 15) (l:=c.filter (okp none)) fun x _=>by
  refine Nat.le_trans (cnt3 x fun d hd=>ok.up d (by simp[hd])) (Nat.pow_le_pow_right (by decide) ?_)
  have:=ok.hi;rw[List.length_cons] at this;omega
 have h2:(c.filter (okp none)).length≤9:=Nat.le_trans (List.length_filter_le _ _) (ok.len c (by simp))
 have h3:(c.filter (okp none)).length*3 ^ 15≤9*3 ^ 15:=Nat.mul_le_mul_right _ h2
 have:(9:Nat)*3 ^ 15<1000000000:=by decide
 omega
abbrev s_L_bends:Stmt:=top 39
abbrev Uo:List Str:=["_law_way"]
abbrev C7:List Str:=["_law_way"]
theorem Qh:FnScope Uo C7 (Ad s_L_bends):=⟨rfl,rfl,rfl,by decide +kernel,rfl,by decide +kernel,by decide +kernel⟩
theorem M7:((["_law_spot"]:List Str)++(["_law_way"]:List Str)).Nodup:=by decide +kernel
def Iq:DSp:=fun ds G Q _=>∃w:List Int,ds=[Ae w]∧1≤w.length∧w.length≤100∧Q (.int ((Ce w).length:Int)) G
theorem Tf{f:Addr}{fd:FuncData}(F:Fun K "_law_bends" "_law_bends" s_L_bends f fd)(T:Blt mg):FnOk P w K mg base CX0 1 f fd C7 (Al K Iq):=by
 refine okD F Qh (fun ds G Q E h=>?_) (fun cdv A outer s H XE ds G Q E hr h=>?_)
 ·obtain⟨_,rfl,_⟩:=h;rfl
 ·obtain⟨v,rfl,h1,h2,k⟩:=h
  refine⟨_,(@qss_one _ _ _ (@qs_ret _ _ _ _ (@q_callB _ _ _ _ _ _ _ _ _ (@c_len _) (T.blt (by decide)) (by decide +kernel) (@qa_consP _ _ _ _ _ (@S6 _ _ _ _ _ _ _ _ _ ["_law_spot"] ["_law_way"] _ _ _ _ _ rfl (@compOz _ _ _ _ (by rfl) (by rfl) (by rfl) (by rfl) (by rfl)) (T.blt (by decide)) (@qa_consP _ _ _ _ _ (@q_int _ _ _ _) (@qa_consP _ _ _ _ _ (@q_callB _ _ _ _ _ _ _ _ _ (@c_len _) (T.blt (by decide)) (by decide +kernel) (@qa_consP _ _ _ _ _ (@q_v2 _ _ 0 _ (by exact⟨rfl,rfl,rfl,rfl⟩)) (@qa_nil _) (by rfl)) (by rfl) (by decide) (by decide) (by rfl) (by rfl)) (@qa_nil _) (by rfl)) (by rfl)) (fun _ _ _=>(@qg_name _ _ 0 _ M7 (by rfl) (by exact .inl rfl) (by exact .inr rfl))) (fun _ _ _=>(@E6 _ _ _ (@qt_cmp _ _ _ _ _ _ _ _ (@o_ne _) (@q_ix _ _ _ _ _ _ (@q_v2 _ _ 1 _ (by exact⟨rfl,rfl,rfl,rfl⟩)) (@q_v1 _ _ 0 _ (by exact⟨rfl,rfl,rfl,rfl⟩)) (by intro _ _ ;rfl)) (@q_ix _ _ _ _ _ _ (@q_v2 _ _ 1 _ (by exact⟨rfl,rfl,rfl,rfl⟩)) (@A9 _ _ _ _ _ _ _ _ (@Hz _) (@q_v1 _ _ 0 _ (by exact⟨rfl,rfl,rfl,rfl⟩)) (@q_int _ _ _ _)) (by intro _ _ ;rfl)) (nomark _)))) (fun _ _ _=>(@q_v1 _ _ 0 _ (by exact⟨rfl,rfl,rfl,rfl⟩))) (by rfl) (by rfl) (by rfl) (by intro _ ;rfl)) (@qa_nil _) (by rfl)) (by rfl) (by decide) (by decide) (by rfl) (by rfl)))),?_⟩
  unfold Ae
  simp only[Bc,nCB,Ag,Oo,nC,Ai,An,List.map_cons,List.map_nil,List.length_cons,List.length_nil,Nat.zero_add,Nat.reduceSub,List.replicate,List.cons_append,List.nil_append,List.getElem?_cons_zero,Option.some.injEq,As,List.cons.injEq,and_true,D.int.injEq,Int.reducePow,Int.reduceNeg,exists_eq_left',and_assoc,exists_and_left,Int.reduceLE,Int.reduceLT,true_and,Aaq,List.length_map]
  refine⟨by omega,by omega,fun p hp=>?_⟩
  have hf:D3.E9 1 (v.length:Int)=(List.range (v.length-1)).map fun i=>.int (1+(i:Int)):=by
   unfold D3.E9
   rw[show((v.length:Int)-1).toNat=v.length-1 by omega]
  rw[hf]
  refine Cs id (fun d=>decide (v.getD (Bb d).toNat 0≠v.getD ((Bb d).toNat-1) 0)) (by rw[List.length_map,List.length_range];exact Ea (by omega)) (fun _=>trivial) (fun x ys hx hlz R1 R2 g1 g2=>?_) ?_
  ·obtain⟨i,hi,rfl⟩:=List.mem_map.mp hx
   have hi:=List.mem_range.mp hi
   have t1:(1+(i:Int)).toNat=i+1:=by omega
   simp only[Bb,t1,Nat.add_sub_cancel] at g1 g2
   have a1:atI (v.map D.int) (1+(i:Int))=some (.int (v.getD (i+1) 0)):=by
    rw[show 1+(i:Int)=((i+1:Nat):Int) by omega]
    exact C5 (by rw[List.getElem?_map,List.getElem?_eq_getElem (by omega),List.getD_eq_getElem?_getD,List.getElem?_eq_getElem (by omega)];rfl)
   have a2:atI (v.map D.int) (1+(i:Int)-1)=some (.int (v.getD i 0)):=by
    rw[show 1+(i:Int)-1=((i:Nat):Int) by omega]
    exact C5 (by rw[List.getElem?_map,List.getElem?_eq_getElem (by omega),List.getD_eq_getElem?_getD,List.getElem?_eq_getElem (by omega)];rfl)
   simp only[Ao,List.replicate,List.cons_append,List.nil_append,List.set_cons_zero,Bl,nOp,Ai,List.getElem?_cons_succ,List.getElem?_cons_zero,Option.some.injEq,dIx,nC,dI0,D.int.injEq,dNe,eqS,D.bl.injEq,Aa,hlz,Av,true_and,exists_eq_left',Ja,a2,a1]
   refine⟨⟨[_],rfl,rfl⟩,?_⟩
   by_cases h:v.getD (i+1) 0=v.getD i 0
   ·exact it1 (by simpa using h) (Fg.of (g2 (decide_eq_false fun z=>z h)))
   ·exact it0 (by simpa using h) (Fg.of (g1 (decide_eq_true h)))
  ·refine⟨_,Aar Aa,⟨G,Sub.new hp,?_⟩⟩
   have:(((List.range (v.length-1)).map fun(i:Nat)=>D.int (1+(i:Int))).filter fun d=>decide (v.getD (Bb d).toNat 0≠v.getD ((Bb d).toNat-1) 0)).map id=(Ce v).map fun(i:Nat)=>D.int (1+(i:Int)):=by
    rw[List.map_id,List.filter_map]
    congr 1
    unfold Ce
    refine List.filter_congr fun i _=>?_
    have t1:(1+(i:Int)).toNat=i+1:=by omega
    simp only[Function.comp,Bb,t1,Nat.add_sub_cancel]
   rw[this,List.length_map];exact k
abbrev s_L_turned:Stmt:=top 40
abbrev Q4:List Str:=["_law_channel_here"]
abbrev p_L_turned:List Str:=["_law_channel_here"]
theorem Pb:FnScope Q4 p_L_turned (Ad s_L_turned):=⟨rfl,rfl,rfl,by decide +kernel,rfl,by decide +kernel,by decide +kernel⟩
theorem nd_L_turned_1:((["_law_rows"]:List Str)++(["_law_channel_here"]:List Str)).Nodup:=by decide +kernel
theorem Kp:((["_law_row"]:List Str)++(["_law_rows", "_law_channel_here"]:List Str)).Nodup:=by decide +kernel
def spTurned:DSp:=fun ds G Q _=>∃cs,ds=[chD cs]∧ChanN cs∧Q (chD (cs.map Bp)) G
theorem Tc{f:Addr}{fd:FuncData}(F:Fun K "_law_turned" "_law_turned" s_L_turned f fd)(T:Blt mg):FnOk P w K mg base CX0 1 f fd p_L_turned (Al K spTurned):=by
 refine okD F Pb (fun ds G Q E h=>?_) (fun cdv A outer s H XE ds G Q E hr h=>?_)
 ·obtain⟨_,rfl,_⟩:=h;rfl
 ·obtain⟨cs,rfl,ok,k⟩:=h
  refine⟨_,(@qss_one _ _ _ (@qs_ret _ _ _ _ (@q_callTy _ _ _ _ _ _ _ _ _ (@c_tuple _) (T.blt (by decide)) (by decide +kernel) (@qa_consP _ _ _ _ _ (@q_compz _ _ _ _ _ _ _ _ _ _ _ ["_law_rows"] ["_law_channel_here"] rfl (@compOz _ _ _ _ (by rfl) (by rfl) (by rfl) (by rfl) (by rfl)) (@q_v1 _ _ 0 _ (by exact⟨rfl,rfl,rfl,rfl⟩)) (fun _ _ _=>(@qg_name _ _ 0 _ nd_L_turned_1 (by rfl) (by exact .inl rfl) (by exact .inr rfl))) (fun _ _ _=>(@qf_nil _)) (fun _ _ _=>(@q_callTy _ _ _ _ _ _ _ _ _ (@c_tuple _) (T.blt (by decide)) (by decide +kernel) (@qa_consP _ _ _ _ _ (@q_compz _ _ _ _ _ _ _ _ _ _ _ ["_law_row"] ["_law_rows", "_law_channel_here"] rfl (@compOz _ _ _ _ (by rfl) (by rfl) (by rfl) (by rfl) (by rfl)) (@Uv _ _ _ _ _ _ _ (@q_v1 _ _ 0 _ (by exact⟨rfl,rfl,rfl,rfl⟩)) (@q_neg _ _ _ _ (@q_int _ _ _ _))) (fun _ _ _=>(@qg_name _ _ 0 _ Kp (by rfl) (by exact .inl rfl) (by exact .inr rfl))) (fun _ _ _=>(@qf_nil _)) (fun _ _ _=>(@A9 _ _ _ _ _ _ _ _ (@Hz _) (@q_int _ _ _ _) (@q_v1 _ _ 0 _ (by exact⟨rfl,rfl,rfl,rfl⟩)))) (by intro _ ;rfl)) (@qa_nil _) (by rfl)) (by rfl) (by decide) (by decide) (by rfl) (by rfl))) (by intro _ ;rfl)) (@qa_nil _) (by rfl)) (by rfl) (by decide) (by decide) (by rfl) (by rfl)))),?_⟩
  unfold chD
  simp only[Bc,nCB,Ag,Ci,Ai,An,List.map_cons,List.map_nil,List.length_cons,List.length_nil,Nat.zero_add,Nat.reduceSub,List.replicate,List.cons_append,List.nil_append,List.getElem?_cons_zero,Option.some.injEq,As,List.cons.injEq,and_true,exists_eq_left',F0]
  refine fun p hp=>?_
  have hw:=ok.hi
  have rr:∀{G:Gp} {s:List Int} {Q:DK},Lz G (Ae s) Q=Q (Ae s.reverse) G:=fun {G s Q}=>by
   show Lz G (.tup (s.map D.int)) Q=_
   rw[Aa8,←List.map_reverse];rfl
  refine Cs (fun d=>Ae (Bp (Hx d))) (fun _=>true) (by rw[List.length_map];exact Ea (by omega)) (fun _=>trivial) (fun x ys hx hlz R1 R2 g1 _=>?_) ?_
  ·obtain⟨c,hc,rfl⟩:=List.mem_map.mp hx
   rw[Ir] at g1
   simp only[Ao,List.replicate,List.cons_append,List.nil_append,List.set_cons_zero,C3,nCB,Ag,Ci,Yr,Ai,List.getElem?_cons_zero,Option.some.injEq,Ey,nC,D.int.injEq,Int.reduceNeg,As,List.cons.injEq,and_true,hlz,true_and,exists_eq_left',rr,if_true]
   refine⟨⟨[_],rfl,rfl⟩,_,rfl,fun p2 hp2=>?_⟩
   have hl9:=ok.len c hc
   refine Cs (fun d=>.int (8-Bb d)) (fun _=>true) (by rw[List.length_map,List.length_reverse];exact Ea (by omega)) (fun _=>rfl) (fun x ys' hx hl2 R3 R4 g3 _=>?_) ?_
   ·obtain⟨y,hy,rfl⟩:=List.mem_map.mp hx
    simp only[Ao,List.replicate,List.cons_append,List.nil_append,List.set_cons_zero,C3,nOp,nC,Ai,List.getElem?_cons_zero,Option.some.injEq,dI0,D.int.injEq,Aa,hl2,Av,true_and,exists_eq_left',if_true]
    exact⟨⟨[_],rfl,rfl⟩,Fg.of (g3 rfl)⟩
   ·have er:((c.reverse.map D.int).filter fun _=>true).map (fun d=>.int (8-Bb d))=(Bp c).map D.int:=by
     rw[Bt,List.map_map];unfold Bp;rw[List.map_map];rfl
    rw[er]
    refine⟨_,Ah Aa,Bj Aa hp2,⟨_,(Sub.new hp2).upd p _,?_⟩⟩
    rw[Av]
    exact g1 rfl
  ·have er:((cs.map Ae).filter fun _=>true).map (fun d=>Ae (Bp (Hx d)))=(cs.map Bp).map Ae:=by
    rw[Bt,List.map_map,List.map_map]
    exact List.map_congr_left fun c _=>by show Ae (Bp (Hx (Ae c)))=_;rw[Ir];rfl
   rw[er]
   exact⟨_,Ah Aa,G,Sub.new hp,k⟩
end
end K2
namespace K2
open PySem L2 D3
section
variable{P:Program}{w:World}{K:W.Frag}{mg:Str→Option Value}{base:Heap}
theorem X2{xs:List D}{j:Nat}:Dq xs none (some (j:Int))=xs.take j:=by
 simp only[Dq,HT.sIx,if_neg (show ¬((j:Int)<0) by omega),List.drop_zero,Nat.sub_zero]
 by_cases h:j≤xs.length
 ·congr 1;omega
 ·rw[List.take_of_length_le (by omega),List.take_of_length_le (by omega)]
theorem X3{xs:List D}{j:Nat}:Dq xs (some (j:Int)) none=xs.drop j:=by
 simp only[Dq,HT.sIx,if_neg (show ¬((j:Int)<0) by omega)]
 by_cases h:j≤xs.length
 ·rw[show min (j:Int).toNat xs.length=j by omega]
  exact List.take_of_length_le (by simp)
 ·rw[List.drop_of_length_le (by omega),List.drop_of_length_le (by omega),List.take_nil]
theorem Vh{G:Gp}{s:List (List Int)}{Q:DK}:Lz G (chD s) Q=Q (chD s.reverse) G:=by
 show Lz G (.tup (s.map Ae)) Q=_
 rw[Aa8,←List.map_reverse];rfl
theorem sl_ch{G:Gp}{s:List (List Int)}{c:Nat}{Q:DK}:B4 G (chD s) none (some (c:Int)) Q=Q (chD (s.take c)) G:=by
 show B4 G (.tup (s.map Ae)) none (some (c:Int)) Q=_
 rw[Cj,X2,←List.map_take];rfl
theorem sr_ch{G:Gp}{s:List (List Int)}{c:Nat}{Q:DK}:B4 G (chD s) (some ((c:Int)+1)) none Q=Q (chD (s.drop (c+1))) G:=by
 show B4 G (.tup (s.map Ae)) (some (((c+1:Nat):Int))) none Q=_
 rw[Cj,X3,←List.map_drop];rfl
theorem Ik{a b:List (List Int)}{G:Gp}{Q:DK}:E4 (chD a) (chD b) G Q=(a.length+b.length≤sizeLine∧Q (chD (a++b)) G):=by
 show E4 (.tup (a.map Ae)) (.tup (b.map Ae)) G Q=_
 rw[V5,List.length_map,List.length_map,←List.map_append];rfl
theorem Si{a b:List Int}{G:Gp}{Q:DK}:E4 (Ae a) (Ae b) G Q=(a.length+b.length≤sizeLine∧Q (Ae (a++b)) G):=by
 show E4 (.tup (a.map D.int)) (.tup (b.map D.int)) G Q=_
 rw[V5,List.length_map,List.length_map,←List.map_append];rfl
theorem Vr(c:List Int):(D.tup [Ae c])=chD [c]:=rfl
theorem Nh{n:Nat}(h:n≤1000):n≤sizeLine:=by rw[sizeLine_eq];omega
theorem put_set{α:Type}{l:List α}{i:Nat}{a:α}(h:i<l.length):l.take i++[a]++l.drop (i+1)=l.set i a:=by
 rw[List.set_eq_take_append_cons_drop,if_pos h,List.append_assoc];rfl
theorem Adh{G:Gp}{s:List (List Int)}:Hi G (chD s)=some s.length:=congrArg some (List.length_map ..)
theorem Mq{G:Gp}{s:List (List Int)}{i:Nat}{c:List Int}(h:s[i]? = some c):B5 G (chD s) (i:Int)=some (Ae c):=C5 (by rw[List.getElem?_map,h];rfl)
theorem Hr{G:Gp}{cs:List (List Int)}{s:Nat}{c:List Int}{Q:DK}(ok:ChanN cs)(hs:s<cs.length)(h:Q (chD (cs.set s c)) G):B4 G (chD cs) none (some (s:Int)) fun x G1=>E4 x (D.tup [Ae c]) G1 fun y G2=>B4 G2 (chD cs) (some ((s:Int)+1)) none fun z G3=>E4 y z G3 Q:=by
 have:=ok.hi
 rw[sl_ch,Vr,Ik]
 refine⟨Nh (by rw[List.length_take];simp;omega),?_⟩
 rw[sr_ch,Ik,put_set hs]
 exact⟨Nh (by simp;omega),h⟩
theorem Jm{c:List Int}{r:Int}(h:RowOk c)(h0:0≤r)(h8:r≤8):RowOk (Ch (c++[r]))∧∀x,x∈Ch (c++[r])↔x∈c∨x=r:=by
 have hm:∀x,x∈Ch (c++[r])↔x∈c∨x=r:=fun x=>by rw[mem_sortU,List.mem_append,List.mem_singleton]
 refine⟨⟨fun i hi=>?_,Fb _⟩,hm⟩
 rcases(hm i).mp hi with hi|rfl
 ·exact h.1 i hi
 ·exact⟨h0,h8⟩
abbrev s_L_sides_right:Stmt:=top 41
abbrev Hq:List Str:=["_law_box_here", "_law_channel_here", "_law_count", "_law_spot", "_law_row", "_law_less", "_law_more", "_law_with_less", "_law_with_more", "_law_with_row"]
abbrev p_L_sides_right:List Str:=["_law_box_here", "_law_channel_here", "_law_count"]
theorem sc_L_sides_right:FnScope Hq p_L_sides_right (Ad s_L_sides_right):=⟨rfl,rfl,rfl,by decide +kernel,rfl,by decide +kernel,by decide +kernel⟩
theorem Fh:((["_law_one"]:List Str)++(["_law_box_here", "_law_channel_here", "_law_count", "_law_spot", "_law_row", "_law_less", "_law_more", "_law_with_less", "_law_with_more", "_law_with_row"]:List Str)).Nodup:=by decide +kernel
def spSides:DSp:=fun ds G Q _=>∃a cs,ds=[.ref a,chD cs,.int ((Ab none cs).length:Int)]∧(∃b,G a=some (.lst [.int b]))∧ChanN cs∧∀G',Step a G G'→Q (.bl true) G'
theorem Xa{f:Addr}{fd:FuncData}(F:Fun K "_law_sides_right" "_law_sides_right" s_L_sides_right f fd)(T:Blt mg)(Agh:Def P w K mg base CX0 6 "many_ways" p_many_ways spMany)(Agu:Def P w K mg base CX0 1 "_law_turned" p_L_turned spTurned)(Agj:Def P w K mg base CX0 1 "_law_take" p_L_take spTake):FnOk P w K mg base CX0 7 f fd p_L_sides_right (Al K spSides):=by
 refine okD F sc_L_sides_right (fun ds G Q E h=>?_) (fun cdv A outer s H XE ds G Q E hr h=>?_)
 ·obtain⟨_,_,rfl,_⟩:=h;rfl
 ·obtain⟨a,cs,rfl,hb,ok,k⟩:=h
  refine⟨_,(@qss_cons _ _ _ _ _ (@qs_if _ _ _ _ _ _ _ _ (@qt_of _ _ _ (@qw_or _ _ _ _ _ _ _ (@qt_cmp _ _ _ _ _ _ _ _ (@o_ne _) (@q_call _ _ _ _ _ _ _ _ noX _ _ _ Agh (hr.mono (by decide)) (@passN _ _) (@qa_consP _ _ _ _ _ (@Uv _ _ _ _ _ _ _ (@q_v1 _ _ 1 _ (by exact⟨rfl,rfl,rfl,rfl⟩)) (@q_neg _ _ _ _ (@q_int _ _ _ _))) (@qa_nil _) (by rfl)) (by rfl) (by decide) (by rfl) (by rfl)) (@q_v1 _ _ 2 _ (by exact⟨rfl,rfl,rfl,rfl⟩)) (nomark _)) (@qw_or1 _ _ _ _ (@qt_cmp _ _ _ _ _ _ _ _ (@o_ne _) (@q_call _ _ _ _ _ _ _ _ noX _ _ _ Agh (hr.mono (by decide)) (@passN _ _) (@qa_consP _ _ _ _ _ (@q_call _ _ _ _ _ _ _ _ noX _ _ _ Agu (hr.mono (by decide)) (@passN _ _) (@qa_consP _ _ _ _ _ (@q_v1 _ _ 1 _ (by exact⟨rfl,rfl,rfl,rfl⟩)) (@qa_nil _) (by rfl)) (by rfl) (by decide) (by rfl) (by rfl)) (@qa_nil _) (by rfl)) (by rfl) (by decide) (by rfl) (by rfl)) (@q_v1 _ _ 2 _ (by exact⟨rfl,rfl,rfl,rfl⟩)) (nomark _))))) (@qss_one _ _ _ (@qs_ret _ _ _ _ (@q_bl _ _ _ _))) (@qss_nil _)) (@qss_cons _ _ _ _ _ (@E5 _ _ _ _ _ _ (@Cp _ _ _ _ _ (@qa_consP _ _ _ _ _ (@q_call _ _ _ _ _ _ _ _ noX _ _ _ Agj (hr.mono (by decide)) (@passN _ _) (@qa_consP _ _ _ _ _ (@q_v1 _ _ 0 _ (by exact⟨rfl,rfl,rfl,rfl⟩)) (@qa_consP _ _ _ _ _ (@q_callB _ _ _ _ _ _ _ _ _ (@c_len _) (T.blt (by decide)) (by decide +kernel) (@qa_consP _ _ _ _ _ (@q_v1 _ _ 1 _ (by exact⟨rfl,rfl,rfl,rfl⟩)) (@qa_nil _) (by rfl)) (by rfl) (by decide) (by decide) (by rfl) (by rfl)) (@qa_nil _) (by rfl)) (by rfl)) (by rfl) (by decide) (by rfl) (by rfl)) (@qa_consP _ _ _ _ _ (@q_call _ _ _ _ _ _ _ _ noX _ _ _ Agj (hr.mono (by decide)) (@passN _ _) (@qa_consP _ _ _ _ _ (@q_v1 _ _ 0 _ (by exact⟨rfl,rfl,rfl,rfl⟩)) (@qa_consP _ _ _ _ _ (@q_int _ _ _ _) (@qa_nil _) (by rfl)) (by rfl)) (by rfl) (by decide) (by rfl) (by rfl)) (@qa_nil _) (by rfl)) (by rfl))) (@qg_tup _ _ _ _ _ 2 rfl (@qgs_cons _ _ _ _ _ (@qg_name _ _ 3 _ sc_L_sides_right.nd (by rfl) (by exact .inl rfl) (by exact .inl rfl)) (@qgs_cons _ _ _ _ _ (@qg_name _ _ 4 _ sc_L_sides_right.nd (by rfl) (by exact .inr rfl) (by exact .inl rfl)) (@qgs_nil _) (by rfl)) (by rfl)) (by rfl) (by rfl)) (by rfl) (by rfl) (by rfl)) (@qss_cons _ _ _ _ _ (@qs_set _ _ _ _ 5 _ _ sc_L_sides_right.nd (@q_callTy _ _ _ _ _ _ _ _ _ (@c_tuple _) (T.blt (by decide)) (by decide +kernel) (@qa_consP _ _ _ _ _ (@q_compz _ _ _ _ _ _ _ _ _ _ _ ["_law_one"] ["_law_box_here", "_law_channel_here", "_law_count", "_law_spot", "_law_row", "_law_less", "_law_more", "_law_with_less", "_law_with_more", "_law_with_row"] rfl (@compOz _ _ _ _ (by rfl) (by rfl) (by rfl) (by rfl) (by rfl)) (@q_ix _ _ _ _ _ _ (@q_v1 _ _ 1 _ (by exact⟨rfl,rfl,rfl,rfl⟩)) (@q_v1 _ _ 3 _ (by exact⟨rfl,rfl,rfl,rfl⟩)) (by intro _ _ ;rfl)) (fun _ _ _=>(@qg_name _ _ 0 _ Fh (by rfl) (by exact .inl rfl) (by exact .inr rfl))) (fun _ _ _=>(@E6 _ _ _ (@qt_cmp _ _ _ _ _ _ _ _ (@o_ne _) (@q_v1 _ _ 0 _ (by exact⟨rfl,rfl,rfl,rfl⟩)) (@q_v2 _ _ 5 _ (by exact⟨rfl,rfl,rfl,rfl⟩)) (nomark _)))) (fun _ _ _=>(@q_v1 _ _ 0 _ (by exact⟨rfl,rfl,rfl,rfl⟩))) (by intro _ ;rfl)) (@qa_nil _) (by rfl)) (by rfl) (by decide) (by decide) (by rfl) (by rfl)) (by rfl) (by exact .inl rfl) (by rfl) (by exact .inl rfl)) (@qss_cons _ _ _ _ _ (@qs_set _ _ _ _ 6 _ _ sc_L_sides_right.nd (@q_callTy _ _ _ _ _ _ _ _ _ (@c_tuple _) (T.blt (by decide)) (by decide +kernel) (@qa_consP _ _ _ _ _ (@Lf _ _ _ _ _ _ _ rfl (T.blt (by decide)) (T.blt (by decide)) (@A9 _ _ _ _ _ _ _ _ (@A5 _) (@q_ix _ _ _ _ _ _ (@q_v1 _ _ 1 _ (by exact⟨rfl,rfl,rfl,rfl⟩)) (@q_v1 _ _ 3 _ (by exact⟨rfl,rfl,rfl,rfl⟩)) (by intro _ _ ;rfl)) (@Cp _ _ _ _ _ (@qa_consP _ _ _ _ _ (@q_v2 _ _ 4 _ (by exact⟨rfl,rfl,rfl,rfl⟩)) (@qa_nil _) (by rfl)))) (by rfl) (by rfl) (by rfl) (by rfl)) (@qa_nil _) (by rfl)) (by rfl) (by decide) (by decide) (by rfl) (by rfl)) (by rfl) (by exact .inl rfl) (by rfl) (by exact .inl rfl)) (@qss_cons _ _ _ _ _ (@qs_set _ _ _ _ 7 _ _ sc_L_sides_right.nd (@A9 _ _ _ _ _ _ _ _ (@A5 _) (@A9 _ _ _ _ _ _ _ _ (@A5 _) (@q_slice _ _ _ _ _ _ _ _ _ (@q_v1 _ _ 1 _ (by exact⟨rfl,rfl,rfl,rfl⟩)) (@qo_none _) (@qo_some _ _ _ (@q_v1 _ _ 3 _ (by exact⟨rfl,rfl,rfl,rfl⟩)))) (@Cp _ _ _ _ _ (@qa_consP _ _ _ _ _ (@q_v1 _ _ 5 _ (by exact⟨rfl,rfl,rfl,rfl⟩)) (@qa_nil _) (by rfl)))) (@q_slice _ _ _ _ _ _ _ _ _ (@q_v1 _ _ 1 _ (by exact⟨rfl,rfl,rfl,rfl⟩)) (@qo_some _ _ _ (@A9 _ _ _ _ _ _ _ _ (@A5 _) (@q_v1 _ _ 3 _ (by exact⟨rfl,rfl,rfl,rfl⟩)) (@q_int _ _ _ _))) (@qo_none _))) (by rfl) (by exact .inl rfl) (by rfl) (by exact .inl rfl)) (@qss_cons _ _ _ _ _ (@qs_set _ _ _ _ 8 _ _ sc_L_sides_right.nd (@A9 _ _ _ _ _ _ _ _ (@A5 _) (@A9 _ _ _ _ _ _ _ _ (@A5 _) (@q_slice _ _ _ _ _ _ _ _ _ (@q_v1 _ _ 1 _ (by exact⟨rfl,rfl,rfl,rfl⟩)) (@qo_none _) (@qo_some _ _ _ (@q_v1 _ _ 3 _ (by exact⟨rfl,rfl,rfl,rfl⟩)))) (@Cp _ _ _ _ _ (@qa_consP _ _ _ _ _ (@q_v1 _ _ 6 _ (by exact⟨rfl,rfl,rfl,rfl⟩)) (@qa_nil _) (by rfl)))) (@q_slice _ _ _ _ _ _ _ _ _ (@q_v1 _ _ 1 _ (by exact⟨rfl,rfl,rfl,rfl⟩)) (@qo_some _ _ _ (@A9 _ _ _ _ _ _ _ _ (@A5 _) (@q_v1 _ _ 3 _ (by exact⟨rfl,rfl,rfl,rfl⟩)) (@q_int _ _ _ _))) (@qo_none _))) (by rfl) (by exact .inl rfl) (by rfl) (by exact .inl rfl)) (@qss_cons _ _ _ _ _ (@qs_set _ _ _ _ 9 _ _ sc_L_sides_right.nd (@A9 _ _ _ _ _ _ _ _ (@A5 _) (@A9 _ _ _ _ _ _ _ _ (@A5 _) (@q_slice _ _ _ _ _ _ _ _ _ (@q_v1 _ _ 1 _ (by exact⟨rfl,rfl,rfl,rfl⟩)) (@qo_none _) (@qo_some _ _ _ (@q_v1 _ _ 3 _ (by exact⟨rfl,rfl,rfl,rfl⟩)))) (@Cp _ _ _ _ _ (@qa_consP _ _ _ _ _ (@Cp _ _ _ _ _ (@qa_consP _ _ _ _ _ (@q_v2 _ _ 4 _ (by exact⟨rfl,rfl,rfl,rfl⟩)) (@qa_nil _) (by rfl))) (@qa_nil _) (by rfl)))) (@q_slice _ _ _ _ _ _ _ _ _ (@q_v1 _ _ 1 _ (by exact⟨rfl,rfl,rfl,rfl⟩)) (@qo_some _ _ _ (@A9 _ _ _ _ _ _ _ _ (@A5 _) (@q_v1 _ _ 3 _ (by exact⟨rfl,rfl,rfl,rfl⟩)) (@q_int _ _ _ _))) (@qo_none _))) (by rfl) (by exact .inl rfl) (by rfl) (by exact .inl rfl)) (@qss_cons _ _ _ _ _ (@qs_if _ _ _ _ _ _ _ _ (@qt_of _ _ _ (@qw_or _ _ _ _ _ _ _ (@qt_cmp _ _ _ _ _ _ _ _ (@Yq _) (@q_call _ _ _ _ _ _ _ _ noX _ _ _ Agh (hr.mono (by decide)) (@passN _ _) (@qa_consP _ _ _ _ _ (@q_v1 _ _ 7 _ (by exact⟨rfl,rfl,rfl,rfl⟩)) (@qa_nil _) (by rfl)) (by rfl) (by decide) (by rfl) (by rfl)) (@q_v1 _ _ 2 _ (by exact⟨rfl,rfl,rfl,rfl⟩)) (nomark _)) (@qw_or1 _ _ _ _ (@qt_cmp _ _ _ _ _ _ _ _ (@o_lt _) (@q_call _ _ _ _ _ _ _ _ noX _ _ _ Agh (hr.mono (by decide)) (@passN _ _) (@qa_consP _ _ _ _ _ (@q_v1 _ _ 8 _ (by exact⟨rfl,rfl,rfl,rfl⟩)) (@qa_nil _) (by rfl)) (by rfl) (by decide) (by rfl) (by rfl)) (@q_v1 _ _ 2 _ (by exact⟨rfl,rfl,rfl,rfl⟩)) (nomark _))))) (@qss_one _ _ _ (@qs_ret _ _ _ _ (@q_bl _ _ _ _))) (@qss_nil _)) (@qss_one _ _ _ (@qs_ret _ _ _ _ (@q_cmp _ _ _ _ _ _ _ _ (@Nj _) (@A9 _ _ _ _ _ _ _ _ (@A5 _) (@q_call _ _ _ _ _ _ _ _ noX _ _ _ Agh (hr.mono (by decide)) (@passN _ _) (@qa_consP _ _ _ _ _ (@q_v1 _ _ 7 _ (by exact⟨rfl,rfl,rfl,rfl⟩)) (@qa_nil _) (by rfl)) (by rfl) (by decide) (by rfl) (by rfl)) (@q_call _ _ _ _ _ _ _ _ noX _ _ _ Agh (hr.mono (by decide)) (@passN _ _) (@qa_consP _ _ _ _ _ (@q_v1 _ _ 9 _ (by exact⟨rfl,rfl,rfl,rfl⟩)) (@qa_nil _) (by rfl)) (by rfl) (by decide) (by rfl) (by rfl))) (@q_call _ _ _ _ _ _ _ _ noX _ _ _ Agh (hr.mono (by decide)) (@passN _ _) (@qa_consP _ _ _ _ _ (@q_v1 _ _ 8 _ (by exact⟨rfl,rfl,rfl,rfl⟩)) (@qa_nil _) (by rfl)) (by rfl) (by decide) (by rfl) (by rfl)) (nomark _)))))))))))),?_⟩
  have sz1:1≤sizeLine:=szl (by decide)
  simp only[Bk,C1,nOr,Bl,nOp,A0,Ag,Yr,Ai,An,List.map_cons,List.map_nil,List.length_cons,List.length_nil,Nat.zero_add,Nat.reduceAdd,Nat.reduceSub,List.replicate,List.cons_append,List.nil_append,List.getElem?_cons_succ,List.getElem?_cons_zero,Option.some.injEq,Ey,nC,D.int.injEq,Int.reduceNeg,As,dNe,eqS,D.bl.injEq,Bc,Bm,Cg,L0,nCB,List.cons.injEq,and_true,Gc,D.tup.injEq,Dr,Ao,Gd,Ci,List.set_cons_succ,List.set_cons_zero,dIx,Ix,sz1,nSl,B7,D8,dI0,dEq,exists_eq_left',if_true,decide_eq_true_eq,true_and,and_assoc,exists_and_left,Adh,Vh]
  have hlo:=ok.lo
  have hhi:=ok.hi
  refine⟨cs.reverse,rfl,ok.rev,_,rfl,it1 (by rw[N2 ok];simp) ⟨cs,rfl,ok,cs.map Bp,rfl,ok.turn,_,rfl,it1 (by rw[K6 ok];simp) ?_⟩⟩
  refine Cu hb (by omega) (by omega) fun r1 b1 r10 r11=>?_
  have s1:=(Step.refl hb).take b1
  generalize Ac G a (.lst [.int b1])=G1 at *
  refine Cu s1.box (by decide) (by decide) fun r2 b2 r20 r21=>?_
  have s2:=s1.take b2
  generalize Ac G1 a (.lst [.int b2])=G2 at *
  obtain⟨sp,rfl⟩:=Int.eq_ofNat_of_zero_le r10
  have hs:sp<cs.length:=by omega
  have hci:cs[sp]? = some cs[sp]:=List.getElem?_eq_getElem hs
  have hc:RowOk cs[sp]:=ok.rw _ (List.getElem_mem hs)
  have hcl:=ok.len _ (List.getElem_mem hs)
  have hset:cs.set sp cs[sp]=cs:=N7 hci
  generalize cs[sp]=c at *
  have ic:∀G:Gp,B5 G (chD cs) (sp:Int)=some (Ae c):=fun G=>Mq hci
  simp only[D.int.injEq,Dc,exists_eq_left',ic,Option.some.injEq]
  refine⟨szl (by decide),_,rfl,fun p hp=>?_⟩
  refine Cs id (fun d=>decide (Bb d≠r2)) (by rw[List.length_map];exact Ea (by omega)) (fun _=>rfl) (fun x ys hx hlz R1 R2 g1 g2=>?_) ?_
  ·obtain⟨o,ho,rfl⟩:=List.mem_map.mp hx
   simp only[Ao,List.replicate,List.cons_append,List.nil_append,List.set_cons_zero,Bl,nOp,Ai,List.getElem?_cons_zero,Option.some.injEq,List.getElem?_cons_succ,dNe,eqS,D.bl.injEq,Aa,hlz,Av,true_and,exists_eq_left']
   refine⟨⟨[_],rfl,rfl⟩,?_⟩
   by_cases h:o=r2
   ·exact it1 (by simpa using h) (Fg.of (g2 (decide_eq_false fun z=>z h)))
   ·exact it0 (by simpa using h) (Fg.of (g1 (decide_eq_true h)))
  ·have em:((c.map D.int).filter fun d=>decide (Bb d≠r2)).map id=(c.filter fun x=>decide (x≠r2)).map D.int:=by
    rw[List.map_id,List.filter_map];rfl
   rw[em]
   have s3:=s2.lay (o:=.lst ((c.filter fun x=>decide (x≠r2)).map D.int)) hp
   refine⟨_,Ah Aa,?_⟩
   generalize Ac G2 p (.lst ((c.filter fun x=>decide (x≠r2)).map D.int))=G3 at *
   rw[show(D.tup [D.int r2])=Ae [r2] from rfl,Si]
   refine⟨Nh (by simp;omega),c++[r2],rfl,by simp;omega,fun p2 hp2=>⟨_,Ah Aa,?_⟩⟩
   have s4:=s3.lay (o:=.lst ((Ch (c++[r2])).map D.int)) hp2
   generalize Ac G3 p2 (.lst ((Ch (c++[r2])).map D.int))=G4 at *
   obtain⟨hmore,mmore⟩:=Jm hc r20 (by omega)
   have hless:RowOk (c.filter fun x=>decide (x≠r2)):=⟨fun i hi=>hc.1 i (List.mem_filter.mp hi).1,hc.2.filter _⟩
   have hrow:RowOk [r2]:=⟨fun i hi=>by simp at hi;omega,by simp⟩
   have mless:∀x,x∈(c.filter fun x=>decide (x≠r2))↔x∈c∧x≠r2:=fun x=>by rw[List.mem_filter,decide_eq_true_eq]
   have h1:=N1 ok hs hless (d:=c) fun r hr=>((mless r).mp hr).1
   have h2:=N1 ok hs hc (d:=Ch (c++[r2])) fun r hr=>(mmore r).mpr (.inl hr)
   rw[hset] at h1 h2
   have h3:=P9 ok hs hless hrow hmore (fun r=>by
    rw[mmore,mless,List.mem_singleton]
    constructor
    ·rintro(h|h)
     ·by_cases e:r=r2
      ·exact .inr e
      ·exact .inl ⟨h,e⟩
     ·exact .inr h
    ·rintro(h|h)
     ·exact .inl h.1
     ·exact .inr h) fun r hr hr2=>by
    rw[List.mem_singleton] at hr2
    exact((mless r).mp hr).2 hr2
   refine Hr ok hs (Hr ok hs (Hr ok hs ?_))
   refine⟨_,rfl,ok.set hless,_,rfl,it1 (by omega) ⟨_,rfl,ok.set hmore,_,rfl,it1 (by omega) ?_⟩⟩
   refine⟨_,rfl,ok.set hless,_,rfl,ok.set hrow,?_⟩
   show E4 (.int _) (.int _) G4 _
   rw[Dc]
   refine⟨_,rfl,ok.set hmore,_,rfl,?_⟩
   rw[decide_eq_true (by omega)]
   exact Fq.of (k _ s4)
end
end K2
namespace K2
open PySem L2 D3
section
variable{P:Program}{w:World}{K:W.Frag}{mg:Str→Option Value}{base:Heap}
theorem Step.sub'{a:Addr}{G G1 G2:Gp}(x:Step a G G1)(s:Sub G1 G2):Step a G G2:=⟨by obtain⟨b,e⟩:=x.box;exact⟨b,s _ _ e⟩,fun c o h=>by
 have h1:=x.sub c o h
 unfold hid at h1 ⊢
 split at h1
 ·cases h1
 ·rename_i hc;rw[if_neg hc];exact s _ _ h1⟩
theorem Ou:∀a b:List Int,PyData.eqvAll (a.map PyData.int) (b.map PyData.int)=decide (a=b)
 |[],[]=>by simp[PyData.eqvAll]
 |[],y::r=>by simp[PyData.eqvAll]
 |x::r,[]=>by simp[PyData.eqvAll]
 |x::r,y::q=>by
  simp only[List.map_cons,PyData.eqvAll,Ou r q]
  show((x == y)&&decide (r=q))=_
  by_cases h1:x=y
  ·subst h1
   by_cases h2:r=q
   ·subst h2;simp
   ·simp[h2]
  ·simp[h1]
theorem Xz(a b:List Int):PyData.eqv (.tuple (a.map PyData.int)) (.tuple (b.map PyData.int))=decide (a=b):=by
 rw[PyData.eqv];exact Ou a b
theorem Rk{G:Gp}{a:List Int}:RepD G (Ae a) (.tuple (a.map PyData.int)):=.tup Iu
theorem Rv(a:List Int):(PyData.tuple (a.map PyData.int)).canLay0=true:=by rw[PyData.canLay0];exact Iz a
theorem Aaj{G:Gp}{a b:List Int}{Q:DK}(h:Q (.bl (!decide (a=b))) G):dNeD (Ae a) (Ae b) G Q:=
 ⟨_,_,Rk,Rk,Rv a,Rv b,by rw[PyData.depth,PyData.depth,Jg];exact Nat.le_trans (Nat.min_le_left _ _) (by decide),by rw[Xz];exact h⟩
theorem Aak{G:Gp}{p q:Addr}{Q:DK}(hp:G p=some (.lst []))(hq:G q=some (.lst []))(h:Q (.bl false) G):dNeD (.ref p) (.ref q) G Q:=
 ⟨.list [],.list [],.lst hp .nil,.lst hq .nil,rfl,rfl,by simp[PyData.depth,PyData.depthAll],by simpa[PyData.eqv,PyData.eqvAll] using h⟩
theorem Rx{G:Gp}{v:List Int}{q:Addr}{ys:List D}(h2:G q=some (.lst ys)):Bd G [Ae v,.ref q]=some [v.map D.int,ys]:=by
 simp only[Bd,Ae,Aq,h2]
theorem Xy{α β:Type}{f:α→β}{l:List α}:(l.filter fun _=>false).map f=[]:=by simp
theorem add_ll{G:Gp}{p q:Addr}{xs ys:List D}{Q:DK}(hp:G p=some (.lst xs))(hq:G q=some (.lst ys))(hl:xs.length+ys.length≤sizeLine)(h:∀r,G r=none→Q (.ref r) (Ac G r (.lst (xs++ys)))):E4 (.ref p) (.ref q) G Q:=by
 unfold E4;simp only[hp,hq];exact⟨hl,h⟩
theorem X1{xs:List D}{i:Nat}{z:D}(h:(Ib xs)[i]? = some z):∃d,xs[i]? = some d∧z=.tup [.int i,d]:=by
 unfold Ib at h
 rw[List.getElem?_mapIdx] at h
 obtain⟨d,e,rfl⟩:=Option.map_eq_some_iff.mp h
 exact⟨d,e,rfl⟩
def WEi(a pe:Addr)(gs:List (Int×Int))(t:List (Option D))(G:Gp)(i:Nat)(σ:DSt)(G8:Gp):Prop:=∃v9 v10 v11 v12,σ=t++[v9,v10,v11,v12]∧Step a G G8∧G8 pe=some (.lst (gs.map Bq))
theorem Vl{α:Type}{R:α→α→Prop}{l:List α}(h:l.Pairwise R){i j:Nat}{x y:α}(hij:i<j)(e1:l[i]? = some x)(e2:l[j]? = some y):R x y:=by
 obtain⟨h1,rfl⟩:=List.getElem?_eq_some_iff.mp e1
 obtain⟨h2,rfl⟩:=List.getElem?_eq_some_iff.mp e2
 exact List.pairwise_iff_getElem.mp h i j h1 h2 hij
theorem Aas{v6:D}{u:List Int}{B C:Prop}(h:v6=.non∨∃u0,v6=Ae u0∧Cw u u0=false)(hc:C):if (!isN v6)=true then ∃ns:List Int,Ae u=D.tup (ns.map D.int)∧∃x:List Int,v6=D.tup (x.map D.int)∧if Cw ns x=true then B else C else C:=by
 rcases h with rfl|⟨u0,rfl,e⟩
 ·exact it1 (by decide) hc
 ·exact it0 (by rfl) ⟨u,rfl,u0,rfl,it1 (by rw[e];decide) hc⟩
def WRi(a pe l:Addr)(cs:List (List Int))(st:List Int)(gs:List (Int×Int))(ms:List Int)(G:Gp)(v5:Option D)(i:Nat)(σ:DSt)(G7:Gp):Prop:=∃(v6:D) (v7 v8:Option D),σ=[some (.ref a),some (chD cs),some (.int ((Ab none cs).length:Int)),some (Ae st),some (.ref pe),v5,some v6,v7,v8,none,none,none,none]∧Step a G G7∧G7 pe=some (.lst (gs.map Bq))∧G7 l=some (.lst (ms.map D.int))∧
 (v6=.non∨∃(j:Nat) (m:Int) (u:List Int),j+1=i∧ms[j]? = some m∧(Ab none cs)[m.toNat]? = some u∧v6=Ae u)
abbrev s_L_ways_right:Stmt:=top 42
abbrev Kf:List Str:=["_law_box_here", "_law_channel_here", "_law_count", "_law_straight", "_law_ends", "_law_other", "_law_last", "_law_place", "_law_way", "_law_spot", "_law_low", "_law_high", "_law_row"]
abbrev p_L_ways_right:List Str:=["_law_box_here", "_law_channel_here", "_law_count"]
theorem sc_L_ways_right:FnScope Kf p_L_ways_right (Ad s_L_ways_right):=⟨rfl,rfl,rfl,by decide +kernel,rfl,by decide +kernel,by decide +kernel⟩
theorem nd_L_ways_right_1:((["_law_turn"]:List Str)++(["_law_box_here", "_law_channel_here", "_law_count", "_law_straight", "_law_ends", "_law_other", "_law_last", "_law_place", "_law_way", "_law_spot", "_law_low", "_law_high", "_law_row"]:List Str)).Nodup:=by decide +kernel
theorem Cn:((["_law_row", "_law_low", "_law_high"]:List Str)++(["_law_box_here", "_law_channel_here", "_law_count", "_law_straight", "_law_ends", "_law_other", "_law_last", "_law_place", "_law_way", "_law_spot", ".1", ".2", ".3"]:List Str)).Nodup:=by decide +kernel
def spWaysR:DSp:=fun ds G Q _=>∃a cs,ds=[.ref a,chD cs,.int ((Ab none cs).length:Int)]∧(∃b,G a=some (.lst [.int b]))∧ChanN cs∧Ab none cs≠[]∧∀G',Step a G G'→Q (.bl true) G'
theorem W9{f:Addr}{fd:FuncData}(F:Fun K "_law_ways_right" "_law_ways_right" s_L_ways_right f fd)(T:Blt mg)(Agn:Def P w K mg base CX0 6 "straightest" p_straightest spStraight)(Agv:Def P w K mg base CX0 6 "gates" p_gates spGates)(Agu:Def P w K mg base CX0 1 "_law_turned" p_L_turned spTurned)(Agw:Def P w K mg base CX0 1 "_law_bends" C7 Iq)(Agj:Def P w K mg base CX0 1 "_law_take" p_L_take spTake)(Agz:Def P w K mg base CX0 7 "way_at" p_way_at spWith)(Ag0:Def P w K mg base CX0 6 "is_way" p_is_way spWay)(Ago:Def P w K mg base CX0 7 "least_way" p_least_way spLeast)(Agh:Def P w K mg base CX0 6 "many_ways" p_many_ways spMany) :
  FnOk P w K mg base CX0 8 f fd p_L_ways_right (Al K spWaysR):=by
 refine okD F sc_L_ways_right (fun ds G Q E h=>?_) (fun cdv A outer s H XE ds G Q E hr h=>?_)
 ·obtain⟨_,_,rfl,_⟩:=h;rfl
 ·obtain⟨a,cs,rfl,hb,ok,hne,k⟩:=h
  refine⟨_,(@qss_cons _ _ _ _ _ (@Vi _ _ _ _ 3 4 _ _ _ _ _ _ _ _ _ rfl sc_L_ways_right.nd (@qa_consP _ _ _ _ _ (@q_call _ _ _ _ _ _ _ _ noX _ _ _ Agn (hr.mono (by decide)) (@passN _ _) (@qa_consP _ _ _ _ _ (@q_v1 _ _ 1 _ (by exact⟨rfl,rfl,rfl,rfl⟩)) (@qa_nil _) (by rfl)) (by rfl) (by decide) (by rfl) (by rfl)) (@qa_consP _ _ _ _ _ (@q_call _ _ _ _ _ _ _ _ noX _ _ _ Agv (hr.mono (by decide)) (@passN _ _) (@qa_consP _ _ _ _ _ (@q_v1 _ _ 1 _ (by exact⟨rfl,rfl,rfl,rfl⟩)) (@qa_nil _) (by rfl)) (by rfl) (by decide) (by rfl) (by rfl)) (@qa_nil _) (by rfl)) (by rfl)) (by rfl) (by rfl) (by decide) (by rfl) (by rfl) (by rfl) (by rfl)) (@qss_cons _ _ _ _ _ (@Gh _ _ _ _ _ _ _ _ PassesOwn.never rfl (@Dh _ _ _ _ (@qa_consP _ _ _ _ _ (@Uv _ _ _ _ _ _ _ (@q_v1 _ _ 1 _ (by exact⟨rfl,rfl,rfl,rfl⟩)) (@q_neg _ _ _ _ (@q_int _ _ _ _))) (@qa_consP _ _ _ _ _ (@q_call _ _ _ _ _ _ _ _ noX _ _ _ Agu (hr.mono (by decide)) (@passN _ _) (@qa_consP _ _ _ _ _ (@q_v1 _ _ 1 _ (by exact⟨rfl,rfl,rfl,rfl⟩)) (@qa_nil _) (by rfl)) (by rfl) (by decide) (by rfl) (by rfl)) (@qa_nil _) (by rfl)) (by rfl))) (@qg_name _ _ 5 _ sc_L_ways_right.nd (by rfl) (by exact .inl rfl) (by exact .inl rfl)) (@qss_one _ _ _ (@qs_if _ _ _ _ _ _ _ _ (@qt_cmp _ _ _ _ _ _ _ _ (@o_ne _) (@q_call _ _ _ _ _ _ _ _ noX _ _ _ Agw (hr.mono (by decide)) (@passN _ _) (@qa_consP _ _ _ _ _ (@q_call _ _ _ _ _ _ _ _ noX _ _ _ Agn (hr.mono (by decide)) (@passN _ _) (@qa_consP _ _ _ _ _ (@q_v1 _ _ 5 _ (by exact⟨rfl,rfl,rfl,rfl⟩)) (@qa_nil _) (by rfl)) (by rfl) (by decide) (by rfl) (by rfl)) (@qa_nil _) (by rfl)) (by rfl) (by decide) (by rfl) (by rfl)) (@q_call _ _ _ _ _ _ _ _ noX _ _ _ Agw (hr.mono (by decide)) (@passN _ _) (@qa_consP _ _ _ _ _ (@q_v1 _ _ 3 _ (by exact⟨rfl,rfl,rfl,rfl⟩)) (@qa_nil _) (by rfl)) (by rfl) (by decide) (by rfl) (by rfl)) (nomark _)) (@qss_one _ _ _ (@qs_ret _ _ _ _ (@q_bl _ _ _ _))) (@qss_nil _))) (by intro _ ;rfl)) (@qss_cons _ _ _ _ _ (@qs_set _ _ _ _ 6 _ _ sc_L_ways_right.nd (@q_non _ _ _) (by rfl) (by exact .inl rfl) (by rfl) (by exact .inl rfl)) (@qss_cons _ _ _ _ _ (@Gh _ _ _ _ _ _ _ _ PassesOwn.never rfl (@q_callB _ _ _ _ _ _ _ _ _ (@X5 _) (T.blt (by decide)) (by decide +kernel) (@qa_consP _ _ _ _ _ (@A9 _ _ _ _ _ _ _ _ (@A5 _) (@Dh _ _ _ _ (@qa_consP _ _ _ _ _ (@q_int _ _ _ _) (@qa_consP _ _ _ _ _ (@A9 _ _ _ _ _ _ _ _ (@Hz _) (@q_v2 _ _ 2 _ (by exact⟨rfl,rfl,rfl,rfl⟩)) (@q_int _ _ _ _)) (@qa_nil _) (by rfl)) (by rfl))) (@Oh _ _ _ _ _ _ _ _ _ ["_law_turn"] ["_law_box_here", "_law_channel_here", "_law_count", "_law_straight", "_law_ends", "_law_other", "_law_last", "_law_place", "_law_way", "_law_spot", "_law_low", "_law_high", "_law_row"] _ _ _ _ rfl (@compOz _ _ _ _ (by rfl) (by rfl) (by rfl) (by rfl) (by rfl)) (T.blt (by decide)) (@qa_consP _ _ _ _ _ (@q_int _ _ _ _) (@qa_nil _) (by rfl)) (fun _ _ _=>(@qg_name _ _ 0 _ nd_L_ways_right_1 (by rfl) (by exact .inl rfl) (by exact .inr rfl))) (fun _ _ _=>(@qf_nil _)) (fun _ _ _=>(@q_call _ _ _ _ _ _ _ _ noX _ _ _ Agj (hr.mono (by decide)) (@passN _ _) (@qa_consP _ _ _ _ _ (@q_v2 _ _ 1 _ (by exact⟨rfl,rfl,rfl,rfl⟩)) (@qa_consP _ _ _ _ _ (@q_v2 _ _ 3 _ (by exact⟨rfl,rfl,rfl,rfl⟩)) (@qa_nil _) (by rfl)) (by rfl)) (by rfl) (by decide) (by rfl) (by rfl))) (by rfl) (by rfl) (by intro _ ;rfl))) (@qa_nil _) (by rfl)) (by rfl) (by decide) (by decide) (by rfl) (by rfl)) (@qg_name _ _ 7 _ sc_L_ways_right.nd (by rfl) (by exact .inl rfl) (by exact .inl rfl)) (@qss_cons _ _ _ _ _ (@qs_set _ _ _ _ 8 _ _ sc_L_ways_right.nd (@q_call _ _ _ _ _ _ _ _ noX _ _ _ Agz (hr.mono (by decide)) (@passN _ _) (@qa_consP _ _ _ _ _ (@q_v1 _ _ 1 _ (by exact⟨rfl,rfl,rfl,rfl⟩)) (@qa_consP _ _ _ _ _ (@q_v1 _ _ 7 _ (by exact⟨rfl,rfl,rfl,rfl⟩)) (@qa_nil _) (by rfl)) (by rfl)) (by rfl) (by decide) (by rfl) (by rfl)) (by rfl) (by exact .inl rfl) (by rfl) (by exact .inl rfl)) (@qss_cons _ _ _ _ _ (@qs_if _ _ _ _ _ _ _ _ (@qt_of _ _ _ (@qw_or _ _ _ _ _ _ _ (@qt_not _ _ _ _ (@qt_tru _ _ _ (@q_call _ _ _ _ _ _ _ _ noX _ _ _ Ag0 (hr.mono (by decide)) (@passN _ _) (@qa_consP _ _ _ _ _ (@q_v1 _ _ 1 _ (by exact⟨rfl,rfl,rfl,rfl⟩)) (@qa_consP _ _ _ _ _ (@q_v1 _ _ 8 _ (by exact⟨rfl,rfl,rfl,rfl⟩)) (@qa_nil _) (by rfl)) (by rfl)) (by rfl) (by decide) (by rfl) (by rfl)) (by intro _ ;rfl))) (@qw_or _ _ _ _ _ _ _ (@qt_cmp _ _ _ _ _ _ _ _ (@o_lt _) (@q_call _ _ _ _ _ _ _ _ noX _ _ _ Agw (hr.mono (by decide)) (@passN _ _) (@qa_consP _ _ _ _ _ (@q_v1 _ _ 8 _ (by exact⟨rfl,rfl,rfl,rfl⟩)) (@qa_nil _) (by rfl)) (by rfl) (by decide) (by rfl) (by rfl)) (@q_call _ _ _ _ _ _ _ _ noX _ _ _ Agw (hr.mono (by decide)) (@passN _ _) (@qa_consP _ _ _ _ _ (@q_v1 _ _ 3 _ (by exact⟨rfl,rfl,rfl,rfl⟩)) (@qa_nil _) (by rfl)) (by rfl) (by decide) (by rfl) (by rfl)) (nomark _)) (@qw_or1 _ _ _ _ (@qt_of _ _ _ (@qw_and _ _ _ _ _ _ _ (@qt_cmp _ _ _ _ _ _ _ _ (@o_notN _) (@q_v1 _ _ 6 _ (by exact⟨rfl,rfl,rfl,rfl⟩)) (@q_non _ _ _) (nomark _)) (@qw_and1 _ _ _ _ (@qt_cmp _ _ _ _ _ _ _ _ (@o_ltT _ _ hr) (@q_v1 _ _ 8 _ (by exact⟨rfl,rfl,rfl,rfl⟩)) (@q_v1 _ _ 6 _ (by exact⟨rfl,rfl,rfl,rfl⟩)) (nomark _))))))))) (@qss_one _ _ _ (@qs_ret _ _ _ _ (@q_bl _ _ _ _))) (@qss_nil _)) (@qss_cons _ _ _ _ _ (@qs_if _ _ _ _ _ _ _ _ (@qt_cmp _ _ _ _ _ _ _ _ (@o_neD _ _ hr) (@q_compzZ2 _ _ _ _ _ _ _ _ ["_law_row", "_law_low", "_law_high"] ["_law_box_here", "_law_channel_here", "_law_count", "_law_straight", "_law_ends", "_law_other", "_law_last", "_law_place", "_law_way", "_law_spot", ".1", ".2", ".3"] _ _ _ _ _ _ _ _ rfl (@compOz _ _ _ _ (by rfl) (by rfl) (by rfl) (by rfl) (by rfl)) (T.blt (by decide)) (@qa_consP _ _ _ _ _ (@q_v1 _ _ 8 _ (by exact⟨rfl,rfl,rfl,rfl⟩)) (@qa_consP _ _ _ _ _ (@q_v1 _ _ 4 _ (by exact⟨rfl,rfl,rfl,rfl⟩)) (@qa_nil _) (by rfl)) (by rfl)) (fun _ _ _=>(@qg_tup _ _ _ _ _ 2 rfl (@qgs_cons _ _ _ _ _ (@qg_name _ _ 0 _ Cn (by rfl) (by exact .inl rfl) (by exact .inr rfl)) (@qgs_cons _ _ _ _ _ (@qg_tup _ _ _ _ _ 2 rfl (@qgs_cons _ _ _ _ _ (@qg_name _ _ 1 _ Cn (by rfl) (by exact .inl rfl) (by exact .inr rfl)) (@qgs_cons _ _ _ _ _ (@qg_name _ _ 2 _ Cn (by rfl) (by exact .inl rfl) (by exact .inr rfl)) (@qgs_nil _) (by rfl)) (by rfl)) (by rfl) (by rfl)) (@qgs_nil _) (by rfl)) (by rfl)) (by rfl) (by rfl))) (fun _ _ _=>(@E6 _ _ _ (@qt_not _ _ _ _ (@qt_chain _ _ _ _ _ _ _ _ _ _ _ _ (@o_le _) (@o_le _) (@q_v1 _ _ 1 _ (by exact⟨rfl,rfl,rfl,rfl⟩)) (@q_v1 _ _ 0 _ (by exact⟨rfl,rfl,rfl,rfl⟩)) (@q_v1 _ _ 2 _ (by exact⟨rfl,rfl,rfl,rfl⟩)) (by with_unfolding_all rfl))))) (fun _ _ _=>(@q_int _ _ _ _)) (by rfl) (by rfl) (by rfl) (by intro _ ;rfl)) (@Dh _ _ _ _ (@qa_nil _)) (nomark _)) (@qss_one _ _ _ (@qs_ret _ _ _ _ (@q_bl _ _ _ _))) (@qss_nil _)) (@qss_one _ _ _ (@qs_set _ _ _ _ 6 _ _ sc_L_ways_right.nd (@q_v1 _ _ 8 _ (by exact⟨rfl,rfl,rfl,rfl⟩)) (by rfl) (by exact .inl rfl) (by rfl) (by exact .inl rfl)))))) (by intro _ ;rfl)) (@qss_cons _ _ _ _ _ (@qs_if _ _ _ _ _ _ _ _ (@qt_of _ _ _ (@qw_or _ _ _ _ _ _ _ (@qt_cmp _ _ _ _ _ _ _ _ (@o_neD _ _ hr) (@q_call _ _ _ _ _ _ _ _ noX _ _ _ Agz (hr.mono (by decide)) (@passN _ _) (@qa_consP _ _ _ _ _ (@q_v1 _ _ 1 _ (by exact⟨rfl,rfl,rfl,rfl⟩)) (@qa_consP _ _ _ _ _ (@q_int _ _ _ _) (@qa_nil _) (by rfl)) (by rfl)) (by rfl) (by decide) (by rfl) (by rfl)) (@q_call _ _ _ _ _ _ _ _ noX _ _ _ Ago (hr.mono (by decide)) (@passN _ _) (@qa_consP _ _ _ _ _ (@q_v1 _ _ 1 _ (by exact⟨rfl,rfl,rfl,rfl⟩)) (@qa_nil _) (by rfl)) (by rfl) (by decide) (by rfl) (by rfl)) (nomark _)) (@qw_or1 _ _ _ _ (@qt_not _ _ _ _ (@qt_tru _ _ _ (@q_call _ _ _ _ _ _ _ _ noX _ _ _ Ag0 (hr.mono (by decide)) (@passN _ _) (@qa_consP _ _ _ _ _ (@q_v1 _ _ 1 _ (by exact⟨rfl,rfl,rfl,rfl⟩)) (@qa_consP _ _ _ _ _ (@q_v1 _ _ 3 _ (by exact⟨rfl,rfl,rfl,rfl⟩)) (@qa_nil _) (by rfl)) (by rfl)) (by rfl) (by decide) (by rfl) (by rfl)) (by intro _ ;rfl)))))) (@qss_one _ _ _ (@qs_ret _ _ _ _ (@q_bl _ _ _ _))) (@qss_nil _)) (@qss_cons _ _ _ _ _ (@Zj _ _ _ _ _ _ _ _ _ _ _ PassesOwn.never rfl (T.blt (by decide)) (@qa_consP _ _ _ _ _ (@q_v1 _ _ 4 _ (by exact⟨rfl,rfl,rfl,rfl⟩)) (@qa_nil _) (by rfl)) (@qg_tup _ _ _ _ _ 2 rfl (@qgs_cons _ _ _ _ _ (@qg_name _ _ 9 _ sc_L_ways_right.nd (by rfl) (by exact .inl rfl) (by exact .inl rfl)) (@qgs_cons _ _ _ _ _ (@qg_tup _ _ _ _ _ 2 rfl (@qgs_cons _ _ _ _ _ (@qg_name _ _ 10 _ sc_L_ways_right.nd (by rfl) (by exact .inl rfl) (by exact .inl rfl)) (@qgs_cons _ _ _ _ _ (@qg_name _ _ 11 _ sc_L_ways_right.nd (by rfl) (by exact .inl rfl) (by exact .inl rfl)) (@qgs_nil _) (by rfl)) (by rfl)) (by rfl) (by rfl)) (@qgs_nil _) (by rfl)) (by rfl)) (by rfl) (by rfl)) (@qss_one _ _ _ (@Gh _ _ _ _ _ _ _ _ PassesOwn.never rfl (@Dh _ _ _ _ (@qa_consP _ _ _ _ _ (@q_v1 _ _ 10 _ (by exact⟨rfl,rfl,rfl,rfl⟩)) (@qa_consP _ _ _ _ _ (@q_v1 _ _ 11 _ (by exact⟨rfl,rfl,rfl,rfl⟩)) (@qa_nil _) (by rfl)) (by rfl))) (@qg_name _ _ 12 _ sc_L_ways_right.nd (by rfl) (by exact .inl rfl) (by exact .inl rfl)) (@qss_one _ _ _ (@qs_if _ _ _ _ _ _ _ _ (@qt_cmp _ _ _ _ _ _ _ _ (@Nj _) (@q_call _ _ _ _ _ _ _ _ noX _ _ _ Agh (hr.mono (by decide)) (@passN _ _) (@qa_consP _ _ _ _ _ (@A9 _ _ _ _ _ _ _ _ (@A5 _) (@A9 _ _ _ _ _ _ _ _ (@A5 _) (@q_slice _ _ _ _ _ _ _ _ _ (@q_v1 _ _ 1 _ (by exact⟨rfl,rfl,rfl,rfl⟩)) (@qo_none _) (@qo_some _ _ _ (@q_v1 _ _ 9 _ (by exact⟨rfl,rfl,rfl,rfl⟩)))) (@Cp _ _ _ _ _ (@qa_consP _ _ _ _ _ (@Cp _ _ _ _ _ (@qa_consP _ _ _ _ _ (@q_v1 _ _ 12 _ (by exact⟨rfl,rfl,rfl,rfl⟩)) (@qa_nil _) (by rfl))) (@qa_nil _) (by rfl)))) (@q_slice _ _ _ _ _ _ _ _ _ (@q_v1 _ _ 1 _ (by exact⟨rfl,rfl,rfl,rfl⟩)) (@qo_some _ _ _ (@A9 _ _ _ _ _ _ _ _ (@A5 _) (@q_v1 _ _ 9 _ (by exact⟨rfl,rfl,rfl,rfl⟩)) (@q_int _ _ _ _))) (@qo_none _))) (@qa_nil _) (by rfl)) (by rfl) (by decide) (by rfl) (by rfl)) (@q_int _ _ _ _) (nomark _)) (@qss_one _ _ _ (@qs_ret _ _ _ _ (@q_bl _ _ _ _))) (@qss_nil _))) (by intro _ ;rfl))) (by rfl) (by rfl) (by rfl) (by intro _ ;rfl) _) (@qss_one _ _ _ (@qs_ret _ _ _ _ (@q_bl _ _ _ _))))))))),?_⟩
  have sz1:1≤sizeLine:=szl (by decide)
  have sz2:=sz2
  have sz0:0≤sizeLine:=Nat.zero_le _
  simp only[Bk,nPar,Ag,A0,Ai,An,List.map_cons,List.map_nil,List.length_cons,List.length_nil,Nat.zero_add,Nat.reduceAdd,Nat.reduceSub,List.replicate,List.cons_append,List.nil_append,List.getElem?_cons_succ,List.getElem?_cons_zero,Option.some.injEq,As,List.cons.injEq,and_true,Pt,Ez,Yr,List.set_cons_succ,List.set_cons_zero,Ey,nC,D.int.injEq,Int.reduceNeg,sz2,true_and,exists_eq_left',Vh,and_assoc,exists_and_left]
  have hlo:=ok.lo
  have hhi:=ok.hi
  refine⟨cs,rfl,ok,fun z=>absurd z hne,fun st hst=>?_⟩
  refine⟨cs,rfl,ok,fun z=>absurd z hne,fun _ pe gs G1 gok sb1 hpe0 hpe=>?_⟩
  have hcnt:=ok.cnt
  have hpos:0<(Ab none cs).length:=List.length_pos_iff.mpr hne
  have s1:Step a G G1:=(Step.refl hb).sub' sb1
  have nea:a≠pe:=Step.ne hb hpe0
  have len16:∀{ds:List (List Int)} {u:List Int},ds.length=cs.length→Wy ds u→1≤u.length∧u.length≤100:=fun {ds u} e h=>by have:=h.len;omega
  have stl:=len16 rfl hst.way
  refine⟨cs,rfl,ok,fun p1 hp1=>⟨_,Ah Aa,?_⟩⟩
  have s2:=s1.lay (o:=.lst [chD cs.reverse,chD (cs.map Bp)]) hp1
  have f2:Ac G1 p1 (.lst [chD cs.reverse,chD (cs.map Bp)]) p1=some (.lst [chD cs.reverse,chD (cs.map Bp)]):=Aa
  have e2:=Bj (u:=.lst [chD cs.reverse,chD (cs.map Bp)]) hpe hp1
  generalize Ac G1 p1 (.lst [chD cs.reverse,chD (cs.map Bp)])=G2 at *
  refine Bh (fun i σ G'=>G'=G2∧∃v5,σ=[some (.ref a),some (chD cs),some (.int ((Ab none cs).length:Int)),some (Ae st),some (.ref pe),v5,none,none,none,none,none,none,none]) ⟨rfl,none,rfl⟩ ?_ ?_ ?_
  ·rintro i σ G' _ ⟨rfl,_⟩
   exact Ah f2
  ·rintro i x σ G' hx ⟨rfl,v5,rfl⟩
   have hm:=List.mem_of_getElem? hx
   simp only[List.mem_cons,List.not_mem_nil,or_false] at hm
   rcases hm with rfl|rfl
   ·simp only[Ao,C1,Bl,nOp,A0,Ag,Ai,List.set_cons_succ,List.set_cons_zero,List.getElem?_cons_succ,List.getElem?_cons_zero,Option.some.injEq,As,dNe,eqS,D.bl.injEq,Bc,nC,Bm,exists_eq_left']
    refine⟨_,rfl,ok.rev,fun z=>absurd (congrArg List.length z) (by rw[N2 ok];simp;omega),fun u hu=>⟨u,rfl,(len16 (by simp) hu.way).1,(len16 (by simp) hu.way).2,st,rfl,stl.1,stl.2,_,rfl,it1 (by rw[M0 hst hu];simp) (Fs.of ⟨rfl,_,rfl⟩)⟩⟩
   ·simp only[Ao,C1,Bl,nOp,A0,Ag,Ai,List.set_cons_succ,List.set_cons_zero,List.getElem?_cons_succ,List.getElem?_cons_zero,Option.some.injEq,As,dNe,eqS,D.bl.injEq,Bc,nC,Bm,exists_eq_left']
    refine⟨_,rfl,ok.turn,fun z=>absurd (congrArg List.length z) (by rw[K6 ok];simp;omega),fun u hu=>⟨u,rfl,(len16 (by simp) hu.way).1,(len16 (by simp) hu.way).2,st,rfl,stl.1,stl.2,_,rfl,it1 (by rw[Kk hst hu];simp) (Fs.of ⟨rfl,_,rfl⟩)⟩⟩
  ·rintro σ G' ⟨rfl,v5,rfl⟩
   simp only[Bk,Cg,nC,Ao,Pt,nCB,Ag,nOp,Ez,Ai,List.set_cons_succ,List.set_cons_zero,List.getElem?_cons_succ,List.getElem?_cons_zero,Option.some.injEq,dI0,D.int.injEq,As,List.length_cons,List.length_nil,Nat.zero_add,Nat.reduceAdd,sz2,Mo,List.cons.injEq,and_true,Int.reducePow,Int.reduceNeg,exists_eq_left',and_assoc,Int.reduceLE,Int.reduceLT,Int.reduceToNat,true_and]
   intro p2 hp2 p3 hp3
   have s3:=s2.lay (o:=.lst [.int 0,.int ((Ab none cs).length-1)]) hp2
   have e3:=Bj (u:=.lst [.int 0,.int ((Ab none cs).length-1)]) e2 hp2
   have f3:Ac G' p2 (.lst [.int 0,.int ((Ab none cs).length-1)]) p2=some (.lst ([0,((Ab none cs).length:Int)-1].map D.int)):=Aa
   generalize Ac G' p2 (.lst [.int 0,.int ((Ab none cs).length-1)])=G3 at *
   have n3:=Step.ne s3.box hp3
   have p3G:=s3.back hp3
   have n23:p2≠p3:=gne f3 hp3
   have ne3:pe≠p3:=gne e3 hp3
   have na2:a≠p2:=fun z=>by obtain⟨b,hb3⟩:=s3.box;rw[z,f3] at hb3;cases hb3
   refine⟨fun j ys G4=>∃ns:List Int,ys=ns.map D.int∧Step a G G4∧G4 p2=some (.lst ([0,((Ab none cs).length:Int)-1].map D.int))∧G4 pe=some (.lst (gs.map Bq))∧G4 p3=some (.lst ys)∧(∀x∈ns,0≤x∧x<((Ab none cs).length:Int))∧ns.length≤j,⟨[],rfl,s3.lay hp3,Bj f3 hp3,Bj e3 hp3,Aa,by simp,Nat.zero_le _⟩,fun j ys G4 _ ⟨ns,_,_,_,_,e,_⟩=>⟨trivial,e⟩,?_,?_⟩
   ·rintro j x ys G4 hx ⟨ns,rfl,s4,f4,e4,h4,hn,hl⟩
    have hj:j<6:=by
     have:=(List.getElem?_eq_some_iff.mp hx).1
     rw[Bs] at this;exact this
    rw[Ee hj] at hx
    cases hx
    simp only[Ao,List.replicate,List.cons_append,List.nil_append,List.set_cons_zero,C3,A0,Ag,Ai,List.getElem?_cons_succ,List.getElem?_cons_zero,Option.some.injEq,As,List.map_cons,List.map_nil,exists_eq_left',if_true]
    refine⟨⟨[some (.int j)],rfl,rfl⟩,Cu s4.box (by omega) (by omega) fun r b' r0 r1=>?_⟩
    have s5:=s4.take b'
    have f5:Ac G4 a (.lst [.int b']) p2=some (.lst ([0,((Ab none cs).length:Int)-1].map D.int)):=by rw[Af na2.symm];exact f4
    have e5:Ac G4 a (.lst [.int b']) pe=some (.lst (gs.map Bq)):=by rw[Af nea.symm];exact e4
    have h5:Ac G4 a (.lst [.int b']) p3=some (.lst (ns.map D.int)):=by rw[Af n3.symm];exact h4
    generalize Ac G4 a (.lst [.int b'])=G5 at *
    refine⟨h5,by rw[List.length_map];exact Ea (by omega),Fg.of ⟨ns++[r],by simp,s5.write p3G n3,by rw[Af n23];exact f5,by rw[Af ne3];exact e5,Aa,fun x hx=>?_,by simp;omega⟩⟩
    rcases List.mem_append.mp hx with z|z
    ·exact hn x z
    ·rw[List.mem_singleton.mp z];exact⟨r0,r1⟩
   ·rintro ys G4 ⟨ns,rfl,s4,f4,e4,h4,hn,hl⟩
    rw[Bs] at hl
    have hl:ns.length≤6:=hl
    refine add_ll f4 h4 (Nh (by simp;omega)) fun p5 hp5=>?_
    rw[←List.map_append]
    have s5:=s4.lay (o:=.lst (([0,((Ab none cs).length:Int)-1]++ns).map D.int)) hp5
    have e5:=Bj (u:=.lst (([0,((Ab none cs).length:Int)-1]++ns).map D.int)) e4 hp5
    have f5:Ac G4 p5 (.lst (([0,((Ab none cs).length:Int)-1]++ns).map D.int)) p5=some (.lst (([0,((Ab none cs).length:Int)-1]++ns).map D.int)):=Aa
    generalize Ac G4 p5 (.lst (([0,((Ab none cs).length:Int)-1]++ns).map D.int))=G5 at *
    refine⟨p5,rfl,_,f5,by simp;omega,fun l ms hl5 pm pw=>⟨_,Ah Aa,?_⟩⟩
    have hms:∀x∈ms,0≤x∧x<((Ab none cs).length:Int):=fun x hx=>by
     rcases List.mem_append.mp (pm.mem_iff.mp hx) with z|z
     ·simp only[List.mem_cons,List.not_mem_nil,or_false] at z
      rcases z with rfl|rfl<;>omega
     ·exact hn x z
    have s6:=s5.lay (o:=.lst (ms.map D.int)) hl5
    have e6:=Bj (u:=.lst (ms.map D.int)) e5 hl5
    have f6:Ac G5 l (.lst (ms.map D.int)) l=some (.lst (ms.map D.int)):=Aa
    generalize Ac G5 l (.lst (ms.map D.int))=G6 at *
    refine Bh (WRi a pe l cs st gs ms G v5) ⟨.non,none,none,rfl,s6,e6,f6,.inl rfl⟩ ?_ ?_ ?_
    ·rintro i σ G7 _ ⟨v6,v7,v8,rfl,_,_,h7,_⟩
     exact Ah h7
    ·rintro i x σ G7 hx ⟨v6,v7,v8,rfl,s7,e7,f7,hlast⟩
     rw[List.getElem?_map] at hx
     obtain⟨m,hm,rfl⟩:=Option.map_eq_some_iff.mp hx
     obtain⟨m0,m1⟩:=hms m (List.mem_of_getElem? hm)
     have hk:m.toNat<(Ab none cs).length:=by omega
     have hu:(Ab none cs)[m.toNat]? = some (Ab none cs)[m.toNat]:=List.getElem?_eq_getElem hk
     have huw:Wy cs (Ab none cs)[m.toNat]:=mem_ways.mp (List.getElem_mem hk)
     generalize (Ab none cs)[m.toNat]=u at *
     have ul:=len16 rfl huw
     have em:(m:Int)=((m.toNat:Nat):Int):=by omega
     simp only[Ao,Bk,Cg,A0,Ag,Ai,List.set_cons_succ,List.set_cons_zero,List.getElem?_cons_succ,List.getElem?_cons_zero,Option.some.injEq,As,C1,nOr,Ex,D4,Bc,nC,Bm,Bl,nOp,Ht,List.length_cons,List.length_nil,Nat.zero_add,Nat.reduceAdd,Ez,exists_eq_left',true_and,if_true,dI0,D.bl.injEq,Ys,dLtT,exists_and_left,reduceCtorEq,if_false,decide_eq_true_eq]
     refine⟨cs,m.toNat,u,by rw[←em],ok,hu,cs,u,rfl,huw.ok ok,_,rfl,it1 (by decide) ?_⟩
     refine⟨u,rfl,ul.1,ul.2,st,rfl,stl.1,stl.2,_,rfl,_,rfl,it1 (by have:=hst.few u huw;omega) (Aas ?_ ?_)⟩
     ·rcases hlast with rfl|⟨j,m',u0,rfl,hj,hu0,rfl⟩
      ·exact .inl rfl
      ·refine .inr ⟨u0,rfl,?_⟩
       have hle:=Vl pw (Nat.lt_succ_self j) hj hm
       obtain⟨z0,z1⟩:=hms m' (List.mem_of_getElem? hj)
       by_cases e:m'.toNat=m.toNat
       ·rw[e,hu] at hu0;cases hu0;exact Iy u
       ·exact Lk (Vl (Fa ok.up) (by omega) hu0 hu)
     ·refine⟨_,Rx e7,fun p8 hp8=>?_⟩
      have hgl:gs.length=u.length:=by rw[gok.len,huw.len]
      refine Cs id (fun _=>false) (by rw[B6];simp only[Cq,List.length_map];exact Ea (by omega)) (fun _=>Rx (Bj e7 hp8)) (fun x ys hx hlz R1 R2 g1 g2=>?_) ?_
      ·obtain⟨ii,y1,y2,e1,e2,rfl⟩:=L5 hx
       rw[List.getElem?_map] at e1 e2
       obtain⟨r,hr1,rfl⟩:=Option.map_eq_some_iff.mp e1
       obtain⟨g,hg1,rfl⟩:=Option.map_eq_some_iff.mp e2
       obtain⟨b1,b2⟩:=gok.inn ii g u r hg1 huw hr1
       simp only[Gc,D.tup.injEq,Dr,Ao,Gd,List.replicate,List.cons_append,List.nil_append,List.set_cons_zero,List.set_cons_succ,Ex,Bl,E7,Ai,List.getElem?_cons_succ,List.getElem?_cons_zero,Option.some.injEq,dI0,D.bl.injEq,nC,Aa,Av,true_and,exists_eq_left',Bool.not_false,if_true,decide_eq_true_eq,List.length_cons,List.length_nil,Nat.zero_add,Nat.reduceAdd,List.cons.injEq,and_assoc,exists_and_left,D.int.injEq]
       refine⟨_,rfl,rfl,_,_,rfl,_,_,rfl,rfl,?_⟩
       exact⟨⟨[_,_,_],rfl,rfl⟩,_,rfl,it0 b1 ⟨_,rfl,it1 (by simp[b2]) (Fg.of (g2 rfl))⟩⟩
      ·rw[Xy]
       refine⟨sz0,fun p9 hp9=>Aak (Bj Aa hp9) Aa ⟨_,rfl,it1 (by decide) (Fs.of ⟨Ae u,_,_,rfl,(s7.lay hp8).lay hp9,Bj (Bj e7 hp8) hp9,Bj (Bj f7 hp8) hp9,.inr ⟨i,m,u,rfl,hm,hu,rfl⟩⟩)⟩⟩
    ·rintro σ G7 ⟨v6,v7,v8,rfl,s7,e7,f7,hlast⟩
     obtain⟨w0,wr,hw0⟩:∃w0 wr,Ab none cs=w0::wr:=by
      cases h:Ab none cs with
      |nil=>exact absurd h hne
      |cons w0 wr=>exact⟨w0,wr,rfl⟩
     simp only[Bk,C1,nOr,Bl,nOp,A0,Ag,Ai,List.getElem?_cons_succ,List.getElem?_cons_zero,Option.some.injEq,nC,As,Bc,Bm,Abg,List.cons.injEq,and_true,exists_eq_left',D.ref.injEq,if_true,Ex,D4]
     refine⟨cs,0,w0,rfl,ok,by rw[hw0];rfl,cs,rfl,ok,?_⟩
     rw[show Dn cs=Ae w0 from by unfold Dn;rw[hw0]]
     refine Aaj ⟨_,rfl,it1 (by simp) ⟨cs,st,rfl,hst.way.ok ok,_,rfl,it1 (by decide) ?_⟩⟩
     refine⟨_,e7,?_⟩
     refine Bh (WEi a pe gs [some (.ref a),some (chD cs),some (.int ((Ab none cs).length:Int)),some (Ae st),some (.ref pe),v5,some v6,v7,v8] G) ⟨none,none,none,none,rfl,s7,e7⟩ ?_ ?_ ?_
     ·rintro i σ G8 _ ⟨_,_,_,_,rfl,_,h8⟩
      exact h8
     ·rintro i x σ G8 hx ⟨v9,v10,v11,v12,rfl,s8,e8⟩
      obtain⟨d,hd,rfl⟩:=X1 hx
      rw[List.getElem?_map] at hd
      obtain⟨g,hg,rfl⟩:=Option.map_eq_some_iff.mp hd
      have hil:i<cs.length:=by rw[←gok.len];exact(List.getElem?_eq_some_iff.mp hg).1
      have hci:cs[i]? = some cs[i]:=List.getElem?_eq_getElem hil
      have hset:cs.set i cs[i]=cs:=N7 hci
      have hc:RowOk cs[i]:=ok.rw _ (List.getElem_mem hil)
      have row:∀r,(∃u,Wy cs u∧u[i]? = some r)→RowOk [r]∧(Ab none (cs.set i [r])).length≠0:=fun r ⟨u,hu,e⟩=>by
       have hr:=hc.1 r (hu.mem i r _ e hci)
       refine⟨⟨fun j hj=>by simp at hj;subst hj;exact hr,by simp⟩,fun z=>?_⟩
       have:u∈Ab none (cs.set i [r]):=mem_ways.mpr (Wy.of_set (c:=cs[i]) hil (by rw[hset];exact hu) fun r' e'=>by rw[e] at e';cases e';simp)
       rw[List.eq_nil_of_length_eq_zero z] at this;simp at this
      simp only[Gc,D.tup.injEq,Dr,Ao,Gd,Pt,Ez,Ag,Ai,List.cons_append,List.nil_append,List.set_cons_succ,List.set_cons_zero,List.getElem?_cons_succ,List.getElem?_cons_zero,Option.some.injEq,As,List.length_cons,List.length_nil,Nat.zero_add,Nat.reduceAdd,sz2,true_and,exists_eq_left',List.cons.injEq,and_assoc,exists_and_left]
      refine⟨_,rfl,rfl,_,_,rfl,_,_,rfl,rfl,fun p9 hp9=>⟨_,Ah Aa,?_⟩⟩
      have s9:=s8.lay (o:=.lst [.int g.1,.int g.2]) hp9
      have e9:=Bj (u:=.lst [.int g.1,.int g.2]) e8 hp9
      have f9:Ac G8 p9 (.lst [.int g.1,.int g.2]) p9=some (.lst [.int g.1,.int g.2]):=Aa
      generalize Ac G8 p9 (.lst [.int g.1,.int g.2])=G9 at *
      refine Bh (fun j σ G'=>G'=G9∧∃v12,σ=[some (.ref a),some (chD cs),some (.int ((Ab none cs).length:Int)),some (Ae st),some (.ref pe),v5,some v6,v7,v8,some (.int i),some (.int g.1),some (.int g.2),v12]) ⟨rfl,_,rfl⟩ ?_ ?_ ?_
      ·rintro j σ G10 _ ⟨rfl,_⟩
       exact Ah f9
      ·rintro j x σ G10 hx ⟨rfl,v12,rfl⟩
       have hm:=List.mem_of_getElem? hx
       obtain⟨r,rfl,hr⟩:∃r,x=.int r∧∃u,Wy cs u∧u[i]? = some r:=by
        simp only[List.mem_cons,List.not_mem_nil,or_false] at hm
        rcases hm with rfl|rfl
        ·exact⟨_,rfl,gok.lo i g hg⟩
        ·exact⟨_,rfl,gok.hi i g hg⟩
       obtain⟨rok,rne⟩:=row r hr
       simp only[Ao,C1,Bl,nOp,A0,Ag,nSl,Ai,List.set_cons_succ,List.set_cons_zero,List.getElem?_cons_succ,List.getElem?_cons_zero,Option.some.injEq,B7,D8,L0,As,List.length_cons,List.length_nil,Nat.zero_add,sz1,nC,dEq,eqS,D.bl.injEq,Bc,Bm,exists_eq_left',Dc,D.int.injEq,true_and]
       refine Hr (c:=[r]) ok hil ?_
       exact⟨_,rfl,ok.set rok,_,rfl,it1 (fun z=>rne (by have:=of_decide_eq_true z;omega)) (Fs.of ⟨rfl,_,rfl⟩)⟩
      ·rintro σ G10 ⟨rfl,v12,rfl⟩
       exact⟨_,Sub.refl _,_,_,_,_,rfl,s9,e9⟩
     ·rintro σ G8 ⟨v9,v10,v11,v12,rfl,s8,e8⟩
      simp only[Bc,nC]
      exact Fq.of (k _ s8)
end
end K2
namespace K2
open PySem L2 D3
section
variable{P:Program}{w:World}{K:W.Frag}{mg:Str→Option Value}{base:Heap}
theorem Y7{G:Gp}{s:List (List Int)}{Q:DK}:B4 G (chD s) none (some (-1)) Q=Q (chD s.dropLast) G:=by
 show B4 G (.tup (s.map Ae)) none (some (-1)) Q=_
 rw[Cj,F3,←List.map_dropLast];rfl
theorem Rf{G:Gp}{s:List (List Int)}{Q:DK}:B4 G (chD s) (some 1) none Q=Q (chD (s.drop 1)) G:=by
 show B4 G (.tup (s.map Ae)) (some 1) none Q=_
 rw[Cj,Gj,←List.map_drop];rfl
abbrev s_L_right:Stmt:=top 43
abbrev Um:List Str:=["_law_box_here", "_law_channel_here", "_law_count", "_law_bar", "_law_wider"]
abbrev C6:List Str:=["_law_box_here"]
theorem sc_L_right:FnScope Um C6 (Ad s_L_right):=⟨rfl,rfl,rfl,by decide +kernel,rfl,by decide +kernel,by decide +kernel⟩
def Mg:DSp:=fun ds G Q _=>∃a,ds=[.ref a]∧(∃b,G a=some (.lst [.int b]))∧∀G',Step a G G'→Q (.bl true) G'
theorem Xc{f:Addr}{fd:FuncData}(F:Fun K "_law_right" "_law_right" s_L_right f fd)(T:Blt mg)(Ag9:Def P w K mg base CX0 2 "_law_channel" p_L_channel spLChan)(Agh:Def P w K mg base CX0 6 "many_ways" p_many_ways spMany)(Aha:Def P w K mg base CX0 6 "bar_of" p_bar_of spBarOf)(Ago:Def P w K mg base CX0 7 "least_way" p_least_way spLeast)(Ahb:Def P w K mg base CX0 7 "_law_sides_right" p_L_sides_right spSides)(Agx:Def P w K mg base CX0 6 "is_bar" p_is_bar spIsBar)(Ahc:Def P w K mg base CX0 8 "_law_ways_right" p_L_ways_right spWaysR)(Agj:Def P w K mg base CX0 1 "_law_take" p_L_take spTake)(Agv:Def P w K mg base CX0 6 "gates" p_gates spGates)(Agn:Def P w K mg base CX0 6 "straightest" p_straightest spStraight) :
  FnOk P w K mg base CX0 9 f fd C6 (Al K Mg):=by
 refine okD F sc_L_right (fun ds G Q E h=>?_) (fun cdv A outer s H XE ds G Q E hr h=>?_)
 ·obtain⟨_,rfl,_⟩:=h;rfl
 ·obtain⟨a,rfl,hb,k⟩:=h
  refine⟨_,(@qss_cons _ _ _ _ _ (@qs_set _ _ _ _ 1 _ _ sc_L_right.nd (@q_call _ _ _ _ _ _ _ _ noX _ _ _ Ag9 (hr.mono (by decide)) (@passN _ _) (@qa_consP _ _ _ _ _ (@q_v1 _ _ 0 _ (by exact⟨rfl,rfl,rfl,rfl⟩)) (@qa_consP _ _ _ _ _ (@q_int _ _ _ _) (@qa_nil _) (by rfl)) (by rfl)) (by rfl) (by decide) (by rfl) (by rfl)) (by rfl) (by exact .inl rfl) (by rfl) (by exact .inl rfl)) (@qss_cons _ _ _ _ _ (@Vi _ _ _ _ 2 3 _ _ _ _ _ _ _ _ _ rfl sc_L_right.nd (@qa_consP _ _ _ _ _ (@q_call _ _ _ _ _ _ _ _ noX _ _ _ Agh (hr.mono (by decide)) (@passN _ _) (@qa_consP _ _ _ _ _ (@q_v1 _ _ 1 _ (by exact⟨rfl,rfl,rfl,rfl⟩)) (@qa_nil _) (by rfl)) (by rfl) (by decide) (by rfl) (by rfl)) (@qa_consP _ _ _ _ _ (@q_call _ _ _ _ _ _ _ _ noX _ _ _ Aha (hr.mono (by decide)) (@passN _ _) (@qa_consP _ _ _ _ _ (@q_v1 _ _ 1 _ (by exact⟨rfl,rfl,rfl,rfl⟩)) (@qa_nil _) (by rfl)) (by rfl) (by decide) (by rfl) (by rfl)) (@qa_nil _) (by rfl)) (by rfl)) (by rfl) (by rfl) (by decide) (by rfl) (by rfl) (by rfl) (by rfl)) (@qss_cons _ _ _ _ _ (@qs_if _ _ _ _ _ _ _ _ (@qt_of _ _ _ (@qw_or _ _ _ _ _ _ _ (@qt_cmp _ _ _ _ _ _ _ _ (@o_ne _) (@q_cmp _ _ _ _ _ _ _ _ (@Nj _) (@q_v1 _ _ 2 _ (by exact⟨rfl,rfl,rfl,rfl⟩)) (@q_int _ _ _ _) (nomark _)) (@q_cmp _ _ _ _ _ _ _ _ (@o_notN _) (@q_v1 _ _ 3 _ (by exact⟨rfl,rfl,rfl,rfl⟩)) (@q_non _ _ _) (nomark _)) (nomark _)) (@qw_or1 _ _ _ _ (@qt_cmp _ _ _ _ _ _ _ _ (@o_ne _) (@q_cmp _ _ _ _ _ _ _ _ (@Uy _) (@q_call _ _ _ _ _ _ _ _ noX _ _ _ Ago (hr.mono (by decide)) (@passN _ _) (@qa_consP _ _ _ _ _ (@q_v1 _ _ 1 _ (by exact⟨rfl,rfl,rfl,rfl⟩)) (@qa_nil _) (by rfl)) (by rfl) (by decide) (by rfl) (by rfl)) (@q_non _ _ _) (nomark _)) (@q_cmp _ _ _ _ _ _ _ _ (@Nj _) (@q_v1 _ _ 2 _ (by exact⟨rfl,rfl,rfl,rfl⟩)) (@q_int _ _ _ _) (nomark _)) (nomark _))))) (@qss_one _ _ _ (@qs_ret _ _ _ _ (@q_bl _ _ _ _))) (@qss_nil _)) (@qss_cons _ _ _ _ _ (@qs_if _ _ _ _ _ _ _ _ (@qt_not _ _ _ _ (@qt_tru _ _ _ (@q_call _ _ _ _ _ _ _ _ noX _ _ _ Ahb (hr.mono (by decide)) (@passN _ _) (@qa_consP _ _ _ _ _ (@q_v1 _ _ 0 _ (by exact⟨rfl,rfl,rfl,rfl⟩)) (@qa_consP _ _ _ _ _ (@q_v1 _ _ 1 _ (by exact⟨rfl,rfl,rfl,rfl⟩)) (@qa_consP _ _ _ _ _ (@q_v1 _ _ 2 _ (by exact⟨rfl,rfl,rfl,rfl⟩)) (@qa_nil _) (by rfl)) (by rfl)) (by rfl)) (by rfl) (by decide) (by rfl) (by rfl)) (by intro _ ;rfl))) (@qss_one _ _ _ (@qs_ret _ _ _ _ (@q_bl _ _ _ _))) (@qss_nil _)) (@qss_cons _ _ _ _ _ (@qs_if _ _ _ _ _ _ _ _ (@qt_cmp _ _ _ _ _ _ _ _ (@Yq _) (@q_v1 _ _ 2 _ (by exact⟨rfl,rfl,rfl,rfl⟩)) (@q_int _ _ _ _) (nomark _)) (@qss_one _ _ _ (@qs_ret _ _ _ _ (@q_and _ _ _ _ _ _ _ (@q_not _ _ _ _ (@q_call _ _ _ _ _ _ _ _ noX _ _ _ Agx (hr.mono (by decide)) (@passN _ _) (@qa_consP _ _ _ _ _ (@q_v1 _ _ 1 _ (by exact⟨rfl,rfl,rfl,rfl⟩)) (@qa_consP _ _ _ _ _ (@A9 _ _ _ _ _ _ _ _ (@A5 _) (@q_slice _ _ _ _ _ _ _ _ _ (@q_v1 _ _ 1 _ (by exact⟨rfl,rfl,rfl,rfl⟩)) (@qo_none _) (@qo_some _ _ _ (@q_neg _ _ _ _ (@q_int _ _ _ _)))) (@Cp _ _ _ _ _ (@qa_consP _ _ _ _ _ (@Cp _ _ _ _ _ (@qa_nil _)) (@qa_nil _) (by rfl)))) (@qa_nil _) (by rfl)) (by rfl)) (by rfl) (by decide) (by rfl) (by rfl))) (@q_one _ _ _ _ _ (@q_call _ _ _ _ _ _ _ _ noX _ _ _ Ahc (hr.mono (by decide)) (@passN _ _) (@qa_consP _ _ _ _ _ (@q_v1 _ _ 0 _ (by exact⟨rfl,rfl,rfl,rfl⟩)) (@qa_consP _ _ _ _ _ (@q_v1 _ _ 1 _ (by exact⟨rfl,rfl,rfl,rfl⟩)) (@qa_consP _ _ _ _ _ (@q_v1 _ _ 2 _ (by exact⟨rfl,rfl,rfl,rfl⟩)) (@qa_nil _) (by rfl)) (by rfl)) (by rfl)) (by rfl) (by decide) (by rfl) (by rfl)))))) (@qss_nil _)) (@qss_cons _ _ _ _ _ (@qs_set _ _ _ _ 4 _ _ sc_L_right.nd (@A9 _ _ _ _ _ _ _ _ (@A5 _) (@Cp _ _ _ _ _ (@qa_consP _ _ _ _ _ (@q_callTy _ _ _ _ _ _ _ _ _ (@c_tuple _) (T.blt (by decide)) (by decide +kernel) (@qa_consP _ _ _ _ _ (@Lf _ _ _ _ _ _ _ rfl (T.blt (by decide)) (T.blt (by decide)) (@A9 _ _ _ _ _ _ _ _ (@A5 _) (@q_ix _ _ _ _ _ _ (@q_v1 _ _ 3 _ (by exact⟨rfl,rfl,rfl,rfl⟩)) (@q_int _ _ _ _) (by intro _ _ ;rfl)) (@Cp _ _ _ _ _ (@qa_consP _ _ _ _ _ (@q_call _ _ _ _ _ _ _ _ noX _ _ _ Agj (hr.mono (by decide)) (@passN _ _) (@qa_consP _ _ _ _ _ (@q_v1 _ _ 0 _ (by exact⟨rfl,rfl,rfl,rfl⟩)) (@qa_consP _ _ _ _ _ (@q_int _ _ _ _) (@qa_nil _) (by rfl)) (by rfl)) (by rfl) (by decide) (by rfl) (by rfl)) (@qa_nil _) (by rfl)))) (by rfl) (by rfl) (by rfl) (by rfl)) (@qa_nil _) (by rfl)) (by rfl) (by decide) (by decide) (by rfl) (by rfl)) (@qa_nil _) (by rfl))) (@q_slice _ _ _ _ _ _ _ _ _ (@q_v1 _ _ 3 _ (by exact⟨rfl,rfl,rfl,rfl⟩)) (@qo_some _ _ _ (@q_int _ _ _ _)) (@qo_none _))) (by rfl) (by exact .inl rfl) (by rfl) (by exact .inl rfl)) (@qss_cons _ _ _ _ _ (@qs_if _ _ _ _ _ _ _ _ (@qt_of _ _ _ (@qw_and _ _ _ _ _ _ _ (@qt_tru _ _ _ (@q_call _ _ _ _ _ _ _ _ noX _ _ _ Agx (hr.mono (by decide)) (@passN _ _) (@qa_consP _ _ _ _ _ (@q_v1 _ _ 1 _ (by exact⟨rfl,rfl,rfl,rfl⟩)) (@qa_consP _ _ _ _ _ (@q_v1 _ _ 4 _ (by exact⟨rfl,rfl,rfl,rfl⟩)) (@qa_nil _) (by rfl)) (by rfl)) (by rfl) (by decide) (by rfl) (by rfl)) (by intro _ ;rfl)) (@qw_and1 _ _ _ _ (@qt_cmp _ _ _ _ _ _ _ _ (@o_notN _) (@q_call _ _ _ _ _ _ _ _ noX _ _ _ Ago (hr.mono (by decide)) (@passN _ _) (@qa_consP _ _ _ _ _ (@A9 _ _ _ _ _ _ _ _ (@A5 _) (@Cp _ _ _ _ _ (@qa_consP _ _ _ _ _ (@q_ix _ _ _ _ _ _ (@q_v1 _ _ 4 _ (by exact⟨rfl,rfl,rfl,rfl⟩)) (@q_int _ _ _ _) (by intro _ _ ;rfl)) (@qa_nil _) (by rfl))) (@q_slice _ _ _ _ _ _ _ _ _ (@q_v1 _ _ 1 _ (by exact⟨rfl,rfl,rfl,rfl⟩)) (@qo_some _ _ _ (@q_int _ _ _ _)) (@qo_none _))) (@qa_nil _) (by rfl)) (by rfl) (by decide) (by rfl) (by rfl)) (@q_non _ _ _) (nomark _))))) (@qss_one _ _ _ (@qs_ret _ _ _ _ (@q_bl _ _ _ _))) (@qss_nil _)) (@qss_one _ _ _ (@qs_ret _ _ _ _ (@q_and _ _ _ _ _ _ _ (@q_call _ _ _ _ _ _ _ _ noX _ _ _ Agx (hr.mono (by decide)) (@passN _ _) (@qa_consP _ _ _ _ _ (@q_v1 _ _ 1 _ (by exact⟨rfl,rfl,rfl,rfl⟩)) (@qa_consP _ _ _ _ _ (@q_v1 _ _ 3 _ (by exact⟨rfl,rfl,rfl,rfl⟩)) (@qa_nil _) (by rfl)) (by rfl)) (by rfl) (by decide) (by rfl) (by rfl)) (@q_and _ _ _ _ _ _ _ (@q_cmp _ _ _ _ _ _ _ _ (@Uy _) (@q_call _ _ _ _ _ _ _ _ noX _ _ _ Agv (hr.mono (by decide)) (@passN _ _) (@qa_consP _ _ _ _ _ (@q_v1 _ _ 1 _ (by exact⟨rfl,rfl,rfl,rfl⟩)) (@qa_nil _) (by rfl)) (by rfl) (by decide) (by rfl) (by rfl)) (@q_non _ _ _) (nomark _)) (@q_one _ _ _ _ _ (@q_cmp _ _ _ _ _ _ _ _ (@Uy _) (@q_call _ _ _ _ _ _ _ _ noX _ _ _ Agn (hr.mono (by decide)) (@passN _ _) (@qa_consP _ _ _ _ _ (@q_v1 _ _ 1 _ (by exact⟨rfl,rfl,rfl,rfl⟩)) (@qa_nil _) (by rfl)) (by rfl) (by decide) (by rfl) (by rfl)) (@q_non _ _ _) (nomark _)))))))))))))),?_⟩
  have sz1:1≤sizeLine:=szl (by decide)
  have sz0:0≤sizeLine:=Nat.zero_le _
  simp only[Bk,Cg,A0,Ag,Ai,An,List.map_cons,List.map_nil,List.length_cons,List.length_nil,Nat.zero_add,Nat.reduceAdd,Nat.reduceSub,List.replicate,List.cons_append,List.nil_append,List.getElem?_cons_zero,Option.some.injEq,nC,As,Ao,nPar,List.set_cons_succ,List.set_cons_zero,List.getElem?_cons_succ,List.cons.injEq,and_true,C1,nOr,Bl,nOp,dEq,eqS,dNe,D.bl.injEq,Bc,Bm,Ex,D4,dI0,D.int.injEq,Nw,U0,nSl,B7,D8,Ey,L0,sz0,sz1,exists_eq_left',true_and,Int.reduceNeg,nCB,Ix,dIx,Ys,reduceCtorEq,if_false,decide_eq_true_eq,if_true,and_assoc,exists_and_left]
  refine⟨a,16,rfl,hb,by decide,by decide,fun cs G1 s1 ok _=>?_⟩
  have ne0:cs≠[]:=fun z=>by have:=ok.lo;rw[z] at this;simp at this
  have hhi:=ok.hi
  have hcl:∀c∈cs,c.length≤100:=fun c hc=>by have:=ok.len c hc;omega
  have hlo:=ok.lo
  refine⟨cs,rfl,ok,⟨cs,rfl,ok.chan,ne0,by omega,hcl,?_⟩⟩
  obtain⟨c,rest,rfl⟩:∃c rest,cs=c::rest:=by cases cs with|nil=>exact absurd rfl ne0|cons c r=>exact⟨c,r,rfl⟩
  have hrest:rest≠[]:=fun z=>by rw[z] at hlo;simp at hlo
  obtain⟨rw1,rfull⟩:=Jn (c:=c) hrest
  by_cases hw:Ab none (c::rest)=[]
  ·have hemp:=rw1.mpr hw
   have hbar:Mb (c::rest)=chD (Aw (c::rest)):=if_pos hemp
   have hlst:Dn (c::rest)=.non:=by unfold Dn;rw[hw]
   rw[hbar]
   refine⟨_,rfl,it1 (by rw[hw,show isN (chD (Aw (c::rest)))=false from rfl];decide) ⟨_,rfl,ok,?_⟩⟩
   rw[hlst]
   refine⟨_,rfl,it1 (by rw[hw];decide) ⟨a,_,rfl,s1.box,ok,fun G2 st2=>⟨true,rfl,it1 (by decide) ⟨_,rfl,it1 (by rw[hw];decide) ?_⟩⟩⟩⟩
   have s2:=s1.trans st2
   obtain⟨ts,hts⟩:∃ts,Aw (c::rest)=c::ts:=by
    rw[C0];split
    ·exact⟨_,rfl⟩
    ·exact⟨_,rfl⟩
   have hrows:=Jo ok
   have hbis:=Ad4 ok hemp
   rw[hts] at hrows hbis ⊢
   have i0:∀G:Gp,B5 G (chD (c::ts)) 0=some (Ae c):=fun G=>Mq (i:=0) rfl
   refine⟨_,i0 _,Cu s2.box (by decide) (by decide) fun r b' r0 r1=>?_⟩
   have s3:=s2.take b'
   generalize Ac G2 a (.lst [.int b'])=G3 at *
   rw[show(D.tup [D.int r])=Ae [r] from rfl,Si]
   have hc:RowOk c:=ok.rw c (by simp)
   have hcc:=ok.len c (by simp)
   refine⟨Nh (by simp;omega),c++[r],rfl,by simp;omega,fun p2 hp2=>⟨_,Ah Aa,?_⟩⟩
   have s4:=s3.lay (o:=.lst ((Ch (c++[r])).map D.int)) hp2
   generalize Ac G3 p2 (.lst ((Ch (c++[r])).map D.int))=G4 at *
   obtain⟨hmore,mmore⟩:=Jm hc r0 (by omega)
   generalize Ch (c++[r])=d at *
   rw[Rf,show(D.tup [D.tup (d.map D.int)])=chD [d] from rfl,Ik]
   have hl1:1≤(c::ts).length∧(c::ts).length≤16:=by
    refine⟨by simp,?_⟩
    have:=hts
    rw[C0] at this
    split at this
    ·rw[←this];simp
    ·have h9:=congrArg List.length this
     have:=Ms (rch c rest)
     rw[Dl] at this
     simp at h9 hhi ⊢;omega
   have hok2:ChanN (d::rest):=(ok.set (s:=0) hmore:ChanN ((c::rest).set 0 d))
   refine⟨Nh (by simp at hl1 ⊢;omega),c::rest,chD (d::ts),rfl,ok.chan,Fm,Kx (by simp at hl1 ⊢;omega) ?_,by omega,hcl,Db (c::rest) (chD (d::ts)),rfl,?_⟩
   ·intro x hx
    have hx2:RowOk x:=by
     rcases List.mem_cons.mp hx with rfl|hx
     ·exact hmore
     ·exact hrows x (by simp[hx])
    have:=Eg hx2.1 hx2.2
    omega
   have tail:∀{E:DX},spIsBar [chD (c::rest),chD (c::ts)] G4 (fun x G1=>∃c_1,x=D.bl c_1∧if c_1=true then spGates [chD (c::rest)] G1 (fun x G1=>if isN x=true then spStraight [chD (c::rest)] G1 (fun x G1=>Fq Q (D.bl (isN x)) G1) noX else Fq Q (D.bl false) G1) noX else Fq Q (D.bl false) G1) E:=fun {E}=>by
    refine⟨c::rest,chD (c::ts),rfl,ok.chan,Fm,Kx (by omega) (fun x hx=>?_),by omega,hcl,true,by rw[hbis],it0 rfl ⟨_,rfl,ok,fun _=>it0 rfl ⟨_,rfl,ok,fun _=>Fq.of (k _ s4),fun u hu=>absurd (mem_ways.mpr hu.way) (by rw[hw];simp)⟩,fun z=>absurd hw z⟩⟩
    have:=Eg (hrows x hx).1 (hrows x hx).2
    omega
   by_cases hib:Db (c::rest) (chD (d::ts))=true
   ·refine it0 hib ⟨_,Mq (i:=0) rfl,?_⟩
    rw[Rf,Vr,Ik]
    refine⟨Nh (by simp at hhi ⊢;omega),d::rest,rfl,hok2,?_⟩
    have hls:Dn (d::rest)=.non:=by unfold Dn;rw[Lx hib]
    rw[hls]
    exact it1 (by decide) tail
   ·exact it1 hib tail
  ·have hbar:Mb (c::rest)=.non:=if_neg fun z=>hw (rw1.mp z)
   rw[hbar]
   obtain⟨u,r,hwu⟩:∃u r,Ab none (c::rest)=u::r:=by cases h:Ab none (c::rest) with|nil=>exact absurd h hw|cons u r=>exact⟨u,r,rfl⟩
   have hlst:Dn (c::rest)=Ae u:=by unfold Dn;rw[hwu]
   have hpos:0<(Ab none (c::rest)).length:=List.length_pos_iff.mpr hw
   have hz:decide (((Ab none (c::rest)).length:Int)=0)=false:=decide_eq_false (by omega)
   refine⟨_,rfl,it1 (by rw[hz];decide) ⟨_,rfl,ok,?_⟩⟩
   rw[hlst]
   refine⟨_,rfl,it1 (by rw[hz,show isN (Ae u)=false from rfl];decide) ⟨a,_,rfl,s1.box,ok,fun G2 st2=>⟨true,rfl,it1 (by decide) ⟨_,rfl,it0 (by omega) ?_⟩⟩⟩⟩
   have s2:=s1.trans st2
   rw[Y7,show(D.tup [D.tup []])=chD [[]] from rfl,Ik]
   have e1:(c::rest).dropLast=c::rest.dropLast:=List.dropLast_cons_of_ne_nil hrest
   rw[e1]
   have hlen:(c::rest.dropLast++[[]]).length≤16:=by simp at hhi ⊢;omega
   refine⟨Nh (by simp at hlen ⊢;omega),_,_,rfl,ok.chan,Fm,Kx (by omega) fun x hx=>?_,by omega,hcl,_,rfl,?_⟩
   ·rw[←e1] at hx
    rcases List.mem_append.mp hx with hx|hx
    ·exact hcl x (List.dropLast_subset _ hx)
    ·simp at hx;simp[hx]
   ·have nb:Db (c::rest) (chD (c::rest.dropLast++[[]]))=false:=by
     cases h:Db (c::rest) (chD (c::rest.dropLast++[[]])) with
     |false=>rfl
     |true=>exact absurd (Lx (ts:=rest.dropLast++[[]]) h) hw
    rw[nb]
    exact it0 (by decide) ⟨a,_,rfl,s2.box,ok,hw,fun G3 st3=>Fq.of (k _ (s2.trans st3))⟩
abbrev s_law:Stmt:=top 44
abbrev N_law:List Str:=["_law_script", "_law_k", "_law_lap"]
abbrev Ux:List Str:=["_law_script"]
theorem sc_law:FnScope N_law Ux (Ad s_law):=⟨rfl,rfl,rfl,by decide +kernel,rfl,by decide +kernel,by decide +kernel⟩
theorem Ac9{f:Addr}{fd:FuncData}(F:Fun K "law" "law" s_law f fd)(T:Nums mg)(Ahd:Def P w K mg base CX0 2 "_law_box" p_L_box spBox)(Ahe:Def P w K mg base CX0 9 "_law_right" C6 Mg):FnOk P w K mg base CX0 10 f fd Ux (Al K Q6):=by
 refine okD F sc_law (fun ds G Q E h=>?_) (fun cdv A outer s H XE ds G Q E hr h=>?_)
 ·obtain⟨ns,rfl,_⟩:=h;rfl
 ·obtain⟨ns,rfl,hl,q⟩:=h
  refine⟨_,(@qss_cons _ _ _ _ _ (@Hs _ _ _ _ _ _ _ _ _ _ PassesOwn.never rfl (T.blt (by decide)) (@qa_consP _ _ _ _ _ (@q_callB _ _ _ _ _ _ _ _ _ (@Ad1 _ rfl) (T.blt (by decide)) (by decide +kernel) (@qa_consP _ _ _ _ _ (@q_int _ _ _ _) (@qa_consP _ _ _ _ _ (@q_callB _ _ _ _ _ _ _ _ _ (@Ad0 _ rfl) (T.blt (by decide)) (by decide +kernel) (@qa_consP _ _ _ _ _ (@q_callB _ _ _ _ _ _ _ _ _ (@c_len _) (T.blt (by decide)) (by decide +kernel) (@qa_consP _ _ _ _ _ (@q_v1 _ _ 0 _ (by exact⟨rfl,rfl,rfl,rfl⟩)) (@qa_nil _) (by rfl)) (by rfl) (by decide) (by decide) (by rfl) (by rfl)) (@qa_consP _ _ _ _ _ (@q_int _ _ _ _) (@qa_nil _) (by rfl)) (by rfl)) (by rfl) (by decide) (by decide) (by rfl) (by rfl)) (@qa_nil _) (by rfl)) (by rfl)) (by rfl) (by decide) (by decide) (by rfl) (by rfl)) (@qa_nil _) (by rfl)) (@qg_name _ _ 1 _ sc_law.nd (by rfl) (by exact .inl rfl) (by exact .inl rfl)) (@qss_one _ _ _ (@Hs _ _ _ _ _ _ _ _ _ _ PassesOwn.never rfl (T.blt (by decide)) (@qa_consP _ _ _ _ _ (@q_int _ _ _ _) (@qa_nil _) (by rfl)) (@qg_name _ _ 2 _ sc_law.nd (by rfl) (by exact .inl rfl) (by exact .inl rfl)) (@qss_one _ _ _ (@qs_if _ _ _ _ _ _ _ _ (@qt_not _ _ _ _ (@qt_tru _ _ _ (@q_call _ _ _ _ _ _ _ _ noX _ _ _ Ahe (hr.mono (by decide)) (@passN _ _) (@qa_consP _ _ _ _ _ (@q_call _ _ _ _ _ _ _ _ noX _ _ _ Ahd (hr.mono (by decide)) (@passN _ _) (@qa_consP _ _ _ _ _ (@q_v1 _ _ 0 _ (by exact⟨rfl,rfl,rfl,rfl⟩)) (@qa_consP _ _ _ _ _ (@q_v1 _ _ 1 _ (by exact⟨rfl,rfl,rfl,rfl⟩)) (@qa_consP _ _ _ _ _ (@q_v1 _ _ 2 _ (by exact⟨rfl,rfl,rfl,rfl⟩)) (@qa_nil _) (by rfl)) (by rfl)) (by rfl)) (by rfl) (by decide) (by rfl) (by rfl)) (@qa_nil _) (by rfl)) (by rfl) (by decide) (by rfl) (by rfl)) (by intro _ ;rfl))) (@qss_one _ _ _ (@qs_ret _ _ _ _ (@q_bl _ _ _ _))) (@qss_nil _))) (by rfl) (by rfl) (by intro _ ;rfl))) (by rfl) (by rfl) (by intro _ ;rfl)) (@qss_one _ _ _ (@qs_ret _ _ _ _ (@q_bl _ _ _ _)))),?_⟩
  simp only[Bk,Nv,Ag,nCB,nC,Ai,An,List.map_cons,List.map_nil,List.length_cons,List.length_nil,Nat.zero_add,Nat.reduceAdd,Nat.reduceSub,List.replicate,List.cons_append,List.nil_append,List.getElem?_cons_zero,Option.some.injEq,As,List.cons.injEq,and_true,D.int.injEq,Int.reducePow,Int.reduceNeg,and_assoc,exists_eq_left',exists_and_left,Os]
  have hb:∀n:Int,0≤n→1≤(if (if 3<n then 3 else n)>1 then (if 3<n then 3 else n) else 1)∧(if (if 3<n then 3 else n)>1 then (if 3<n then 3 else n) else 1)≤3:=fun n hn=>by
   by_cases h:3<n
   ·rw[if_pos h];decide
   ·rw[if_neg h]
    by_cases h2:n>1
    ·rw[if_pos h2];omega
    ·rw[if_neg h2];decide
  obtain⟨b1,b2⟩:=hb (ns.length:Nat) (by omega)
  generalize (if (if (3:Int)<(ns.length:Nat) then (3:Int) else (ns.length:Nat))>1 then (if (3:Int)<(ns.length:Nat) then (3:Int) else (ns.length:Nat)) else 1)=m at *
  refine⟨by omega,by omega,?_⟩
  refine Df (fun i σ G'=>∃v1 v2,σ=[some (.lint ns),v1,v2]) ⟨none,none,rfl⟩ ?_ ?_
  ·rintro i σ G1 hi ⟨v1,v2,rfl⟩
   simp only[Ao,Nv,Ag,nC,As,List.cons.injEq,D.int.injEq,and_true,Int.reducePow,Int.reduceNeg,List.set_cons_succ,List.set_cons_zero,and_assoc,exists_eq_left',Int.reduceLE,Int.reduceLT,Int.reduceToNat,true_and]
   refine Df (n:=2) (fun j σ G'=>∃v2,σ=[some (.lint ns),some (.int (i:Nat)),v2]) ⟨v2,rfl⟩ ?_ ?_
   ·rintro j σ G2 hj ⟨v2,rfl⟩
    simp only[Ao,C1,Ex,D4,A0,Ag,Ai,List.set_cons_succ,List.set_cons_zero,List.getElem?_cons_zero,Option.some.injEq,List.getElem?_cons_succ,As,Bc,nC,Bm,exists_eq_left']
    refine⟨ns,(i:Nat),(j:Nat),rfl,⟨by omega,by omega,by omega,by omega⟩,fun p hp n=>?_⟩
    refine⟨p,rfl,⟨n,Aa⟩,fun G3 st=>⟨true,rfl,?_⟩⟩
    rw[if_neg (by decide)]
    exact Fs.of ⟨_,rfl⟩
   ·rintro σ G2 ⟨v2,rfl⟩
    exact⟨G2,Sub.refl _,_,_,rfl⟩
  ·rintro σ G1 ⟨v1,v2,rfl⟩
   simp only[Bc,nC]
   exact Fq.of (q _)
end
end K2
namespace K2
open PySem L2 D3
section
variable{P:Program}{w:World}{K:W.Frag}{mg:Str→Option Value}{base:Heap}
theorem Ug{K:W.Frag}:∀f fd,Fun K "_law_cell" "_law_cell" s_L_cell f fd→Binds K fd p_L_cell []:=fun f fd F=>F.binds (ps:=p_L_cell) fun _ _ _ _ _ _ us hl=>match us,hl with | [_,_],_=>rfl
theorem X8{K:W.Frag}:∀f fd,Fun K "_law_mix" "_law_mix" s_L_mix f fd→Binds K fd Es []:=fun f fd F=>F.binds (ps:=Es) fun _ _ _ _ _ _ us hl=>match us,hl with | [_,_],_=>rfl
theorem X9{K:W.Frag}:∀f fd,Fun K "_law_box" "_law_box" s_L_box f fd→Binds K fd p_L_box []:=fun f fd F=>F.binds (ps:=p_L_box) fun _ _ _ _ _ _ us hl=>match us,hl with | [_,_,_],_=>rfl
theorem Uf{K:W.Frag}:∀f fd,Fun K "_law_take" "_law_take" s_L_take f fd→Binds K fd p_L_take []:=fun f fd F=>F.binds (ps:=p_L_take) fun _ _ _ _ _ _ us hl=>match us,hl with | [_,_],_=>rfl
theorem Nd{K:W.Frag}:∀f fd,Fun K "_law_channel" "_law_channel" s_L_channel f fd→Binds K fd p_L_channel []:=fun f fd F=>F.binds (ps:=p_L_channel) fun _ _ _ _ _ _ us hl=>match us,hl with | [_,_],_=>rfl
theorem Fi{K:W.Frag}:∀f fd,Fun K "is_whole_within" "is_whole_within" s_is_whole_within f fd→Binds K fd p_is_whole_within []:=fun f fd F=>F.binds (ps:=p_is_whole_within) fun _ _ _ _ _ _ us hl=>match us,hl with | [_,_,_],_=>rfl
theorem Er{K:W.Frag}:∀f fd,Fun K "are_rising_within" "are_rising_within" s_are_rising_within f fd→Binds K fd A6 []:=fun f fd F=>F.binds (ps:=A6) fun _ _ _ _ _ _ us hl=>match us,hl with | [_,_,_],_=>rfl
theorem Pj{K:W.Frag}:∀f fd,Fun K "are_rows" "are_rows" s_are_rows f fd→Binds K fd Cb []:=fun f fd F=>F.binds (ps:=Cb) fun _ _ _ _ _ _ us hl=>match us,hl with | [_],_=>rfl
theorem Kt{K:W.Frag}:∀f fd,Fun K "is_channel" "is_channel" s_is_channel f fd→Binds K fd B3 []:=fun f fd F=>F.binds (ps:=B3) fun _ _ _ _ _ _ us hl=>match us,hl with | [_],_=>rfl
theorem Gy{K:W.Frag}:∀f fd,Fun K "check_channel" "check_channel" s_check_channel f fd→Binds K fd p_check_channel []:=fun f fd F=>F.binds (ps:=p_check_channel) fun _ _ _ _ _ _ us hl=>match us,hl with | [_],_=>rfl
theorem Na{K:W.Frag}:∀f fd,Fun K "rows_near" "rows_near" s_rows_near f fd→Binds K fd p_rows_near []:=fun f fd F=>F.binds (ps:=p_rows_near) fun _ _ _ _ _ _ us hl=>match us,hl with | [_,_],_=>rfl
theorem Ka{K:W.Frag}:∀f fd,Fun K "ways_onward" "ways_onward" s_ways_onward f fd→Binds K fd p_ways_onward []:=fun f fd F=>F.binds (ps:=p_ways_onward) fun _ _ _ _ _ _ us hl=>match us,hl with | [_],_=>rfl
theorem Nb{K:W.Frag}:∀f fd,Fun K "many_ways" "many_ways" s_many_ways f fd→Binds K fd p_many_ways []:=fun f fd F=>F.binds (ps:=p_many_ways) fun _ _ _ _ _ _ us hl=>match us,hl with | [_],_=>rfl
theorem Kc{K:W.Frag}:∀f fd,Fun K "rows_beyond" "rows_beyond" s_rows_beyond f fd→Binds K fd Bi []:=fun f fd F=>F.binds (ps:=Bi) fun _ _ _ _ _ _ us hl=>match us,hl with | [_,_],_=>rfl
theorem Hl{K:W.Frag}:∀f fd,Fun K "rows_reached" "rows_reached" s_rows_reached f fd→Binds K fd p_rows_reached []:=fun f fd F=>F.binds (ps:=p_rows_reached) fun _ _ _ _ _ _ us hl=>match us,hl with | [_],_=>rfl
theorem Ue{K:W.Frag}:∀f fd,Fun K "bar_of" "bar_of" s_bar_of f fd→Binds K fd p_bar_of []:=fun f fd F=>F.binds (ps:=p_bar_of) fun _ _ _ _ _ _ us hl=>match us,hl with | [_],_=>rfl
theorem Ua{K:W.Frag}:∀f fd,Fun K "row_at" "row_at" s_row_at f fd→Binds K fd Dv []:=fun f fd F=>F.binds (ps:=Dv) fun _ _ _ _ _ _ us hl=>match us,hl with | [_,_,_],_=>rfl
theorem Pi{K:W.Frag}:∀f fd,Fun K "way_with" "way_with" s_way_with f fd→Binds K fd Ca []:=fun f fd F=>F.binds (ps:=Ca) fun _ _ _ _ _ _ us hl=>match us,hl with | [_,_],_=>rfl
theorem Nc{K:W.Frag}:∀f fd,Fun K "least_way" "least_way" s_least_way f fd→Binds K fd p_least_way []:=fun f fd F=>F.binds (ps:=p_least_way) fun _ _ _ _ _ _ us hl=>match us,hl with | [_],_=>rfl
theorem Pk{K:W.Frag}:∀f fd,Fun K "_law_turned" "_law_turned" s_L_turned f fd→Binds K fd p_L_turned []:=fun f fd F=>F.binds (ps:=p_L_turned) fun _ _ _ _ _ _ us hl=>match us,hl with | [_],_=>rfl
theorem Gz{K:W.Frag}:∀f fd,Fun K "_law_sides_right" "_law_sides_right" s_L_sides_right f fd→Binds K fd p_L_sides_right []:=fun f fd F=>F.binds (ps:=p_L_sides_right) fun _ _ _ _ _ _ us hl=>match us,hl with | [_,_,_],_=>rfl
theorem Fj{K:W.Frag}:∀f fd,Fun K "has_form_of_bar" "has_form_of_bar" s_has_form_of_bar f fd→Binds K fd A8 []:=fun f fd F=>F.binds (ps:=A8) fun _ _ _ _ _ _ us hl=>match us,hl with | [_,_],_=>rfl
theorem Qw{K:W.Frag}:∀f fd,Fun K "has_all" "has_all" s_has_all f fd→Binds K fd p_has_all []:=fun f fd F=>F.binds (ps:=p_has_all) fun _ _ _ _ _ _ us hl=>match us,hl with | [_,_],_=>rfl
theorem Ud{K:W.Frag}:∀f fd,Fun K "is_bar" "is_bar" s_is_bar f fd→Binds K fd p_is_bar []:=fun f fd F=>F.binds (ps:=p_is_bar) fun _ _ _ _ _ _ us hl=>match us,hl with | [_,_],_=>rfl
theorem Qv{K:W.Frag}:∀f fd,Fun K "step_on" "step_on" s_step_on f fd→Binds K fd Cr []:=fun f fd F=>F.binds (ps:=Cr) fun _ _ _ _ _ _ us hl=>match us,hl with | [_,_],_=>rfl
theorem Hm{K:W.Frag}:∀f fd,Fun K "bends_onward" "bends_onward" s_bends_onward f fd→Binds K fd p_bends_onward []:=fun f fd F=>F.binds (ps:=p_bends_onward) fun _ _ _ _ _ _ us hl=>match us,hl with | [_],_=>rfl
theorem Kb{K:W.Frag}:∀f fd,Fun K "straightest" "straightest" s_straightest f fd→Binds K fd p_straightest []:=fun f fd F=>F.binds (ps:=p_straightest) fun _ _ _ _ _ _ us hl=>match us,hl with | [_],_=>rfl
theorem X7{K:W.Frag}:∀f fd,Fun K "gates" "gates" s_gates f fd→Binds K fd p_gates []:=fun f fd F=>F.binds (ps:=p_gates) fun _ _ _ _ _ _ us hl=>match us,hl with | [_],_=>rfl
theorem Qy{K:W.Frag}:∀f fd,Fun K "_law_bends" "_law_bends" s_L_bends f fd→Binds K fd C7 []:=fun f fd F=>F.binds (ps:=C7) fun _ _ _ _ _ _ us hl=>match us,hl with | [_],_=>rfl
theorem T9{K:W.Frag}:∀f fd,Fun K "way_at" "way_at" s_way_at f fd→Binds K fd p_way_at []:=fun f fd F=>F.binds (ps:=p_way_at) fun _ _ _ _ _ _ us hl=>match us,hl with | [_,_],_=>rfl
theorem Uc{K:W.Frag}:∀f fd,Fun K "is_row" "is_row" s_is_row f fd→Binds K fd Dw []:=fun f fd F=>F.binds (ps:=Dw) fun _ _ _ _ _ _ us hl=>match us,hl with | [_],_=>rfl
theorem Ub{K:W.Frag}:∀f fd,Fun K "is_way" "is_way" s_is_way f fd→Binds K fd p_is_way []:=fun f fd F=>F.binds (ps:=p_is_way) fun _ _ _ _ _ _ us hl=>match us,hl with | [_,_],_=>rfl
theorem Hn{K:W.Frag}:∀f fd,Fun K "_law_ways_right" "_law_ways_right" s_L_ways_right f fd→Binds K fd p_L_ways_right []:=fun f fd F=>F.binds (ps:=p_L_ways_right) fun _ _ _ _ _ _ us hl=>match us,hl with | [_,_,_],_=>rfl
theorem Qx{K:W.Frag}:∀f fd,Fun K "_law_right" "_law_right" s_L_right f fd→Binds K fd C6 []:=fun f fd F=>F.binds (ps:=C6) fun _ _ _ _ _ _ us hl=>match us,hl with | [_],_=>rfl
theorem Ad3{h:Heap}(X:K.In h)(G:h.Ns mainGlobals mg)(z0:PySem.W.nsIn K mainGlobals "len" = some none)(z1:PySem.W.nsIn K mainGlobals "range" = some none)(z2:PySem.W.nsIn K mainGlobals "abs" = some none)(z3:PySem.W.nsIn K mainGlobals "divmod" = some none)(z4:PySem.W.nsIn K mainGlobals "max" = some none)(z5:PySem.W.nsIn K mainGlobals "min" = some none)(z6:PySem.W.nsIn K mainGlobals "tuple" = some none)(z7:PySem.W.nsIn K mainGlobals "int" = some none)(z8:PySem.W.nsIn K mainGlobals "bool" = some none)(z9:PySem.W.nsIn K mainGlobals "list" = some none)(z10:PySem.W.nsIn K mainGlobals "str" = some none)(z11:PySem.W.nsIn K mainGlobals "isinstance" = some none)(z12:PySem.W.nsIn K mainGlobals "all" = some none)(z13:PySem.W.nsIn K mainGlobals "sorted" = some none)(z14:PySem.W.nsIn K mainGlobals "repr" = some none)(z15:PySem.W.nsIn K mainGlobals "dict" = some none)(z16:PySem.W.nsIn K mainGlobals "zip" = some none)(z17:PySem.W.nsIn K mainGlobals "set" = some none)(z18:PySem.W.nsIn K mainGlobals "sum" = some none)(z19:PySem.W.nsIn K mainGlobals "reversed" = some none)(z20:PySem.W.nsIn K mainGlobals "enumerate" = some none):Blt mg:=⟨fun {x} hx=>by
 simp only[O5,List.mem_cons,List.not_mem_nil,or_false] at hx
 rcases hx with rfl|rfl|rfl|rfl|rfl|rfl|rfl|rfl|rfl|rfl|rfl|rfl|rfl|rfl|rfl|rfl|rfl|rfl|rfl|rfl|rfl
 ·exact PySem.W.mg_none_of X G z0
 ·exact PySem.W.mg_none_of X G z1
 ·exact PySem.W.mg_none_of X G z2
 ·exact PySem.W.mg_none_of X G z3
 ·exact PySem.W.mg_none_of X G z4
 ·exact PySem.W.mg_none_of X G z5
 ·exact PySem.W.mg_none_of X G z6
 ·exact PySem.W.mg_none_of X G z7
 ·exact PySem.W.mg_none_of X G z8
 ·exact PySem.W.mg_none_of X G z9
 ·exact PySem.W.mg_none_of X G z10
 ·exact PySem.W.mg_none_of X G z11
 ·exact PySem.W.mg_none_of X G z12
 ·exact PySem.W.mg_none_of X G z13
 ·exact PySem.W.mg_none_of X G z14
 ·exact PySem.W.mg_none_of X G z15
 ·exact PySem.W.mg_none_of X G z16
 ·exact PySem.W.mg_none_of X G z17
 ·exact PySem.W.mg_none_of X G z18
 ·exact PySem.W.mg_none_of X G z19
 ·exact PySem.W.mg_none_of X G z20⟩
theorem Aag{h:Heap}(X:K.In h)(G:h.Ns mainGlobals mg)(B:Blt mg){t0 t1 t2:Tok}(a0:PySem.W.nsIn K mainGlobals "LEAST_COLUMNS" = some (some (.int 2 t0)))(a1:PySem.W.nsIn K mainGlobals "MOST_COLUMNS" = some (some (.int 16 t1)))(a2:PySem.W.nsIn K mainGlobals "LAST_ROW" = some (some (.int 8 t2))):Nums mg:=⟨B,⟨t0,PySem.W.mg_of X G a0⟩,⟨t1,PySem.W.mg_of X G a1⟩,⟨t2,PySem.W.mg_of X G a2⟩⟩
theorem Ad6{h:Heap}(X:K.In h)(G:h.Ns mainGlobals mg)(T:Nums mg)(Ahf:FnIs K "_law_cell" s_L_cell)(Ahg:FnIs K "_law_mix" s_L_mix)(Ahh:FnIs K "_law_box" s_L_box)(Ahi:FnIs K "_law_take" s_L_take)(Ahj:FnIs K "_law_channel" s_L_channel)(Ahk:FnIs K "is_whole_within" s_is_whole_within)(Ahl:FnIs K "are_rising_within" s_are_rising_within)(Ahm:FnIs K "are_rows" s_are_rows)(Ahn:FnIs K "is_channel" s_is_channel)(Aho:FnIs K "check_channel" s_check_channel)(Ahp:FnIs K "rows_near" s_rows_near)(Ahq:FnIs K "ways_onward" s_ways_onward)(Ahr:FnIs K "many_ways" s_many_ways)(Ahs:FnIs K "rows_beyond" s_rows_beyond)(Aht:FnIs K "rows_reached" s_rows_reached)(Ahu:FnIs K "bar_of" s_bar_of)(Ahv:FnIs K "row_at" s_row_at)(Ahw:FnIs K "way_with" s_way_with)(Ahx:FnIs K "least_way" s_least_way)(Ahy:FnIs K "_law_turned" s_L_turned)(Ahz:FnIs K "_law_sides_right" s_L_sides_right)(Ah0:FnIs K "has_form_of_bar" s_has_form_of_bar)(Ah1:FnIs K "has_all" s_has_all)(Ah2:FnIs K "is_bar" s_is_bar)(Ah3:FnIs K "step_on" s_step_on)(Ah4:FnIs K "bends_onward" s_bends_onward)(Ah5:FnIs K "straightest" s_straightest)(Ah6:FnIs K "gates" s_gates)(Ah7:FnIs K "_law_bends" s_L_bends)(Ah8:FnIs K "way_at" s_way_at)(Ah9:FnIs K "is_row" s_is_row)(Aia:FnIs K "is_way" s_is_way)(Aib:FnIs K "_law_ways_right" s_L_ways_right)(Aic:FnIs K "_law_right" s_L_right){f:Addr}{fd:FuncData}(F:Fun K "law" "law" s_law f fd):FnOk P w K mg base CX0 10 f fd Ux (Al K Q6):=by
 have Ag1:Def P w K mg base CX0 1 "_law_cell" p_L_cell spCell:=Au Ahf X G Ug fun f fd F=>Aae F T.toBlt
 have Ag2:Def P w K mg base CX0 1 "_law_mix" Es Nq:=Au Ahg X G X8 fun f fd F=>Ac8 F T.toBlt
 have Ahd:Def P w K mg base CX0 2 "_law_box" p_L_box spBox:=Au Ahh X G X9 fun f fd F=>Ada F T.toBlt Ag1 Ag2
 have Agj:Def P w K mg base CX0 1 "_law_take" p_L_take spTake:=Au Ahi X G Uf fun f fd F=>Z7 F T.toBlt
 have Ag9:Def P w K mg base CX0 2 "_law_channel" p_L_channel spLChan:=Au Ahj X G Nd fun f fd F=>Xe F T.toBlt Agj
 have Agl:Def P w K mg base CX0 1 "is_whole_within" p_is_whole_within spWhole:=Au Ahk X G Fi fun f fd F=>W8 F T
 have Ag3:Def P w K mg base CX0 2 "are_rising_within" A6 Fy:=Au Ahl X G Er fun f fd F=>Td F T Agl
 have Agp:Def P w K mg base CX0 3 "are_rows" Cb Gg:=Au Ahm X G Pj fun f fd F=>Z9 F T Ag3
 have Ag4:Def P w K mg base CX0 4 "is_channel" B3 L8:=Au Ahn X G Kt fun f fd F=>Aad F T Agp
 have Agi:Def P w K mg base CX0 5 "check_channel" p_check_channel spCheckC:=Au Aho X G Gy fun f fd F=>Th F T Ag4
 have Agk:Def P w K mg base CX0 1 "rows_near" p_rows_near spNear:=Au Ahp X G Na fun f fd F=>Aaa F T
 have Agm:Def P w K mg base CX0 2 "ways_onward" p_ways_onward spOnward:=Au Ahq X G Ka fun f fd F=>Te F T Agk
 have Agh:Def P w K mg base CX0 6 "many_ways" p_many_ways spMany:=Au Ahr X G Nb fun f fd F=>Aab F T Agi Agm
 have Agq:Def P w K mg base CX0 2 "rows_beyond" Bi Fz:=Au Ahs X G Kc fun f fd F=>Ti F T Agk
 have Agr:Def P w K mg base CX0 3 "rows_reached" p_rows_reached spReached:=Au Aht X G Hl fun f fd F=>Qj F T Agq
 have Aha:Def P w K mg base CX0 6 "bar_of" p_bar_of spBarOf:=Au Ahu X G Ue fun f fd F=>Xi F T Agi Agr
 have Ag6:Def P w K mg base CX0 1 "row_at" Dv Mf:=Au Ahv X G Ua fun f fd F=>Xb F T
 have Ags:Def P w K mg base CX0 3 "way_with" Ca spWith:=Au Ahw X G Pi fun f fd F=>Z6 F T Agm Agk Ag6
 have Ago:Def P w K mg base CX0 7 "least_way" p_least_way spLeast:=Au Ahx X G Nc fun f fd F=>Xd F T Agh Ags
 have Agu:Def P w K mg base CX0 1 "_law_turned" p_L_turned spTurned:=Au Ahy X G Pk fun f fd F=>Tc F T.toBlt
 have Ahb:Def P w K mg base CX0 7 "_law_sides_right" p_L_sides_right spSides:=Au Ahz X G Gz fun f fd F=>Xa F T.toBlt Agh Agu Agj
 have Ag5:Def P w K mg base CX0 4 "has_form_of_bar" A8 P4:=Au Ah0 X G Fj fun f fd F=>Aac F T Agp
 have Agy:Def P w K mg base CX0 1 "has_all" p_has_all spHasAll:=Au Ah1 X G Qw fun f fd F=>Tg F T
 have Agx:Def P w K mg base CX0 6 "is_bar" p_is_bar spIsBar:=Au Ah2 X G Ud fun f fd F=>Xf F T Agi Ag5 Agy Agq
 have Agt:Def P w K mg base CX0 2 "step_on" Cr L7:=Au Ah3 X G Qv fun f fd F=>Z8 F T Agk
 have Ag7:Def P w K mg base CX0 3 "bends_onward" p_bends_onward spBends:=Au Ah4 X G Hm fun f fd F=>Xh F T Agt
 have Agn:Def P w K mg base CX0 6 "straightest" p_straightest spStraight:=Au Ah5 X G Kb fun f fd F=>Pd F T Agi Ag7 Agt
 have Agv:Def P w K mg base CX0 6 "gates" p_gates spGates:=Au Ah6 X G X7 fun f fd F=>Xg F T Agi Agr Agm
 have Agw:Def P w K mg base CX0 1 "_law_bends" C7 Iq:=Au Ah7 X G Qy fun f fd F=>Tf F T.toBlt
 have Agz:Def P w K mg base CX0 7 "way_at" p_way_at spWith:=Au Ah8 X G T9 fun f fd F=>ok_at F T Agh Agl Ags
 have Ag8:Def P w K mg base CX0 2 "is_row" Dw (Yl 0 8):=Au Ah9 X G Uc fun f fd F=>Ac7 F T Agl
 have Ag0:Def P w K mg base CX0 6 "is_way" p_is_way spWay:=Au Aia X G Ub fun f fd F=>Ac6 F T Agi Ag8
 have Ahc:Def P w K mg base CX0 8 "_law_ways_right" p_L_ways_right spWaysR:=Au Aib X G Hn fun f fd F=>W9 F T.toBlt Agn Agv Agu Agw Agj Agz Ag0 Ago Agh
 have Ahe:Def P w K mg base CX0 9 "_law_right" C6 Mg:=Au Aic X G Qx fun f fd F=>Xc F T.toBlt Ag9 Agh Aha Ago Ahb Agx Ahc Agj Agv Agn
 exact Ac9 F T Ahd Ahe
end
end K2
open PySem PySem.W PyProof.Rows L2 D3
set_option maxRecDepth 100000 in
set_option maxHeartbeats 0 in
theorem PySem.Challenge.cw_laidmarks_k35_whole_ways_and_bars_holds : PySem.Challenge.rw_laidmarks_k35_whole_ways_and_bars.Holds := by
  w_on;o_law;k_head;(case hw=>w_witness2)
  k_fill
  refine L2.Wb (l:=PySem.Challenge.rw_laidmarks_k35_whole_ways_and_bars) (n:=63) (k:=10) (x:="_law_script") (CX:=CX0) (sp:=fun K=>Al K Q6) ?I rfl (by decide) rfl ⟨rfl,by decide,by decide,rfl⟩ (fun w h Y=>PySem.W.kIn_of Y) ?F Adi (fun _ _ _ _ z=>z)
  case I=>first | rfl | decide
  case F=>
    intro w mg fa h KX G hmg
    have Ahf:FnIs (KOf KX) "_law_cell" K2.s_L_cell:=by (dsimp only [KOf];refine' Ak ?a ?l ?c ?k;(case a=>k_is);(case l=>k_is);(case c=>k_is);(case k=>k_is))
    have Ahg:FnIs (KOf KX) "_law_mix" K2.s_L_mix:=by (dsimp only [KOf];refine' Ak ?a ?l ?c ?k;(case a=>k_is);(case l=>k_is);(case c=>k_is);(case k=>k_is))
    have Ahh:FnIs (KOf KX) "_law_box" K2.s_L_box:=by (dsimp only [KOf];refine' Ak ?a ?l ?c ?k;(case a=>k_is);(case l=>k_is);(case c=>k_is);(case k=>k_is))
    have Ahi:FnIs (KOf KX) "_law_take" K2.s_L_take:=by (dsimp only [KOf];refine' Ak ?a ?l ?c ?k;(case a=>k_is);(case l=>k_is);(case c=>k_is);(case k=>k_is))
    have Ahj:FnIs (KOf KX) "_law_channel" K2.s_L_channel:=by (dsimp only [KOf];refine' Ak ?a ?l ?c ?k;(case a=>k_is);(case l=>k_is);(case c=>k_is);(case k=>k_is))
    have Ahk:FnIs (KOf KX) "is_whole_within" K2.s_is_whole_within:=by (dsimp only [KOf];refine' Ak ?a ?l ?c ?k;(case a=>k_is);(case l=>k_is);(case c=>k_is);(case k=>k_is))
    have Ahl:FnIs (KOf KX) "are_rising_within" K2.s_are_rising_within:=by (dsimp only [KOf];refine' Ak ?a ?l ?c ?k;(case a=>k_is);(case l=>k_is);(case c=>k_is);(case k=>k_is))
    have Ahm:FnIs (KOf KX) "are_rows" K2.s_are_rows:=by (dsimp only [KOf];refine' Ak ?a ?l ?c ?k;(case a=>k_is);(case l=>k_is);(case c=>k_is);(case k=>k_is))
    have Ahn:FnIs (KOf KX) "is_channel" K2.s_is_channel:=by (dsimp only [KOf];refine' Ak ?a ?l ?c ?k;(case a=>k_is);(case l=>k_is);(case c=>k_is);(case k=>k_is))
    have Aho:FnIs (KOf KX) "check_channel" K2.s_check_channel:=by (dsimp only [KOf];refine' Ak ?a ?l ?c ?k;(case a=>k_is);(case l=>k_is);(case c=>k_is);(case k=>k_is))
    have Ahp:FnIs (KOf KX) "rows_near" K2.s_rows_near:=by (dsimp only [KOf];refine' Ak ?a ?l ?c ?k;(case a=>k_is);(case l=>k_is);(case c=>k_is);(case k=>k_is))
    have Ahq:FnIs (KOf KX) "ways_onward" K2.s_ways_onward:=by (dsimp only [KOf];refine' Ak ?a ?l ?c ?k;(case a=>k_is);(case l=>k_is);(case c=>k_is);(case k=>k_is))
    have Ahr:FnIs (KOf KX) "many_ways" K2.s_many_ways:=by (dsimp only [KOf];refine' Ak ?a ?l ?c ?k;(case a=>k_is);(case l=>k_is);(case c=>k_is);(case k=>k_is))
    have Ahs:FnIs (KOf KX) "rows_beyond" K2.s_rows_beyond:=by (dsimp only [KOf];refine' Ak ?a ?l ?c ?k;(case a=>k_is);(case l=>k_is);(case c=>k_is);(case k=>k_is))
    have Aht:FnIs (KOf KX) "rows_reached" K2.s_rows_reached:=by (dsimp only [KOf];refine' Ak ?a ?l ?c ?k;(case a=>k_is);(case l=>k_is);(case c=>k_is);(case k=>k_is))
    have Ahu:FnIs (KOf KX) "bar_of" K2.s_bar_of:=by (dsimp only [KOf];refine' Ak ?a ?l ?c ?k;(case a=>k_is);(case l=>k_is);(case c=>k_is);(case k=>k_is))
    have Ahv:FnIs (KOf KX) "row_at" K2.s_row_at:=by (dsimp only [KOf];refine' Ak ?a ?l ?c ?k;(case a=>k_is);(case l=>k_is);(case c=>k_is);(case k=>k_is))
    have Ahw:FnIs (KOf KX) "way_with" K2.s_way_with:=by (dsimp only [KOf];refine' Ak ?a ?l ?c ?k;(case a=>k_is);(case l=>k_is);(case c=>k_is);(case k=>k_is))
    have Ahx:FnIs (KOf KX) "least_way" K2.s_least_way:=by (dsimp only [KOf];refine' Ak ?a ?l ?c ?k;(case a=>k_is);(case l=>k_is);(case c=>k_is);(case k=>k_is))
    have Ahy:FnIs (KOf KX) "_law_turned" K2.s_L_turned:=by (dsimp only [KOf];refine' Ak ?a ?l ?c ?k;(case a=>k_is);(case l=>k_is);(case c=>k_is);(case k=>k_is))
    have Ahz:FnIs (KOf KX) "_law_sides_right" K2.s_L_sides_right:=by (dsimp only [KOf];refine' Ak ?a ?l ?c ?k;(case a=>k_is);(case l=>k_is);(case c=>k_is);(case k=>k_is))
    have Ah0:FnIs (KOf KX) "has_form_of_bar" K2.s_has_form_of_bar:=by (dsimp only [KOf];refine' Ak ?a ?l ?c ?k;(case a=>k_is);(case l=>k_is);(case c=>k_is);(case k=>k_is))
    have Ah1:FnIs (KOf KX) "has_all" K2.s_has_all:=by (dsimp only [KOf];refine' Ak ?a ?l ?c ?k;(case a=>k_is);(case l=>k_is);(case c=>k_is);(case k=>k_is))
    have Ah2:FnIs (KOf KX) "is_bar" K2.s_is_bar:=by (dsimp only [KOf];refine' Ak ?a ?l ?c ?k;(case a=>k_is);(case l=>k_is);(case c=>k_is);(case k=>k_is))
    have Ah3:FnIs (KOf KX) "step_on" K2.s_step_on:=by (dsimp only [KOf];refine' Ak ?a ?l ?c ?k;(case a=>k_is);(case l=>k_is);(case c=>k_is);(case k=>k_is))
    have Ah4:FnIs (KOf KX) "bends_onward" K2.s_bends_onward:=by (dsimp only [KOf];refine' Ak ?a ?l ?c ?k;(case a=>k_is);(case l=>k_is);(case c=>k_is);(case k=>k_is))
    have Ah5:FnIs (KOf KX) "straightest" K2.s_straightest:=by (dsimp only [KOf];refine' Ak ?a ?l ?c ?k;(case a=>k_is);(case l=>k_is);(case c=>k_is);(case k=>k_is))
    have Ah6:FnIs (KOf KX) "gates" K2.s_gates:=by (dsimp only [KOf];refine' Ak ?a ?l ?c ?k;(case a=>k_is);(case l=>k_is);(case c=>k_is);(case k=>k_is))
    have Ah7:FnIs (KOf KX) "_law_bends" K2.s_L_bends:=by (dsimp only [KOf];refine' Ak ?a ?l ?c ?k;(case a=>k_is);(case l=>k_is);(case c=>k_is);(case k=>k_is))
    have Ah8:FnIs (KOf KX) "way_at" K2.s_way_at:=by (dsimp only [KOf];refine' Ak ?a ?l ?c ?k;(case a=>k_is);(case l=>k_is);(case c=>k_is);(case k=>k_is))
    have Ah9:FnIs (KOf KX) "is_row" K2.s_is_row:=by (dsimp only [KOf];refine' Ak ?a ?l ?c ?k;(case a=>k_is);(case l=>k_is);(case c=>k_is);(case k=>k_is))
    have Aia:FnIs (KOf KX) "is_way" K2.s_is_way:=by (dsimp only [KOf];refine' Ak ?a ?l ?c ?k;(case a=>k_is);(case l=>k_is);(case c=>k_is);(case k=>k_is))
    have Aib:FnIs (KOf KX) "_law_ways_right" K2.s_L_ways_right:=by (dsimp only [KOf];refine' Ak ?a ?l ?c ?k;(case a=>k_is);(case l=>k_is);(case c=>k_is);(case k=>k_is))
    have Aic:FnIs (KOf KX) "_law_right" K2.s_L_right:=by (dsimp only [KOf];refine' Ak ?a ?l ?c ?k;(case a=>k_is);(case l=>k_is);(case c=>k_is);(case k=>k_is))
    have I_law:FnIs (KOf KX) "law" K2.s_law:=by (dsimp only [KOf];refine' Ak ?a ?l ?c ?k;(case a=>k_is);(case l=>k_is);(case c=>k_is);(case k=>k_is))
    have B:K2.Blt mg:=by (refine' K2.Ad3 KX G ?z0 ?z1 ?z2 ?z3 ?z4 ?z5 ?z6 ?z7 ?z8 ?z9 ?z10 ?z11 ?z12 ?z13 ?z14 ?z15 ?z16 ?z17 ?z18 ?z19 ?z20;(case z0=>k_is);(case z1=>k_is);(case z2=>k_is);(case z3=>k_is);(case z4=>k_is);(case z5=>k_is);(case z6=>k_is);(case z7=>k_is);(case z8=>k_is);(case z9=>k_is);(case z10=>k_is);(case z11=>k_is);(case z12=>k_is);(case z13=>k_is);(case z14=>k_is);(case z15=>k_is);(case z16=>k_is);(case z17=>k_is);(case z18=>k_is);(case z19=>k_is);(case z20=>k_is))
    have T:K2.Nums mg:=by (refine' K2.Aag KX G B ?a0 ?a1 ?a2;(case a0=>k_is);(case a1=>k_is);(case a2=>k_is))
    obtain ⟨f,fd,F,a,kp⟩:=I_law.ex
    have e0:=hmg.symm.trans (PySem.W.mg_of KX G a)
    cases e0
    obtain ⟨oc,od,kV,doc,pm,an,cdv,ct,osl,efd,lk,hcd⟩:=id F.ex
    refine ⟨fd,fun s u=>by (subst efd;exact .of_eq rfl),fun base kb nb=>K2.Ad6 KX G T Ahf Ahg Ahh Ahi Ahj Ahk Ahl Ahm Ahn Aho Ahp Ahq Ahr Ahs Aht Ahu Ahv Ahw Ahx Ahy Ahz Ah0 Ah1 Ah2 Ah3 Ah4 Ah5 Ah6 Ah7 Ah8 Ah9 Aia Aib Aic F⟩

