import PyProof.Rows.All
import Wide.All
import OpenK.AllK
import Wide.FinOn
import Lean
import PyProof.EqAt
import PyProof.EqKinds
import PyProof.TupleCall
import PyProof.Rows.SortRunsK
import KE.KSortTup
import KE.KDictList
import KE.KDictOf
import PyProof.AttrMissHeap
import PySem.Challenge.RW_laidmarks_k03_whole_drift
set_option linter.all false
set_option Elab.async false
set_option maxRecDepth 100000
namespace PySem.W.Fast
def tw15075308308267496856:=0
def tw9148647493238509411:=0
def tw15133038126011669565:=0
def tw3704774439799127140:=0
def tw9980667283264040529:=0
def tw13510338714334608967:=0
def tw11433273099312912707:=0
def tw6300789112149538776:=0
def tw15681650392773141410:=0
def tw2037427803956473613:=0
def tw3554778348384850213:=0
def tw12294396484062035531:=0
def tw5332697318171713837:=0
def tw15477185990879023739:=0
def tw18122488851794241613:=0
def tw6022310262834141724:=0
def tw9394768830508547112:=0
def tw6407444024413820364:=0
def tw15080554875294824521:=0
def tw14808947732281074674:=0
def tw3191063652317983749:=0
def tw13514786114475208865:=0
def tw8919530322234230556:=0
def tw14155862309145699131:=0
def tw10316322671650239905:=0
def tw12259092785182773767:=0
def tw15841579136500208292:=0
def tw7751410218903581174:=0
def tw8425571593923276474:=0
def tw14338087920642835330:=0
def tw8512529460737461965:=0
def tw10406307912175288308:=0
def tw12838796597275299030:=0
def tw1866887577566271493:=0
def tw3355364977372430928:=0
def tw7177947717237079015:=0
def tw5286846207460395476:=0
def tw5223857296856485026:=0
def tw4094439435040313537:=0
def tw6538990391373378404:=0
def tw11464274065117368131:=0
def tw12486549749016272242:=0
def tw6013451510050776731:=0
def tw9999512291276875816:=0
def tw16917323347705949132:=0
def tw16218416818473386523:=0
def tw17876458461283191293:=0
def tw10122109399952268316:=0
def tw10021832293347547597:=0
def tw2320297287461171692:=0
def tw13716501884011308811:=0
def tw17566357121053396610:=0
def tw3469989307844010143:=0
def tw6759283980376611377:=0
def tw16538256399610666609:=0
def tw2997708066966122385:=0
def tw14493623341773077845:=0
def tw13161024724042927824:=0
def tw2088938608058610911:=0
def tw74214664809032854:=0
def tw776631039697134103:=0
def tw2912987384559175382:=0
def tw8652034863978748590:=0
def tw7891114406870671303:=0
def tw5995294968153846532:=0
def tw2287840215741843011:=0
def tw273656817986704197:=0
def tw3517591985305215813:=0
def tw13929611074726631276:=0
def tw2984970807803638248:=0
def tw14074680856001560261:=0
def tw13136675720983559088:=0
def tw11520507118641798494:=0
def tw13321618648867567556:=0
def tw14680024376102531995:=0
def tw1388768367641516763:=0
def tw16818445366334143634:=0
def tw12056403281504451254:=0
def tw4940774627113619289:=0
def tw13201201868903274953:=0
def tw4565665279900685789:=0
def tw5605520663719575812:=0
def tw14168441595031955179:=0
def tw9043023281438213576:=0
def tw1258651776887391537:=0
def tw8497299181956881238:=0
def tw13665376391335944223:=0
def tw5237735049601273523:=0
def tw17634021655794043566:=0
def tw16372786672337706113:=0
def tw13232321415007449170:=0
def tw7147532817785009660:=0
def tw17476349929346729389:=0
def tw6792170382071044033:=0
def tw1656151199099490590:=0
def tw12571765560205940705:=0
def tw10873615607816994307:=0
def tw10026488095050545754:=0
def tw9318748679461340682:=0
def tw6460582948762836515:=0
def tw13692698692671248013:=0
def tw12738240128301772792:=0
def tw12810235290014133004:=0
def tw5739112369734039044:=0
def tw12149094841172966281:=0
def tw5053360323863103867:=0
def tw5660841300915063998:=0
def tw10269981244143048756:=0
def tw12168342383033798911:=0
def tw2144064038926281910:=0
def tw5880000912602775936:=0
def tw13239844594901519802:=0
def tw5788140700666414248:=0
def tw11648634434476963125:=0
def tw16417288934287184293:=0
def tw11102415202736754868:=0
def tw18307037192231789631:=0
def tw7571407932290881902:=0
def tw9039037080474767423:=0
def tw507786852202257941:=0
def tw4582748980559450319:=0
def tw3538881405960955684:=0
def tw9361314353574467915:=0
def tw15198732059307391222:=0
def tw136910465572473568:=0
def tw11922161645586615235:=0
def tw4906677496589503271:=0
def tw15386274379038543976:=0
def tw9866407152632448090:=0
def tw13463524332594244787:=0
def tw14477988924805222645:=0
def tw17151267735730973037:=0
def tw7951692505355121990:=0
def tw4997553954814129240:=0
def tw14697645444570470881:=0
def tw9288826021804911512:=0
def tw16851385134016989666:=0
def tw17666954250322174674:=0
def tw6446949334307312256:=0
def tw8126670742983988016:=0
def tw15556190847775627325:=0
def tw2957842476786776038:=0
def tw6502932776390060270:=0
def tw7606640363152951180:=0
def tw11981058524672110685:=0
def tw17468292710099756238:=0
def tw15593303181451235468:=0
def tw12174255892423293464:=0
def tw5863247654034107698:=0
def tw5782671221648539917:=0
def tw11168587686190870608:=0
def tw13656976667192525579:=0
def tw11760670258481461365:=0
def tw5196482280929457164:=0
def tw8849493895649370422:=0
def tw13904543780867001574:=0
def tw13944358875299835578:=0
def tw7620277165615810516:=0
def tw5833443518561311306:=0
def tw13732369792083231958:=0
def tw4354639948676005205:=0
def tw5862054239852338251:=0
def tw9540237451695057931:=0
def tw12707431474827424390:=0
def tw18434147422550253723:=0
def tw2178078842230877659:=0
def tw2057680025649408096:=0
def tw13650874299277904756:=0
def tw9603101921829526318:=0
def tw11569772359390949462:=0
def tw15001831023625508361:=0
def tw15866418032237696741:=0
def tw5998061799077312894:=0
def tw1943038944135047807:=0
def tw5158824288772015594:=0
def tw14180084211599958529:=0
def tw18212840394698750881:=0
def tw17204549657345677610:=0
def tw13780801588509222053:=0
def tw6506198658291876401:=0
def tw13787413464979442827:=0
def tw4967669036207391530:=0
def tw6811021927955610768:=0
def tw6321093871821346143:=0
def tw6424495648463482648:=0
def tw11361125113075572403:=0
def tw15216022716290263098:=0
def tw243523218261228128:=0
def tw1623921232286779370:=0
def tw17315858994185445119:=0
def tw5688838170436812272:=0
def tw3680673880989626311:=0
def tw11604675733119372225:=0
def tw18091701220260410034:=0
def tw7150355045616159735:=0
def tw6467985283003128136:=0
def tw13014172315283630867:=0
def tw7681780801879027755:=0
def tw16756828598311180315:=0
def tw17864155265170886357:=0
def tw12697106619143058984:=0
def tw9687288689566454038:=0
def tw8037031905665497128:=0
def tw15076604750301726915:=0
def tw8292681236684738640:=0
def tw1109465523739523887:=0
def tw1132471278249655957:=0
def tw18183430943152196349:=0
def tw12944066058816054826:=0
def tw13161560333486471048:=0
end PySem.W.Fast
namespace L2
open PySem PySem.Spec PyProof.Rows
abbrev Key:=Sum Int Str
def Ht:Key→Value→Bool
 |.inl k,v=>Value.isInt k v
 |.inr x,v=>Value.isStrOf x v
def keyH(w:World):Key→Int
 |.inl k=>hashInt k
 |.inr x=>hashStr w x
theorem A5:∀{k:Key} {v:Value},Ht k v=true→(∃i t,k=Sum.inl i∧v=Value.int i t)∨(∃x t,k=Sum.inr x∧v=Value.str x t)
 |.inl i,v,h=>by
  obtain⟨t,e⟩:=Value.isInt_shape (k:=i) (v:=v) h
  exact .inl ⟨i,t,rfl,e⟩
 |.inr x,v,h=>by
  obtain⟨t,e⟩:=Value.isStrOf_shape (x:=x) (v:=v) h
  exact .inr ⟨x,t,rfl,e⟩
theorem P4(i:Int)(t:Tok):Ht (.inl i) (.int i t)=true:=by simp[Ht,Value.isInt]
theorem P3(x:Str)(t:Tok):Ht (.inr x) (.str x t)=true:=by simp[Ht,Value.isStrOf]
theorem Yj(a b:Int):decide ((Sum.inl a:Key)=Sum.inl b)=(a == b):=by
 by_cases e:a=b
 ·subst e;simp
 ·have h:¬(Sum.inl a:Key)=Sum.inl b:=fun q=>e (Sum.inl.inj q)
  rw[decide_eq_false h]
  exact(beq_eq_false_iff_ne.mpr e).symm
theorem Yg(a b:Str):decide ((Sum.inr a:Key)=Sum.inr b)=decide (a=b):=by
 by_cases e:a=b
 ·subst e;simp
 ·have h:¬(Sum.inr a:Key)=Sum.inr b:=fun q=>e (Sum.inr.inj q)
  rw[decide_eq_false h,decide_eq_false e]
theorem Yi(a:Int)(b:Str):decide ((Sum.inl a:Key)=Sum.inr b)=false:=decide_eq_false (fun q=>nomatch q)
theorem Yh(a:Str)(b:Int):decide ((Sum.inr a:Key)=Sum.inl b)=false:=decide_eq_false (fun q=>nomatch q)

def A0(prog:Program)(w:World):PySem.KeyKind prog w Key where
 is:=Ht
 hash:=keyH w
 inj:=fun v a b ha hb=>by
  rcases A5 ha with ⟨i,t,rfl,rfl⟩|⟨x,t,rfl,rfl⟩
  ·rcases A5 hb with ⟨j,u,rfl,e⟩|⟨y,u,rfl,e⟩
   ·injection e with e1 _;rw[e1]
   ·exact nomatch e
  ·rcases A5 hb with ⟨j,u,rfl,e⟩|⟨y,u,rfl,e⟩
   ·exact nomatch e
   ·injection e with e1 _;rw[e1]
 byValue:=fun k v h=>by
  rcases A5 h with ⟨i,t,rfl,rfl⟩|⟨x,t,rfl,rfl⟩<;>rfl
 pyHash:=fun hv h=>by
  rcases A5 hv with ⟨i,t,rfl,rfl⟩|⟨x,t,rfl,rfl⟩
  ·exact wpAny_pyHash_int h
  ·exact wpAny_pyHash_str h
 eqBool:=fun hu hv h=>by
  rcases A5 hu with ⟨i,t,rfl,rfl⟩|⟨x,t,rfl,rfl⟩
  ·rcases A5 hv with ⟨j,u,rfl,rfl⟩|⟨y,u,rfl,rfl⟩
   ·rw[Yj] at h;exact wpAny_eqBool_int h
   ·rw[Yi] at h;exact SeqAt.EqAt.int_str i t y u _ _ _ _ h
  ·rcases A5 hv with ⟨j,u,rfl,rfl⟩|⟨y,u,rfl,rfl⟩
   ·rw[Yh] at h;exact SeqAt.EqAt.str_int x t j u _ _ _ _ h
   ·rw[Yg] at h;exact wpAny_eqBool_str h
 «strs»:=fun k x t v h=>by
  rcases A5 h with ⟨i,u,rfl,e⟩|⟨y,u,rfl,e⟩
  ·exact nomatch e
  ·injection e with e1 _
   subst e1
   cases v<;>rfl

theorem L4(prog:Program)(w:World)(i:Int)(t:Tok):(A0 prog w).is (.inl i) (.int i t)=true:=P4 i t
theorem L3(prog:Program)(w:World)(x:Str)(t:Tok):(A0 prog w).is (.inr x) (.str x t)=true:=P3 x t
end L2
namespace L2
open PySem PySem.Spec PyProof.Rows
inductive V where
 |non|bl (b:Bool)|int (i:Int)|str (x:Str)|byt (b:Array UInt8)|flt (b:UInt64)|ref (a:Addr)|ty (n:String)
 deriving DecidableEq

def RelV:V→Value→Prop
 |.non,u=>u=Value.none
 |.bl b,u=>u=Value.bool b
 |.int i,u=>∃t,u=Value.int i t
 |.str x,u=>∃t,u=Value.str x t
 |.byt b,u=>∃t,u=Value.bytes b t
 |.flt b,u=>∃t,u=Value.float b t
 |.ref a,u=>u=Value.ref a
 |.ty n,u=>u=Value.type n

abbrev Vals:List V→List Value→Prop:=Paired RelV
theorem Vals.length{xs:List V}{us:List Value}(r:Vals xs us):xs.length=us.length:=Paired.length r
theorem Vals.get:∀{xs:List V} {us:List Value} {i:Nat} {x:V},Vals xs us→xs[i]? = some x→∃u,us[i]? = some u∧RelV x u
 |_,_,_,_,.nil,e=>by simp at e
 |_,_,0,_,.cons r _,e=>by simp at e;subst e;exact⟨_,rfl,r⟩
 |_,_,i+1,x,.cons _ t,e=>by
  obtain⟨u,h1,h2⟩:=Vals.get (i:=i) (x:=x) t (by simpa using e)
  exact⟨u,by simpa using h1,h2⟩
theorem Vals.set{x:V}{u:Value}(r:RelV x u):∀{xs:List V} {us:List Value} (i:Nat),Vals xs us→Vals (xs.set i x) (us.set i u)
 |_,_,_,.nil=>.nil
 |_,_,0,.cons _ t=>.cons r t
 |_,_,i+1,.cons q t=>.cons q (Vals.set r i t)
theorem Vals.append:∀{xs ys:List V} {us ws:List Value},Vals xs us→Vals ys ws→Vals (xs++ys) (us++ws)
 |_,_,_,_,.nil,s=>s
 |_,_,_,_,.cons r t,s=>.cons r (Vals.append t s)
theorem Vals.take:∀{xs:List V} {us:List Value} (n:Nat),Vals xs us→Vals (xs.take n) (us.take n)
 |_,_,0,_=>.nil
 |_,_,_+1,.nil=>.nil
 |_,_,n+1,.cons r t=>.cons r (Vals.take n t)
theorem Vals.drop:∀{xs:List V} {us:List Value} (n:Nat),Vals xs us→Vals (xs.drop n) (us.drop n)
 |_,_,0,r=>r
 |_,_,_+1,.nil=>.nil
 |_,_,n+1,.cons _ t=>Vals.drop n t
def RelO:Option V→Option Value→Prop
 |some v,some u=>RelV v u
 |none,none=>True
 |_,_=>False
def KV{κ:Type}:List (κ×V)→List (κ×Value)→Prop:=Paired fun(p:κ×V) (q:κ×Value)=>p.1=q.1∧RelV p.2 q.2

def kV:Key→V
 |.inl i=>.int i
 |.inr x=>.str x

inductive HO where
 /-- a list -/
 |lst (xs:List V)
 /-- a tuple (never changes) -/
 |tup (xs:List V)
 /-- a dict whose keys are ints and texts;one whose keys are tuples of ints and texts (the empty one is both) -/
 |dK (kvs:List (Key×V))|dT (kvs:List (List Key×V))
 /-- a set of ints: its members,its size -/
 |set (S:Int→Bool) (n:Nat)
 /-- an instance of the class at C,its dict at dx,its attributes -/
 |ins (C dx:Addr) (fs:List (Str×V))
 /-- the dict of the instance at x -/
 |own (x:Addr)
 /-- the dict of an exception -/
 |xd (fs:List (Str×V))
 /-- a bound method,f of x -/
 |met (f x:Addr)
 /-- a range object lo,lo+1,.. below hi -/
 |rng (lo hi:Int)
 /-- a thing that is known to the object (the script;a dict while a loop walks it): read,never written while it is so -/
 |frz (o:Obj) (u:HO)
 /-- a code object's table -/
 |tbl (ps:Array Value)
 /-- any other thing,by what is true of its one object (a def of one's own: SetO a S n:=HO.ext fun h=>..) -/
 |ext (φ:Heap→Prop)

abbrev Hp:=Addr→Option HO
def upd(H:Hp)(a:Addr)(o:HO):Hp:=fun b=>if b=a then some o else H b
theorem A4{H:Hp}{a:Addr}{o:HO}:upd H a o a=some o:=by unfold upd;rw[if_pos rfl]
theorem Ar{H:Hp}{a b:Addr}{o:HO}(h:b≠a):upd H a o b=H b:=by unfold upd;rw[if_neg h]
theorem Nw{H:Hp}{a b:Addr}{o u:HO}(h:H a=some o)(h':H b=some u)(d:o≠u):a≠b:=by
 intro e;subst e;rw[h] at h';exact d (Option.some.inj h')
theorem A9{H:Hp}{a b:Addr}{o:HO}(h:H a=some o)(h':H b=none):a≠b:=by
 intro e;subst e;rw[h] at h';cases h'

section
variable(P:Program)(w:World)
def ObjOk(H:Hp)(h:Heap)(a:Addr):HO→Prop
 |.lst xs=>xs.length≤sizeLine∧∃(its:List Value) (n:Nat),Vals xs its∧h.get? a=some { cls:=.type "list",data:=.seq its.toArray n }
 |.tup xs=>xs.length≤sizeLine∧∃its:List Value,Vals xs its∧IsTup h a its.toArray
 |.dK kvs=>kvs.length≤sizeLine∧(a == sysModules)=false∧∃vs,KV kvs vs∧h.DictOf (A0 P w) a vs
 |.dT kvs=>kvs.length≤sizeLine∧(a == sysModules)=false∧∃xs:List (List Key×Addr×Value),
   Paired (fun(p:List Key×V) (q:List Key×Addr×Value)=>p.1=q.1∧H q.2.1=some (.tup (p.1.map kV))∧RelV p.2 q.2.2) kvs xs∧
   ∃o es ep,h.get? a=some o∧o.ExactDict∧o.data=.dict es ep∧es.toList=xs.map (entryOfKey (tupleKind (A0 P w)))∧(xs.map (·.1)).Nodup
 |.set S n=>h.SetOf (intKind P w) a S n
 |.ins C dx fs=>H dx=some (.own a)∧fs.length≤1000∧dx≠a∧h.get? a=some (PySem.W.instObj C dx)∧
   ∃mA,h.Ns1 dx mA∧(∀f,RelO (fs.lookup f) (mA f))∧PySem.Within mA (fs.map (·.1))
 |.own _=>∃o,h.get? a=some o
 |.xd fs=>∃mA,h.Ns1 a mA∧∀f,RelO (fs.lookup f) (mA f)
 |.rng lo hi=>∃t u v,h.get? a=some { cls:=.type "range",data:=.fields #[.int lo t,.int hi u,.int 1 v] }
 |.frz o u=>h.get? a=some o∧ObjOk H h a u
 |.tbl ps=>h.get? a=some { cls:=.none,data:=.fields ps }
 |.met f x=>h.get? a=some (PySem.W.methodObj (.ref f) (.ref x))
 |.ext φ=>φ h∧(∃o,h.get? a=some o)∧∀h1 h2:Heap,φ h1→(∀o,h1.get? a=some o→h2.get? a=some o)→φ h2
def HOk(H:Hp)(h:Heap):Prop:=∀a o,H a=some o→ObjOk P w H h a o
end
section
variable{P:Program}{w:World}{H H':Hp}{h h':Heap}{a:Addr}{o:HO}
theorem ObjOk.lt(x:ObjOk P w H h a o):a<h.objs.size:=by
 cases o with
 |lst xs=>obtain⟨_,_,_,_,e⟩:=x;exact Heap.lt_size e
 |tup xs=>obtain⟨_,_,_,p⟩:=x;exact p.lt
 |dK kvs=>obtain⟨_,_,_,_,o,_,_,e,_⟩:=x;exact Heap.lt_size e
 |dT kvs=>obtain⟨_,_,_,_,o,_,_,e,_⟩:=x;exact Heap.lt_size e
 |set S n=>obtain⟨o,_,_,_,e,_⟩:=x;exact Heap.lt_size e
 |ins C dx fs=>obtain⟨_,_,_,e,_⟩:=x;exact Heap.lt_size e
 |own y=>obtain⟨_,e⟩:=x;exact Heap.lt_size e
 |xd fs=>obtain⟨_,⟨_,_,_,e,_⟩,_⟩:=x;exact Heap.lt_size e
 |rng lo hi=>obtain⟨_,_,_,e⟩:=x;exact Heap.lt_size e
 |frz ob u=>obtain⟨e,_⟩:=x;exact Heap.lt_size e
 |tbl ps=>exact Heap.lt_size (show h.get? a=some _ from x)
 |met f y=>exact Heap.lt_size (show h.get? a=some _ from x)
 |ext φ=>obtain⟨_,⟨_,e⟩,_⟩:=x;exact Heap.lt_size e
theorem Paired.mapP{α β:Type}{F G:α→β→Prop}:∀{l₁:List α} {l₂:List β},Paired F l₁ l₂→(∀a b,F a b→G a b)→Paired G l₁ l₂
 |_,_,.nil,_=>.nil
 |_,_,.cons r t,f=>.cons (f _ _ r) (Paired.mapP t f)
theorem ObjOk.stay(x:ObjOk P w H h a o)(k:∀b u,(b=a∨H b=some (.own a))→h.get? b=some u→h'.get? b=some u)(ho:∀b,H b=some (.own a)→H' b=some (.own a))(ht:∀b xs,H b=some (.tup xs)→H' b=some (.tup xs)):ObjOk P w H' h' a o:=by
 induction o with
 |lst xs=>obtain⟨z,its,n,r,e⟩:=x;exact⟨z,its,n,r,k _ _ (.inl rfl) e⟩
 |tup xs=>obtain⟨z,its,r,ob,e,c⟩:=x;exact⟨z,its,r,ob,k _ _ (.inl rfl) e,c⟩
 |dK kvs=>obtain⟨z,y,vs,r,ob,es,ep,e,c⟩:=x;exact⟨z,y,vs,r,ob,es,ep,k _ _ (.inl rfl) e,c⟩
 |dT kvs=>
  obtain⟨z,y,xs,r,ob,es,ep,e,c⟩:=x
  exact⟨z,y,xs,Paired.mapP r fun p q z=>⟨z.1,ht _ _ z.2.1,z.2.2⟩,ob,es,ep,k _ _ (.inl rfl) e,c⟩
 |set S n=>obtain⟨ob,es,ep,t,e,c⟩:=x;exact⟨ob,es,ep,t,k _ _ (.inl rfl) e,c⟩
 |ins C dx fs=>
  obtain⟨d,z,ne,e,mA,⟨od,es,ep,e2,c⟩,r⟩:=x
  exact⟨ho _ d,z,ne,k _ _ (.inl rfl) e,mA,⟨od,es,ep,k _ _ (.inr d) e2,c⟩,r⟩
 |own y=>obtain⟨ob,e⟩:=x;exact⟨ob,k _ _ (.inl rfl) e⟩
 |xd fs=>obtain⟨mA,⟨od,es,ep,e,c⟩,r⟩:=x;exact⟨mA,⟨od,es,ep,k _ _ (.inl rfl) e,c⟩,r⟩
 |rng lo hi=>obtain⟨t,u,v,e⟩:=x;exact⟨t,u,v,k _ _ (.inl rfl) e⟩
 |frz ob u ih=>obtain⟨e,q⟩:=x;exact⟨k _ _ (.inl rfl) e,ih q⟩
 |tbl ps=>
  have e:h.get? a=some { cls:=.none,data:=.fields ps }:=x
  show h'.get? a=some { cls:=.none,data:=.fields ps }
  exact k a _ (.inl rfl) e
 |met f y=>
  have e:h.get? a=some (PySem.W.methodObj (.ref f) (.ref y)):=x
  show h'.get? a=some (PySem.W.methodObj (.ref f) (.ref y))
  exact k a _ (.inl rfl) e
 |ext φ=>obtain⟨p,⟨o,e⟩,st⟩:=x;exact⟨st _ _ p fun o q=>k _ _ (.inl rfl) q,⟨o,k _ _ (.inl rfl) e⟩,st⟩
theorem HOk.lt(x:HOk P w H h)(e:H a=some o):a<h.objs.size:=(x a o e).lt
theorem HOk.fresh(x:HOk P w H h)(e:h.objs.size≤a):H a=none:=by
 cases q:H a with
 |none=>rfl
 |some u=>exact absurd (Nat.lt_of_lt_of_le (x.lt q) e) (Nat.lt_irrefl _)
theorem HOk.kept(x:HOk P w H h)(k:∀b u,h.get? b=some u→h'.get? b=some u):HOk P w H h':=fun a o e=>
 (x a o e).stay (fun b u _ q=>k b u q) (fun _ q=>q) fun _ _ q=>q
theorem HOk.laid(x:HOk P w H h)(k:∀b u,h.get? b=some u→h'.get? b=some u)(hp:h.objs.size≤a)(new:ObjOk P w (upd H a o) h' a o):HOk P w (upd H a o) h':=fun b u e=>by
 have hn:=x.fresh hp
 by_cases hb:b=a
 ·subst hb;rw[A4] at e;cases e;exact new
 ·rw[Ar hb] at e
  exact(x b u e).stay (fun c v _ q=>k c v q) (fun c q=>by rw[Ar (A9 q hn)];exact q) fun c xs q=>by rw[Ar (A9 q hn)];exact q
end
def Rd(H:Hp)(a:Addr)(u:HO):Prop:=H a=some u∨∃o,H a=some (.frz o u)
theorem Rd.ok{P:Program}{w:World}{H:Hp}{h:Heap}{a:Addr}{u:HO}(r:Rd H a u)(x:HOk P w H h):ObjOk P w H h a u:=by
 rcases r with r|⟨o,r⟩
 ·exact x a u r
 ·obtain⟨_,q⟩:=x a _ r
  exact q
def Mut:Option HO→Prop
 |some (.lst _)=>True
 |some (.dK _)=>True
 |some (.dT _)=>True
 |some (.set _ _)=>True
 |some (.ins _ _ _)=>True
 |some (.ext _)=>True
 |_=>False
section
variable{P:Program}{w:World}{H:Hp}{h h':Heap}{x e:Addr}{o':HO}
theorem HOk.write(ok:HOk P w H h)(mu:Mut (H x))(he:e=x∨H e=some (.own x))(k:∀b u,b≠e→h.get? b=some u→h'.get? b=some u)(heo:∃u,h'.get? e=some u)(new:ObjOk P w (upd H x o') h' x o'):HOk P w (upd H x o') h':=fun b u q=>by
 have nown:∀c y,H c=some (.own y)→c≠x:=fun c y r z=>by subst z;rw[r] at mu;exact mu
 have ntup:∀c xs,H c=some (.tup xs)→c≠x:=fun c xs r z=>by subst z;rw[r] at mu;exact mu
 by_cases hb:b=x
 ·subst hb;rw[A4] at q;cases q;exact new
 ·rw[Ar hb] at q
  by_cases hbe:b=e
  ·have q':H b=some (.own x):=by
    rcases he with z|z
    ·exact absurd (hbe.trans z) hb
    ·rw[hbe];exact z
   rw[q] at q';cases q'
   obtain⟨v,hv⟩:=heo
   exact⟨v,by rw[hbe];exact hv⟩
  ·refine(ok b u q).stay (fun c v hc r=>k c v ?_ r) (fun c r=>by rw[Ar (nown c b r)];exact r) fun c xs r=>by rw[Ar (ntup c xs r)];exact r
   rcases hc with rfl|hc
   ·exact hbe
   ·rintro rfl
    rcases he with z|z
    ·exact nown c b hc z
    ·rw[hc] at z;cases z;exact hb rfl
end
structure Un(fs ex:List Addr)(H H':Hp)(h h':Heap):Prop where
 keep:∀b o,h.get? b=some o→H b=none→b ∉ fs→b ∉ ex→h'.get? b=some o
 slot:∀b o,h.get? b=some o→H b=none→b∈fs→b ∉ ex→∃sl,h'.get? b=some { o with slots:=sl }
 free:∀b o,h.get? b=some o→H b=none→b ∉ ex→H' b=none
 there:∀b o,h.get? b=some o→b ∉ ex→∃o',h'.get? b=some o'
 tups:∀b xs,H b=some (.tup xs)→H' b=some (.tup xs)
 frzs:∀b o u,H b=some (.frz o u)→H' b=some (.frz o u)
 tbls:∀b ps,H b=some (.tbl ps)→∃more,H' b=some (.tbl (ps++more))
section
variable{fs fs' ex ex':List Addr}{H H1 H2:Hp}{h h1 h2 h':Heap}{a x e:Addr}{o:HO}
theorem Un.any(u:Un fs ex H H1 h h1){b:Addr}{ob:Obj}(q:h.get? b=some ob)(n:H b=none)(hx:b ∉ ex):∃sl,h1.get? b=some { ob with slots:=sl }:=by
 by_cases hb:b∈fs
 ·exact u.slot b ob q n hb hx
 ·exact⟨ob.slots,u.keep b ob q n hb hx⟩
theorem Un.trans(a:Un fs ex H H1 h h1)(b:Un fs ex H1 H2 h1 h2):Un fs ex H H2 h h2 where
 keep:=fun c ob q n hc hx=>b.keep c ob (a.keep c ob q n hc hx) (a.free c ob q n hx) hc hx
 slot:=fun c ob q n hc hx=>by
  obtain⟨sl,e1⟩:=a.slot c ob q n hc hx
  obtain⟨sl',e2⟩:=b.slot c _ e1 (a.free c ob q n hx) hc hx
  exact⟨sl',e2⟩
 free:=fun c ob q n hx=>by
  obtain⟨o',e1⟩:=a.there c ob q hx
  exact b.free c o' e1 (a.free c ob q n hx) hx
 there:=fun c ob q hx=>by
  obtain⟨o',e1⟩:=a.there c ob q hx
  exact b.there c o' e1 hx
 tups:=fun c xs q=>b.tups c xs (a.tups c xs q)
 frzs:=fun c ob xs q=>b.frzs c ob xs (a.frzs c ob xs q)
 tbls:=fun c ps q=>by
  obtain⟨m1,e1⟩:=a.tbls c ps q
  obtain⟨m2,e2⟩:=b.tbls c _ e1
  exact⟨m1++m2,by rw[e2,Array.append_assoc]⟩
theorem Un.kept(k:∀b u,h.get? b=some u→h'.get? b=some u):Un fs ex H H h h':=
 ⟨fun b ob q _ _ _=>k b ob q,fun b ob q _ _ _=>⟨ob.slots,k b ob q⟩,fun _ _ _ n _=>n,fun b ob q _=>⟨ob,k b ob q⟩,fun _ _ q=>q,fun _ _ _ q=>q,fun _ ps q=>⟨#[],by rw[q];simp⟩⟩
theorem Un.refl:Un fs ex H H h h:=Un.kept fun _ _ q=>q
theorem Un.laid(k:∀b u,h.get? b=some u→h'.get? b=some u)(hp:h.objs.size≤a)(hn:H a=none):Un fs ex H (upd H a o) h h' where
 keep:=fun b u q _ _ _=>k b u q
 slot:=fun b u q _ _ _=>⟨u.slots,k b u q⟩
 free:=fun b u q n _=>by rw[Ar (Nat.ne_of_lt (Nat.lt_of_lt_of_le (Heap.lt_size q) hp))];exact n
 there:=fun b u q _=>⟨u,k b u q⟩
 tups:=fun b xs q=>by rw[Ar (A9 q hn)];exact q
 frzs:=fun b u xs q=>by rw[Ar (A9 q hn)];exact q
 tbls:=fun b ps q=>⟨#[],by rw[Ar (A9 q hn),q];simp⟩
theorem Un.write(mu:Mut (H x))(he:e=x∨H e=some (.own x))(k:∀b u,b≠e→h.get? b=some u→h'.get? b=some u)(heo:∃u,h'.get? e=some u):Un fs ex H (upd H x o) h h':=by
 have hx:∀b,H b=none→b≠x:=fun b n z=>by subst z;rw[n] at mu;exact mu
 have hb:∀b,H b=none→b≠e:=fun b n z=>by
  subst z
  rcases he with r|r
  ·exact hx b n r
  ·rw[n] at r;cases r
 have hm:∀b u,H b=some u→¬Mut (some u)→b≠x:=fun b u q nm z=>by subst z;rw[q] at mu;exact nm mu
 refine⟨fun b u q n _ _=>k b u (hb b n) q,fun b u q n _ _=>⟨u.slots,k b u (hb b n) q⟩,fun b u q n _=>by rw[Ar (hx b n)];exact n,fun b u q _=>?_,
  fun b xs q=>by rw[Ar (hm b _ q fun z=>z)];exact q,fun b u xs q=>by rw[Ar (hm b _ q fun z=>z)];exact q,fun b ps q=>⟨#[],by rw[Ar (hm b _ q fun z=>z),q];simp⟩⟩
 by_cases hbe:b=e
 ·subst hbe;exact heo
 ·exact⟨u,k b u hbe q⟩
end
def trk(h:Heap)(H:Hp):List Addr:=(List.range h.objs.size).filter fun a=>(H a).isSome
def Ji(h:Heap)(H:Hp):Heap:=PySem.W.hideAll h (trk h H)
theorem Qb(h:Heap)(H:Hp):(Ji h H).objs.size=h.objs.size:=PySem.W.hideAll_size _ _
theorem Tr{h:Heap}{H:Hp}{b:Addr}{o:Obj}(e:h.get? b=some o)(n:H b=none):(Ji h H).get? b=some o:=
 PySem.W.hideAll_get _ e fun hm=>by
  have q:(H b).isSome=true:=(List.mem_filter.mp hm).2
  rw[n] at q;simp at q
theorem Va{h:Heap}{H:Hp}{b:Addr}{o:Obj}(e:(Ji h H).get? b=some o):h.get? b=some o∧H b=none:=by
 have e':h.get? b=some o:=PySem.W.of_hideAll (trk h H) e
 refine⟨e',?_⟩
 cases q:H b with
 |none=>rfl
 |some x=>
  have hm:b∈trk h H:=List.mem_filter.mpr ⟨List.mem_range.mpr (Heap.lt_size e'),by simp[q]⟩
  have z:(Ji h H).get? b=none:=PySem.W.hideAll_none (trk h H) hm
  rw[z] at e;cases e

def Vt(g h:Heap)(L:Addr):List (Addr×Obj):=(List.range h.objs.size).filterMap fun a=>if a=L∨(g.get? a).isSome=true then none else (h.get? a).map fun o=>(a,o)
def B7(g h:Heap)(L d:Addr):List (Addr×Obj):=(Vt g h L).filter fun p=>decide (p.1≠d)
end L2
namespace L2
open PySem PySem.Spec PyProof.Rows
structure Mod(K:PySem.W.Frag)(mg:Str→Option Value)(base:Heap):Prop where
 kin:K.In base
 glob:base.Ns mainGlobals mg
 sm:∃mm,base.Ns sysModules mm
 bm:∃bm ob,mg "__builtins__" = some (.ref bm)∧bm≠builtinsNs∧base.get? bm=some ob∧ob.cls=.type "module"∧ob.dict=some builtinsNs∧ob.data=.plain
 blt:∃mb,base.Ns builtinsNs mb∧∀x:Str,x≠"__name__"→mb x=bootBuiltins x
 nolimit:base.NoLimit

structure Cx where
 prog:Program
 w:World
 K:PySem.W.Frag
 mg:Str→Option Value
 base:Heap
 A:Around
 N:List Str
 s₀:Shared
 H₀:Hp
 env:Env
 outer:List Env
 stack:List Env
 ex:List Addr
 fn:Str→Bool
 calm:Bool
 pn:List (Addr×Obj)
 xe:Value→Shared→Prop
def frs(l:List Env):List Addr:=l.filterMap (·.frame)
abbrev Cx.fs(X:Cx):List Addr:=frs X.outer

def Vis(sc:Scope)(x:Str):Prop:=sc.names.lookup x=some .local∨sc.names.lookup x=some .cell∨sc.names.lookup x=some .free
def Loc(sc:Scope)(x:Str):Prop:=sc.names.lookup x=some .local∨sc.names.lookup x=some .cell
def Look(env:Env)(h:Heap)(m:Str→Option Value)(x:Str)(u:Value):Prop:=
 (env.kindOf x=some .local∧m x=some u)∨((env.kindOf x=some .cell∨env.kindOf x=some .free)∧∃c,env.cells.lookup x=some c∧h.IsCell c (some u))

structure Cx.Ok(X:Cx):Prop where
 mod:Mod X.K X.mg X.base
 kind:X.env.scope.kind=.function
 glob:X.env.globals=mainGlobals
 blt:X.env.builtins=builtinsNs
 above:X.s₀.heap.objs.size≤X.env.locals
 inj:∀x y c,X.env.cells.lookup x=some c→X.env.cells.lookup y=some c→x=y
 has:∀x,(X.env.kindOf x=some .cell∨X.env.kindOf x=some .free)→∃c,X.env.cells.lookup x=some c
 cab:∀x c,X.fn x=true→X.env.cells.lookup x=some c→X.s₀.heap.objs.size≤c
 hd:X.calm=true→X.A.handled=none
 frames:X.A.frames=some X.stack
 stk:X.stack=X.outer∨(X.stack=X.env::X.outer∧X.env.frame=some X.env.locals)
 exf:∀b∈X.ex,b≠X.env.locals∧∀x c,X.env.cells.lookup x=some c→c≠b
 bs:∀b o,X.base.get? b=some o→X.s₀.heap.get? b=some o∧X.H₀ b=none
 bsz:X.base.objs.size≤X.s₀.heap.objs.size
 noex:∀b o,X.base.get? b=some o→b ∉ X.ex
 exfs:∀b∈X.ex,b ∉ X.fs
 funs:X.s₀.heap.FunFrames X.base X.outer
 frf:∀b∈X.fs,X.H₀ b=none

structure Inv(X:Cx)(pins:List (Addr×Obj))(σ:List (Option V))(H:Hp)(s:Shared):Prop where
 ok:X.Ok
 os:s.os=X.s₀.os
 bare:AllBare s.gens
 base:Un X.fs X.ex X.H₀ H X.s₀.heap s.heap
 loc:∃m,s.heap.Ns X.env.locals m∧∀(i:Nat) (x:Str) (v:V),X.N[i]? = some x→σ[i]? = some (some v)→Vis X.env.scope x→∃u,RelV v u∧Look X.env s.heap m x u
 cell:∀x c,X.env.cells.lookup x=some c→∃v,s.heap.IsCell c v
 free:H X.env.locals=none
 freeC:∀x c,X.env.cells.lookup x=some c→H c=none
 pin:∀p∈X.pn++pins,s.heap.get? p.1=some p.2∧H p.1=none∧p.1≠X.env.locals∧p.1 ∉ X.fs∧∀v,p.2.data≠.cell v
 hok:HOk X.prog X.w H s.heap
 len:σ.length=X.N.length

section
variable{X:Cx}{pins:List (Addr×Obj)}{σ:List (Option V)}{H H':Hp}{s:Shared}{h':Heap}
theorem Cx.Ok.nofr(ok:X.Ok){b:Addr}{o:Obj}(e:X.base.get? b=some o):b ∉ X.fs:=fun hb=>by
 have:=(ok.funs.mem hb).1
 rw[e] at this;cases this
theorem Inv.bs(I:Inv X pins σ H s):∀b o,X.base.get? b=some o→s.heap.get? b=some o∧H b=none:=fun b o e=>
 ⟨I.base.keep b o (I.ok.bs b o e).1 (I.ok.bs b o e).2 (I.ok.nofr e) (I.ok.noex b o e),I.base.free b o (I.ok.bs b o e).1 (I.ok.bs b o e).2 (I.ok.noex b o e)⟩
theorem Inv.bk(I:Inv X pins σ H s):∀b o,X.base.get? b=some o→s.heap.get? b=some o:=fun b o e=>(I.bs b o e).1
theorem Inv.mod(I:Inv X pins σ H s):Mod X.K X.mg X.base:=I.ok.mod
theorem Inv.kIn(I:Inv X pins σ H s):X.K.In s.heap:=I.ok.mod.kin.keeps I.bk
theorem Inv.lt(I:Inv X pins σ H s):X.env.locals<s.heap.objs.size:=let ⟨_,hn,_⟩:=I.loc;hn.lt
theorem Inv.sz(I:Inv X pins σ H s):X.s₀.heap.objs.size≤s.heap.objs.size:=Nat.le_trans I.ok.above (Nat.le_of_lt I.lt)
theorem Inv.nofs(I:Inv X pins σ H s){a:Addr}(h:s.heap.objs.size≤a):a ∉ X.fs:=fun hb=>by
 obtain⟨_,o,ho,_⟩:=I.ok.funs.mem hb
 exact absurd (Nat.lt_of_lt_of_le (Heap.lt_size ho) (Nat.le_trans I.sz h)) (Nat.lt_irrefl _)
theorem Inv.cne(I:Inv X pins σ H s):∀x c,X.env.cells.lookup x=some c→c≠X.env.locals:=fun x c e z=>by
 obtain⟨v,o,ho,hd⟩:=I.cell x c e
 obtain⟨m,⟨o',es,ep,ho',hd',_⟩,_⟩:=I.loc
 rw[z,ho'] at ho;cases ho;rw[hd'] at hd;cases hd
theorem Inv.funs(I:Inv X pins σ H s):s.heap.FunFrames X.base X.outer:=by
 have all:∀(l:List Env),(∀b∈frs l,b∈X.fs)→X.s₀.heap.FunFrames X.base l→s.heap.FunFrames X.base l:=by
  intro l
  induction l with
  |nil=>intro _ _;trivial
  |cons env r ih=>
   intro hs hl
   obtain⟨hk,⟨L,o,hf,hn,ho,hd⟩,hr⟩:=hl
   have hL:L∈X.fs:=hs L (by unfold frs;rw[List.filterMap_cons,hf];exact List.mem_cons_self)
   obtain⟨sl,e⟩:=I.base.slot L o ho (I.ok.frf L hL) hL fun z=>I.ok.exfs L z hL
   exact⟨hk,⟨L,_,hf,hn,e,hd⟩,ih (fun b hb=>hs b (by unfold frs;rw[List.filterMap_cons,hf];exact List.mem_cons_of_mem _ hb)) hr⟩
 exact all X.outer (fun _ hb=>hb) I.ok.funs

theorem Inv.stack(I:Inv X pins σ H s):s.heap.FunFrames X.base X.stack:=by
 rcases I.ok.stk with e|⟨e,hf⟩
 ·rw[e];exact I.funs
 ·rw[e]
  obtain⟨m,hn,_⟩:=I.loc
  refine .cons (by rw[I.ok.kind];decide) hf hn ?_ I.funs
  exact Heap.get?_none_of_le (Nat.le_trans I.ok.bsz I.ok.above)
theorem Inv.stkSub(I:Inv X pins σ H s):∀b∈frs X.stack,b∈X.env.locals::X.fs:=fun b hb=>by
 rcases I.ok.stk with e|⟨e,hf⟩
 ·rw[e] at hb;exact List.mem_cons_of_mem _ hb
 ·rw[e] at hb
  unfold frs at hb
  rw[List.filterMap_cons,hf] at hb
  exact hb
theorem Inv.stkFree(I:Inv X pins σ H s):∀b∈frs X.stack,H b=none:=fun b hb=>by
 rcases List.mem_cons.mp (I.stkSub b hb) with e|hb
 ·rw[e];exact I.free
 ·obtain⟨_,o,ho,_⟩:=I.ok.funs.mem hb
  exact I.base.free b o ho (I.ok.frf b hb) fun z=>I.ok.exfs b z hb

theorem Inv.step{g':Array GenState}{t':Nat}{d':Drawn}{ch:List Addr}(I:Inv X pins σ H s)(hch:∀b∈ch,(b∈X.ex∨X.s₀.heap.objs.size≤b)∧b≠X.env.locals∧(∀x c,X.env.cells.lookup x=some c→c≠b)∧∀p∈X.pn++pins,p.1≠b)(keep:∀b o,b≠X.env.locals→b ∉ X.fs→b ∉ ch→s.heap.get? b=some o→H b=none→h'.get? b=some o)(slot:∀b o,b≠X.env.locals→b∈X.fs→b ∉ ch→s.heap.get? b=some o→H b=none→∃sl,h'.get? b=some { o with slots:=sl })(free:∀b o,b ∉ ch→s.heap.get? b=some o→H b=none→H' b=none)(there:∀b o,b ∉ ch→s.heap.get? b=some o→∃o',h'.get? b=some o')(tups:∀b xs,H b=some (.tup xs)→H' b=some (.tup xs))(frzs:∀b o u,H b=some (.frz o u)→H' b=some (.frz o u))(tbls:∀b ps,H b=some (.tbl ps)→∃more,H' b=some (.tbl (ps++more)))(ns:∀m,s.heap.Ns X.env.locals m→h'.Ns X.env.locals m)(hok:HOk X.prog X.w H' h')(hg:AllBare g') :
  Inv X pins σ H' { s with heap:=h',gens:=g',drawn:=d',toks:=t' }:=by
 have neL:∀b o,X.s₀.heap.get? b=some o→b≠X.env.locals:=fun b o e=>Nat.ne_of_lt (Nat.lt_of_lt_of_le (Heap.lt_size e) I.ok.above)
 have neC:∀b o,X.s₀.heap.get? b=some o→b ∉ X.ex→b ∉ ch:=fun b o e hx hb=>by
  rcases(hch b hb).1 with z|z
  ·exact hx z
  ·exact absurd (Nat.lt_of_lt_of_le (Heap.lt_size e) z) (Nat.lt_irrefl _)
 have Au:∀x c,X.env.cells.lookup x=some c→∀v,s.heap.IsCell c v→h'.IsCell c v:=fun x c e v ⟨o,ho,hd⟩=>by
  have nch:c ∉ ch:=fun z=>(hch c z).2.2.1 x c e rfl
  by_cases hc:c∈X.fs
  ·obtain⟨sl,q⟩:=slot c o (I.cne x c e) hc nch ho (I.freeC x c e)
   exact⟨_,q,hd⟩
  ·exact⟨o,keep c o (I.cne x c e) hc nch ho (I.freeC x c e),hd⟩
 refine⟨I.ok,I.os,hg,⟨fun b o e n hb hx=>?_,fun b o e n hb hx=>?_,fun b o e n hx=>?_,fun b o e hx=>?_,fun b xs e=>tups b xs (I.base.tups b xs e),fun b o xs e=>frzs b o xs (I.base.frzs b o xs e),fun b ps e=>?_⟩,?_,fun x c e=>?_,?_,fun x c e=>?_,fun p hp=>?_,hok,I.len⟩
 ·exact keep b o (neL b o e) hb (neC b o e hx) (I.base.keep b o e n hb hx) (I.base.free b o e n hx)
 ·obtain⟨sl,e1⟩:=I.base.slot b o e n hb hx
  obtain⟨sl',e2⟩:=slot b _ (neL b o e) hb (neC b o e hx) e1 (I.base.free b o e n hx)
  exact⟨sl',e2⟩
 ·obtain⟨o',e1⟩:=I.base.there b o e hx
  exact free b o' (neC b o e hx) e1 (I.base.free b o e n hx)
 ·obtain⟨o',e1⟩:=I.base.there b o e hx
  exact there b o' (neC b o e hx) e1
 ·obtain⟨m1,e1⟩:=I.base.tbls b ps e
  obtain⟨m2,e2⟩:=tbls b _ e1
  exact⟨m1++m2,by rw[e2,Array.append_assoc]⟩
 ·obtain⟨m,hn,hl⟩:=I.loc
  refine⟨m,ns m hn,fun i x v e1 e2 e3=>?_⟩
  obtain⟨u,r,l⟩:=hl i x v e1 e2 e3
  refine⟨u,r,?_⟩
  rcases l with l|⟨k,c,e,z⟩
  ·exact .inl l
  ·exact .inr ⟨k,c,e,Au x c e _ z⟩
 ·obtain⟨v,z⟩:=I.cell x c e
  exact⟨v,Au x c e v z⟩
 ·obtain⟨m,⟨o,_,_,ho,_⟩,_⟩:=I.loc
  exact free _ o (fun z=>(hch _ z).2.1 rfl) ho I.free
 ·obtain⟨v,o,ho,hd⟩:=I.cell x c e
  exact free c o (fun z=>(hch c z).2.2.1 x c e rfl) ho (I.freeC x c e)
 ·obtain⟨e,n,ne,nf,d⟩:=I.pin p hp
  have nch:p.1 ∉ ch:=fun z=>(hch p.1 z).2.2.2 p hp rfl
  exact⟨keep p.1 p.2 ne nf nch e n,free p.1 p.2 nch e n,ne,nf,d⟩
theorem Inv.un{t':Nat}(I:Inv X pins σ H s)(u:Un X.fs [] H H' s.heap h')(hok:HOk X.prog X.w H' h'):Inv X pins σ H' { s with heap:=h',toks:=t' }:=by
 obtain⟨m,⟨o,es,ep,ho,r⟩,_⟩:=id I.loc
 obtain⟨sl,hL⟩:=u.any ho I.free (by simp)
 exact I.step (g':=s.gens) (d':=s.drawn) (ch:=[]) (fun _ z=>nomatch z) (fun b o _ hb _ e n=>u.keep b o e n hb (by simp)) (fun b o _ hb _ e n=>u.slot b o e n hb (by simp)) (fun b o _ e n=>u.free b o e n (by simp)) (fun b o _ e=>u.there b o e (by simp)) u.tups u.frzs u.tbls (fun m' hm=>by
  obtain⟨o',es',ep',ho',r'⟩:=hm
  rw[ho] at ho';cases ho'
  exact⟨_,es',ep',hL,r'⟩) hok I.bare
theorem Inv.call{g':Array GenState}{t':Nat}{d':Drawn}{ch:List Addr}(I:Inv X pins σ H s)(u:Un (frs X.stack) ch H H' s.heap h')(hok:HOk X.prog X.w H' h')(hg:AllBare g')(hch:∀b∈ch,(b∈X.ex∨X.s₀.heap.objs.size≤b)∧b≠X.env.locals∧(∀x c,X.env.cells.lookup x=some c→c≠b)∧∀p∈X.pn++pins,p.1≠b) :
  Inv X pins σ H' { s with heap:=h',gens:=g',drawn:=d',toks:=t' }:=by
 obtain⟨m,⟨o,es,ep,ho,r⟩,_⟩:=id I.loc
 obtain⟨sl,hL⟩:=u.any ho I.free fun z=>(hch _ z).2.1 rfl
 exact I.step (ch:=ch) hch (fun b o hL hb hc e n=>u.keep b o e n (fun z=>(List.mem_cons.mp (I.stkSub b z)).elim hL hb) hc) (fun b o _ _ hc e n=>u.any e n hc) (fun b o hc e n=>u.free b o e n hc) (fun b o hc e=>u.there b o e hc) u.tups u.frzs u.tbls (fun m' hm=>by
  obtain⟨o',es',ep',ho',r'⟩:=hm
  rw[ho] at ho';cases ho'
  exact⟨_,es',ep',hL,r'⟩) hok hg
theorem Inv.turned{t':Nat}{it:Addr}(I:Inv X pins σ H s)(k:∀b o,b≠it→s.heap.get? b=some o→h'.get? b=some o)(hn:H it=none)(hL:it≠X.env.locals)(h1:it∈X.ex∨X.s₀.heap.objs.size≤it)(h2:∀x c,X.env.cells.lookup x=some c→c≠it)(h3:∀p∈X.pn++pins,p.1≠it):Inv X pins σ H { s with heap:=h',toks:=t' }:=by
 have nit:∀b u,H b=some u→b≠it:=fun b u e z=>by rw[z,hn] at e;cases e
 refine I.step (g':=s.gens) (d':=s.drawn) (ch:=[it]) (fun b hb=>?_) (fun b o _ _ hc e _=>k b o (fun z=>hc (by simp[z])) e) (fun b o _ _ hc e _=>⟨o.slots,k b o (fun z=>hc (by simp[z])) e⟩) (fun _ _ _ _ n=>n)
  (fun b o hc e=>⟨o,k b o (fun z=>hc (by simp[z])) e⟩) (fun _ _ e=>e) (fun _ _ _ e=>e) (fun b ps e=>⟨#[],by rw[e];simp⟩) (fun m hm=>?_) (fun b u e=>?_) I.bare
 ·have e:b=it:=by simpa using hb
  subst e
  exact⟨h1,hL,h2,h3⟩
 ·obtain⟨o,es,ep,ho,r⟩:=hm
  exact⟨o,es,ep,k _ o (Ne.symm hL) ho,r⟩
 ·refine(I.hok b u e).stay (fun c v hc q=>k c v ?_ q) (fun _ q=>q) fun _ _ q=>q
  rcases hc with z|z
  ·rw[z];exact nit b u e
  ·exact nit c _ z
theorem Inv.tok(I:Inv X pins σ H s)(t:Nat):Inv X pins σ H { s with toks:=t }:=I.un (h':=s.heap) (t':=t) Un.refl I.hok
theorem Inv.kept{t':Nat}(I:Inv X pins σ H s)(k:∀b u,s.heap.get? b=some u→h'.get? b=some u):Inv X pins σ H { s with heap:=h',toks:=t' }:=I.un (Un.kept k) (I.hok.kept k)
theorem Inv.laid{a:Addr}{o:HO}{t':Nat}(I:Inv X pins σ H s)(k:∀b u,s.heap.get? b=some u→h'.get? b=some u)(hp:s.heap.objs.size≤a)(new:ObjOk X.prog X.w (upd H a o) h' a o) :
  Inv X pins σ (upd H a o) { s with heap:=h',toks:=t' }:=I.un (Un.laid k hp (I.hok.fresh hp)) (I.hok.laid k hp new)
theorem Inv.write{x e:Addr}{o:HO}{t':Nat}(I:Inv X pins σ H s)(mu:Mut (H x))(he:e=x∨H e=some (.own x))(k:∀b u,b≠e→s.heap.get? b=some u→h'.get? b=some u)(heo:∃u,h'.get? e=some u)(new:ObjOk X.prog X.w (upd H x o) h' x o):Inv X pins σ (upd H x o) { s with heap:=h',toks:=t' }:=I.un (Un.write mu he k heo) (I.hok.write mu he k heo new)
theorem Inv.pins_of{pins':List (Addr×Obj)}(I:Inv X pins σ H s)(h:∀p∈pins',s.heap.get? p.1=some p.2∧H p.1=none∧p.1≠X.env.locals∧p.1 ∉ X.fs∧∀v,p.2.data≠.cell v):Inv X pins' σ H s:=
 ⟨I.ok,I.os,I.bare,I.base,I.loc,I.cell,I.free,I.freeC,fun p hp=>(List.mem_append.mp hp).elim (fun z=>I.pin p (List.mem_append_left _ z)) (h p),I.hok,I.len⟩

theorem K7{N:List Str}(hN:N.Nodup){i j:Nat}{x:Str}(a:N[i]? = some x)(b:N[j]? = some x):i=j:=by
 obtain⟨h1,e1⟩:=List.getElem?_eq_some_iff.mp a
 obtain⟨h2,e2⟩:=List.getElem?_eq_some_iff.mp b
 exact(List.getElem_inj hN).mp (e1.trans e2.symm)

theorem Pc{M:Model}{A:Around}{E:Value→Shared→Prop}{i:Nat}{x:Str}{v:V}{u:Value}{Q:Unit→Shared→Prop}(I:Inv X pins σ H s)(hN:X.N.Nodup)(hi:X.N[i]? = some x)(hx:Loc X.env.scope x)(r:RelV v u)(h:∀s',Inv X pins (σ.set i (some v)) H s'→(∃a,Heap.SameBut a s.heap s'.heap∧(a=X.env.locals∨X.env.cells.lookup x=some a))→Q () s')(hf:X.fn x=true∨X.env.scope.names.lookup x=some .local:=by first|exact .inl rfl|exact .inr rfl|assumption):wpAny M A (storeName X.env x u) Q E s:=by
 obtain⟨m,hn,hl⟩:=id I.loc
 have hcls:(X.env.scope.kind == .class||(X.env.scope.kind == .module&&X.env.locals != X.env.globals))=false:=by rw[I.ok.kind];rfl
 have hiσ:i<σ.length:=by rw[I.len];exact(List.getElem?_eq_some_iff.mp hi).1
 have cne:=I.cne
 have tracked:∀{a:Addr} {h':Heap},(∃o,s.heap.get? a=some o∧H a=none)→Heap.SameBut a s.heap h'→HOk X.prog X.w H h':=fun {a h'} ha hs b ob e=>by
  obtain⟨_,_,hfree⟩:=ha
  refine(I.hok b ob e).stay (fun c w' hc q=>(hs.2 c ?_).trans q) (fun _ q=>q) fun _ _ q=>q
  rintro rfl
  rcases hc with rfl|hc
  ·rw[hfree] at e;cases e
  ·rw[hfree] at hc;cases hc
 rcases hx with hk|hk
 ·refine wpAny_storeName_local hk hn (fun h' hn' hs=>?_) hcls
  obtain⟨oL,_,_,hoL,_⟩:=id hn
  refine h _ ⟨I.ok,I.os,I.bare,⟨fun b o e n hb hx=>?_,fun b o e n hb hx=>?_,I.base.free,fun b o e hx=>?_,I.base.tups,I.base.frzs,I.base.tbls⟩,⟨_,hn',fun j y v' e1 e2 e3=>?_⟩,fun y c e=>?_,I.free,I.freeC,fun p hp=>?_,tracked ⟨oL,hoL,I.free⟩ hs,by simpa using I.len⟩ ⟨_,hs,.inl rfl⟩
  ·exact(hs.2 b (Nat.ne_of_lt (Nat.lt_of_lt_of_le (Heap.lt_size e) I.ok.above))).trans (I.base.keep b o e n hb hx)
  ·obtain⟨sl,e1⟩:=I.base.slot b o e n hb hx
   exact⟨sl,(hs.2 b (Nat.ne_of_lt (Nat.lt_of_lt_of_le (Heap.lt_size e) I.ok.above))).trans e1⟩
  ·obtain⟨o',e1⟩:=I.base.there b o e hx
   exact⟨o',(hs.2 b (Nat.ne_of_lt (Nat.lt_of_lt_of_le (Heap.lt_size e) I.ok.above))).trans e1⟩
  ·by_cases hj:j=i
   ·subst hj
    rw[hi] at e1;cases e1
    rw[List.getElem?_set_self hiσ] at e2
    cases e2
    exact⟨u,r,.inl ⟨hk,by simp⟩⟩
   ·rw[List.getElem?_set_ne (Ne.symm hj)] at e2
    obtain⟨u',r',q⟩:=hl j y v' e1 e2 e3
    refine⟨u',r',?_⟩
    rcases q with ⟨k,e⟩|⟨k,c,e,z⟩
    ·refine .inl ⟨k,?_⟩
     have:y≠x:=fun e=>hj (K7 hN e1 (e ▸ hi))
     simp[this,e]
    ·exact .inr ⟨k,c,e,z.sameBut hs (cne y c e)⟩
  ·obtain⟨w',z⟩:=I.cell y c e
   exact⟨w',z.sameBut hs (cne y c e)⟩
  ·obtain⟨e,n,ne,nf,d⟩:=I.pin p hp
   exact⟨(hs.2 p.1 ne).trans e,n,ne,nf,d⟩
 ·have hfn:X.fn x=true:=by
   rcases hf with z|z
   ·exact z
   ·rw[z] at hk;cases hk
  obtain⟨c,hc⟩:=I.ok.has x (.inl hk)
  obtain⟨w',z⟩:=I.cell x c hc
  refine wpAny_storeName_cell I.ok.kind hk hc z (fun h' hc' hs=>?_)
  obtain⟨oc,hoc,hocd⟩:=id z
  refine h { s with heap:=h' } ⟨I.ok,I.os,I.bare,⟨fun b o e n hb hx=>?_,fun b o e n hb hx=>?_,I.base.free,fun b o e hx=>?_,I.base.tups,I.base.frzs,I.base.tbls⟩,⟨m,hn.sameBut hs (Ne.symm (cne x c hc)),fun j y v' e1 e2 e3=>?_⟩,fun y c' e=>?_,I.free,I.freeC,fun p hp=>?_,tracked ⟨oc,hoc,I.freeC x c hc⟩ hs,by simpa using I.len⟩ ⟨c,hs,.inr hc⟩
  ·exact(hs.2 b (Nat.ne_of_lt (Nat.lt_of_lt_of_le (Heap.lt_size e) (I.ok.cab x c hfn hc)))).trans (I.base.keep b o e n hb hx)
  ·obtain⟨sl,e1⟩:=I.base.slot b o e n hb hx
   exact⟨sl,(hs.2 b (Nat.ne_of_lt (Nat.lt_of_lt_of_le (Heap.lt_size e) (I.ok.cab x c hfn hc)))).trans e1⟩
  ·obtain⟨o',e1⟩:=I.base.there b o e hx
   exact⟨o',(hs.2 b (Nat.ne_of_lt (Nat.lt_of_lt_of_le (Heap.lt_size e) (I.ok.cab x c hfn hc)))).trans e1⟩
  ·by_cases hj:j=i
   ·subst hj
    rw[hi] at e1;cases e1
    rw[List.getElem?_set_self hiσ] at e2
    cases e2
    exact⟨u,r,.inr ⟨.inl hk,c,hc,hc'⟩⟩
   ·rw[List.getElem?_set_ne (Ne.symm hj)] at e2
    obtain⟨u',r',q⟩:=hl j y v' e1 e2 e3
    refine⟨u',r',?_⟩
    rcases q with q|⟨k,c',e,z'⟩
    ·exact .inl q
    ·refine .inr ⟨k,c',e,z'.sameBut hs ?_⟩
     rintro rfl
     exact hj (K7 hN e1 (I.ok.inj _ _ _ e hc ▸ hi))
  ·by_cases hcc:c'=c
   ·subst hcc;exact⟨_,hc'⟩
   ·obtain⟨w2,z2⟩:=I.cell y c' e
    exact⟨w2,z2.sameBut hs hcc⟩
  ·obtain⟨e,n,ne,nf,d⟩:=I.pin p hp
   refine⟨(hs.2 p.1 ?_).trans e,n,ne,nf,d⟩
   intro q
   rw[q,hoc] at e
   have q':oc=p.2:=Option.some.inj e
   exact d w' (by rw[←q'];exact hocd)
theorem Dg{M:Model}{A:Around}{E:Value→Shared→Prop}{i:Nat}{x:Str}{v:V}{u:Value}{Q:Unit→Shared→Prop}(I:Inv X pins σ H s)(hN:X.N.Nodup)(hi:X.N[i]? = some x)(hx:Loc X.env.scope x)(r:RelV v u)(h:∀s',Inv X pins (σ.set i (some v)) H s'→Q () s')(hf:X.fn x=true∨X.env.scope.names.lookup x=some .local:=by first|exact .inl rfl|exact .inr rfl|assumption):wpAny M A (storeName X.env x u) Q E s:=
 Pc I hN hi hx r (fun s' I' _=>h s' I') hf
theorem Inv.call'{s':Shared}{ch:List Addr}(I:Inv X pins σ H s)(ho:s'.os=s.os)(u:Un (frs X.stack) ch H H' s.heap s'.heap)(hok:HOk X.prog X.w H' s'.heap)(hg:AllBare s'.gens)(hch:∀b∈ch,(b∈X.ex∨X.s₀.heap.objs.size≤b)∧b≠X.env.locals∧(∀x c,X.env.cells.lookup x=some c→c≠b)∧∀p∈X.pn++pins,p.1≠b):Inv X pins σ H' s':=by
 obtain⟨h',g',d',t',o'⟩:=s'
 have e:o'=s.os:=ho
 subst e
 exact I.call (g':=g') (t':=t') (d':=d') u hok hg hch
end
abbrev XK:=Value→Option Addr→Hp→Prop
abbrev St:=List (Option V)
abbrev VK:=V→Hp→Prop
abbrev TE:=St→Hp→VK→Prop
abbrev TT:=St→Hp→(Bool→Hp→Prop)→Prop
abbrev TA:=St→Hp→(List V→Hp→Prop)→Prop
structure Ends where
 nx:St→Hp→Prop
 rt:VK
 bk:St→Hp→Prop:=fun _ _=>False
 ct:St→Hp→Prop:=fun _ _=>False
abbrev TS:=Ends→St→Hp→Prop

def EP(X:Cx)(pins:List (Addr×Obj))(σ:St)(Q:VK)(u:Value)(s':Shared):Prop:=∃v H',Inv X pins σ H' s'∧RelV v u∧Q v H'
def TP(X:Cx)(pins:List (Addr×Obj))(σ:St)(Q:Bool→Hp→Prop)(b:Bool)(s':Shared):Prop:=∃H',Inv X pins σ H' s'∧Q b H'
def AP(X:Cx)(pins:List (Addr×Obj))(σ:St)(Q:List V→Hp→Prop)(us:List Value)(s':Shared):Prop:=∃vs H',Inv X pins σ H' s'∧Vals vs us∧Q vs H'
def SP(X:Cx)(pins:List (Addr×Obj))(D:Ends)(f:Flow)(s':Shared):Prop:=
 match f with
 |.next=>∃σ' H',Inv X pins σ' H' s'∧D.nx σ' H'
 |.brk=>∃σ' H',Inv X pins σ' H' s'∧D.bk σ' H'
 |.cont=>∃σ' H',Inv X pins σ' H' s'∧D.ct σ' H'
 |.ret u=>∃v σ' H',Inv X pins σ' H' s'∧RelV v u∧D.rt v H'

def PE(X:Cx)(e:Expr)(t:TE):Prop:=
 ∀(pins:List (Addr×Obj)) (s:Shared) (σ:St) (H:Hp) (Q:VK),Inv X pins σ H s→t σ H Q→wpAny (model X.prog X.w) X.A (eval e X.env) (EP X pins σ Q) X.xe s
def PT(X:Cx)(e:Expr)(t:TT):Prop:=
 ∀(pins:List (Addr×Obj)) (s:Shared) (σ:St) (H:Hp) (Q:Bool→Hp→Prop),Inv X pins σ H s→t σ H Q→wpAny (model X.prog X.w) X.A (isTrue e X.env (eval e X.env)) (TP X pins σ Q) X.xe s
def PW(X:Cx)(e:Expr)(t:TT):Prop:=
 ∀(whole:Sem Value) (pins:List (Addr×Obj)) (s:Shared) (σ:St) (H:Hp) (Q:Bool→Hp→Prop),Inv X pins σ H s→t σ H Q→wpAny (model X.prog X.w) X.A (isTrue e X.env whole) (TP X pins σ Q) X.xe s
theorem PW.pt{X:Cx}{e:Expr}{t:TT}(h:PW X e t):PT X e t:=h _
def PA(X:Cx)(es:List Expr)(t:TA):Prop:=
 ∀(pos:Pos) (pins:List (Addr×Obj)) (s:Shared) (σ:St) (H:Hp) (Q:List V→Hp→Prop),Inv X pins σ H s→t σ H Q→wpAny (model X.prog X.w) X.A (spliced (backTo pos (starEach es X.env))) (AP X pins σ Q) X.xe s
def PS(X:Cx)(st:Stmt)(t:TS):Prop:=
 ∀(pins:List (Addr×Obj)) (s:Shared) (σ:St) (H:Hp) (D:Ends),Inv X pins σ H s→t D σ H→wpAny (model X.prog X.w) X.A (exec st X.env) (SP X pins D) X.xe s
def PSs(X:Cx)(st:List Stmt)(t:TS):Prop:=
 ∀(pins:List (Addr×Obj)) (s:Shared) (σ:St) (H:Hp) (D:Ends),Inv X pins σ H s→t D σ H→wpAny (model X.prog X.w) X.A (execs st X.env) (SP X pins D) X.xe s
theorem thn{α:Type}{t:Sem α}{Q Q':α→Shared→Prop}{M:Model}{A:Around}{E:Value→Shared→Prop}{s:Shared}(h:wpAny M A t Q E s)(hQ:∀a s,Q a s→Q' a s):wpAny M A t Q' E s:=wpAny_mono h hQ fun _ _ x=>x
end L2
namespace L2
open PySem PySem.Spec PyProof.Rows
section
variable{X:Cx}
theorem bin{a b:Expr}{ta tb:TE}(ha:PE X a ta)(hb:PE X b tb){pins:List (Addr×Obj)}{s:Shared}{σ:St}{H:Hp}{R:V→V→Hp→Prop}(I:Inv X pins σ H s)(h:ta σ H fun x H1=>tb σ H1 fun y H2=>R x y H2){α:Type}{Q:α→Shared→Prop}{f:Value→Value→Sem α}(hf:∀v u s2 x y H2,Inv X pins σ H2 s2→RelV x v→RelV y u→R x y H2→wpAny (model X.prog X.w) X.A (f v u) Q X.xe s2) :
  wpAny (model X.prog X.w) X.A (eval a X.env) (fun v s₁=>wpAny (model X.prog X.w) X.A (eval b X.env) (fun u s₂=>wpAny (model X.prog X.w) X.A (f v u) Q X.xe s₂) X.xe s₁) X.xe s:=by
 refine thn (ha pins s σ H _ I h) fun v s1 ⟨x,H1,I1,r1,q1⟩=>?_
 refine thn (hb pins s1 σ H1 _ I1 q1) fun u s2 ⟨y,H2,I2,r2,q2⟩=>?_
 exact hf v u s2 x y H2 I2 r1 r2 q2

def tVar(i:Nat):TE:=fun σ H Q=>∃v,σ[i]? = some (some v)∧Q v H
def tC(v:V):TE:=fun _ H Q=>Q v H
theorem Xu{i:Nat}{x:Str}{pos:Pos}(hN:X.N[i]? = some x)(hv:Vis X.env.scope x)(hd:(x == ("__debug__" : Str))=false:=by decide)(hcd:(x == ("__classdict__" : Str))=false:=by decide):PE X (.Name x pos) (tVar i):=by
 intro pins s σ H Q I h
 obtain⟨v,e,h⟩:=h
 obtain⟨m,hn,hl⟩:=I.loc
 obtain⟨u,r,l⟩:=hl i x v hN e hv
 have fin:EP X pins σ Q u s:=⟨v,H,I,r,h⟩
 rcases l with ⟨hk,hm⟩|⟨hk,c,hc,hcell⟩
 ·exact wpAny_Name (wpAny_loadName_local I.ok.kind hk hn hm fin) hd
 ·rcases hk with hk|hk
  ·exact wpAny_Name (wpAny_loadName_cell I.ok.kind hk hc hcell fin) hd
  ·exact wpAny_Name (wpAny_loadName_free I.ok.kind hk hc hcell fin hcd) hd
theorem Xz{i j pos}:PE X (.Constant (.int i) j pos) (tC (.int i)):=fun _ _ _ H _ I h=>wpAny_Constant_int ⟨.int i,H,I.tok _,⟨_,rfl⟩,h⟩
theorem Zp{b j pos}:PE X (.Constant (.bool b) j pos) (tC (.bl b)):=fun _ _ _ H _ I h=>Constant_bool ⟨.bl b,H,I,rfl,h⟩
def Gl(X:Cx)(x:Str):Prop:=X.env.kindOf x=some .globalImplicit
theorem Oh{E:Value→Shared→Prop}{pins:List (Addr×Obj)}{s:Shared}{σ:St}{H:Hp}{x:Str}{u:Value}{pos:Pos}{Q:Value→Shared→Prop}(I:Inv X pins σ H s)(hg:Gl X x)(hm:X.mg x=some u)(h:Q u s)(hd:(x == ("__debug__" : Str))=false:=by decide):wpAny (model X.prog X.w) X.A (eval (.Name x pos) X.env) Q E s:=
 Calls.Name_function_global I.ok.kind hg (Calls.loadGlobal_global (by rw[I.ok.glob];exact I.mod.glob.keeps I.bk) hm h) hd
theorem Jn{E:Value→Shared→Prop}{pins:List (Addr×Obj)}{s:Shared}{σ:St}{H:Hp}{x:Str}{u:Value}{pos:Pos}{Q:Value→Shared→Prop}(I:Inv X pins σ H s)(hg:Gl X x)(hm:X.mg x=none)(hv:bootBuiltins x=some u)(h:Q u s)(hn:x≠"__name__":=by decide)(hd:(x == ("__debug__" : Str))=false:=by decide):wpAny (model X.prog X.w) X.A (eval (.Name x pos) X.env) Q E s:=by
 obtain⟨mb,h1,h2⟩:=I.mod.blt
 exact Calls.Name_function_global I.ok.kind hg (Calls.loadGlobal_builtin (by rw[I.ok.glob];exact I.mod.glob.keeps I.bk) hm (by rw[I.ok.blt];exact h1.keeps I.bk) ((h2 x hn).trans hv) h) hd
theorem Uz{x:Str}{v:V}{u:Value}{pos:Pos}(hg:Gl X x)(hm:X.mg x=some u)(r:RelV v u)(hd:(x == ("__debug__" : Str))=false:=by decide):PE X (.Name x pos) (tC v):=
 fun _ _ _ H _ I h=>Oh I hg hm ⟨v,H,I,r,h⟩ hd
theorem U2{x:Str}{v:V}{u:Value}{pos:Pos}(hg:Gl X x)(hm:X.mg x=none)(hv:bootBuiltins x=some u)(r:RelV v u)(hn:x≠"__name__":=by decide)(hd:(x == ("__debug__" : Str))=false:=by decide):PE X (.Name x pos) (tC v):=
 fun _ _ _ H _ I h=>Jn I hg hm hv ⟨v,H,I,r,h⟩ hn hd

variable{a b:Expr}{ta tb:TE}{pos:Pos}
variable{tA tB':TT}{B7:List Expr}
def tAnd(t u:TT):TT:=fun σ H Q=>t σ H fun c H1=>if c=true then u σ H1 Q else Q false H1
def tOr(t u:TT):TT:=fun σ H Q=>t σ H fun c H1=>if c=true then Q true H1 else u σ H1 Q
def tNot(t:TT):TT:=fun σ H Q=>t σ H fun c H1=>Q (!c) H1
theorem Us(ha:PT X a tA):PW X (.BoolOp .And [a] pos) tA:=by
 intro wh pins s σ H Q I h
 refine isTrue_and (thn (ha pins s σ H Q I h) fun c s1 e=>?_)
 cases c with
 |true=>exact isTrue_and_nil e
 |false=>exact e
theorem Xi(ha:PT X a tA):PW X (.BoolOp .Or [a] pos) tA:=by
 intro wh pins s σ H Q I h
 refine isTrue_or (thn (ha pins s σ H Q I h) fun c s1 e=>?_)
 cases c with
 |false=>exact isTrue_or_nil e
 |true=>exact e
theorem Xj(ha:PT X a tA)(hb:PW X (.BoolOp .And (b::B7) pos) tB'):PW X (.BoolOp .And (a::b::B7) pos) (tAnd tA tB'):=by
 intro wh pins s σ H Q I h
 refine isTrue_and (thn (ha pins s σ H _ I h) fun c s1 ⟨H1,I1,q1⟩=>?_)
 cases c with
 |true=>exact hb wh pins s1 σ H1 Q I1 q1
 |false=>exact⟨H1,I1,q1⟩
theorem Zk(ha:PT X a tA)(hb:PW X (.BoolOp .Or (b::B7) pos) tB'):PW X (.BoolOp .Or (a::b::B7) pos) (tOr tA tB'):=by
 intro wh pins s σ H Q I h
 refine isTrue_or (thn (ha pins s σ H _ I h) fun c s1 ⟨H1,I1,q1⟩=>?_)
 cases c with
 |true=>exact⟨H1,I1,q1⟩
 |false=>exact hb wh pins s1 σ H1 Q I1 q1
theorem Xk(ha:PT X a tA):PT X (.UnaryOp .Not a pos) (tNot tA):=by
 intro pins s σ H Q I h
 exact isTrue_not (ha pins s σ H (fun c H1=>Q (!c) H1) I h)
def Zg(ta tb:TE):TE:=fun σ H Q=>ta σ H fun x H1=>∃c,x=.bl c∧if c=true then tb σ H1 Q else Q (.bl false) H1
def Zb(ta:TE):TE:=fun σ H Q=>ta σ H fun x H1=>∃c,x=.bl c∧Q (.bl (!c)) H1
theorem Xw{op}{t:TE}(h:PE X a t):PE X (.BoolOp op [a] pos) t:=fun pins s σ H Q I hw=>BoolOp_one (h pins s σ H Q I hw)
theorem X0(ha:PE X a ta)(hb:PE X (.BoolOp .And (b::B7) pos) tb):PE X (.BoolOp .And (a::b::B7) pos) (Zg ta tb):=by
 intro pins s σ H Q I h
 refine BoolOp_and (thn (ha pins s σ H _ I h) fun v s1 ⟨x,H1,I1,r1,q1⟩=>?_)
 obtain⟨c,rfl,q1⟩:=q1
 cases r1
 refine wpAny_truthy_bool ?_
 cases c with
 |true=>exact hb pins s1 σ H1 Q I1 q1
 |false=>exact⟨.bl false,H1,I1,rfl,q1⟩
theorem Xx(ha:PE X a ta):PE X (.UnaryOp .Not a pos) (Zb ta):=by
 intro pins s σ H Q I h
 refine UnaryOp_ (thn (ha pins s σ H _ I h) fun v s1 ⟨x,H1,I1,r1,q1⟩=>?_)
 obtain⟨c,rfl,q1⟩:=q1
 cases r1
 exact not_of (wpAny_truthy_bool ⟨.bl (!c),H1,I1,rfl,q1⟩)
end
end L2
namespace L2
open PySem PySem.Spec PyProof.Rows
def SqL(K:PySem.W.Frag)(H:Hp)(a:Addr)(xs:List V):Prop:=
 Rd H a (.lst xs)∨
  ∃(o:Obj) (its:Array Value) (n:Nat),K.lookup a=some o∧o.cls=.type "list"∧o.dict=none∧o.data=.seq its n∧its.size≤sizeLine∧Vals xs its.toList
def SqT(K:PySem.W.Frag)(H:Hp)(a:Addr)(xs:List V):Prop:=
 Rd H a (.tup xs)∨
  ∃(o:Obj) (its:Array Value) (n:Nat),K.lookup a=some o∧o.cls=.type "tuple"∧o.data=.seq its n∧its.size≤sizeLine∧Vals xs its.toList
def absV:Value→Option V
 |.none=>some .non
 |.bool b=>some (.bl b)
 |.int i _=>some (.int i)
 |.str x _=>some (.str x)
 |.bytes b _=>some (.byt b)
 |.float b _=>some (.flt b)
 |.ref a=>some (.ref a)
 |.type n=>some (.ty n)
 |_=>none
theorem RelV.abs{x:V}{u:Value}(r:RelV x u):absV u=some x:=by
 cases x with
 |non=>cases r;rfl
 |bl _=>cases r;rfl
 |int _=>obtain⟨t,rfl⟩:=r;rfl
 |str _=>obtain⟨t,rfl⟩:=r;rfl
 |byt _=>obtain⟨t,rfl⟩:=r;rfl
 |flt _=>obtain⟨t,rfl⟩:=r;rfl
 |ref _=>cases r;rfl
 |ty _=>cases r;rfl
theorem RelV.inj{x y:V}{u:Value}(r:RelV x u)(q:RelV y u):x=y:=Option.some.inj (r.abs.symm.trans q.abs)
theorem Vals.inj:∀{xs ys:List V} {us:List Value},Vals xs us→Vals ys us→xs=ys
 |_,_,_,.nil,.nil=>rfl
 |_,_,_,.cons r t,.cons r' t'=>by rw[r.inj r',Vals.inj t t']
section
variable{X:Cx}{pins:List (Addr×Obj)}{σ:St}{H:Hp}{s:Shared}{a:Addr}{xs ys:List V}
theorem Inv.list(I:Inv X pins σ H s)(h:SqL X.K H a xs):∃its:List Value,Vals xs its∧PlainL s.heap a its.toArray∧xs.length≤sizeLine:=by
 rcases h with h|⟨o,its,n,hk,hc,hd,hs,hz,r⟩
 ·obtain⟨z,its,n,r,e⟩:=h.ok I.hok
  exact⟨its,r,⟨_,n,e,rfl,rfl,rfl⟩,z⟩
 ·refine⟨its.toList,r,⟨o,n,I.kIn a o hk,hc,hd,by simpa using hs⟩,?_⟩
  have e:=r.length
  simp only[Array.length_toList] at e
  omega
theorem Inv.tuple(I:Inv X pins σ H s)(h:SqT X.K H a xs):∃its:List Value,Vals xs its∧IsTup s.heap a its.toArray∧xs.length≤sizeLine:=by
 rcases h with h|⟨o,its,n,hk,hc,hs,hz,r⟩
 ·obtain⟨z,its,r,p⟩:=h.ok I.hok
  exact⟨its,r,p,z⟩
 ·refine⟨its.toList,r,⟨o,I.kIn a o hk,hc,n,by simpa using hs⟩,?_⟩
  have e:=r.length
  simp only[Array.length_toList] at e
  omega
theorem Inv.list_inj(I:Inv X pins σ H s)(h:SqL X.K H a xs)(h':SqL X.K H a ys):xs=ys:=by
 obtain⟨its,r,⟨o,n,e,_,_,d⟩,_⟩:=I.list h
 obtain⟨its',r',⟨o',n',e',_,_,d'⟩,_⟩:=I.list h'
 rw[e] at e';cases e'
 rw[d] at d'
 injection d' with d1 _
 have:its=its':=by simpa using congrArg Array.toList d1
 subst this
 exact r.inj r'
theorem Inv.tuple_inj(I:Inv X pins σ H s)(h:SqT X.K H a xs)(h':SqT X.K H a ys):xs=ys:=by
 obtain⟨its,r,⟨o,e,_,n,d⟩,_⟩:=I.tuple h
 obtain⟨its',r',⟨o',e',_,n',d'⟩,_⟩:=I.tuple h'
 rw[e] at e';cases e'
 rw[d] at d'
 injection d' with d1 _
 have:its=its':=by simpa using congrArg Array.toList d1
 subst this
 exact r.inj r'
end
abbrev Cx.wish(X:Cx)(E:Value→Shared→Prop):Cx:={ X with xe:=E }
abbrev Cx.nox(X:Cx):Cx:=X.wish fun _ _=>False
theorem Cx.Ok.wish{X:Cx}(ok:X.Ok)(E:Value→Shared→Prop):(X.wish E).Ok:=
 ⟨ok.mod,ok.kind,ok.glob,ok.blt,ok.above,ok.inj,ok.has,ok.cab,ok.hd,ok.frames,ok.stk,ok.exf,ok.bs,ok.bsz,ok.noex,ok.exfs,ok.funs,ok.frf⟩
theorem Cx.Ok.unwish{X:Cx}{E:Value→Shared→Prop}(ok:(X.wish E).Ok):X.Ok:=
 ⟨ok.mod,ok.kind,ok.glob,ok.blt,ok.above,ok.inj,ok.has,ok.cab,ok.hd,ok.frames,ok.stk,ok.exf,ok.bs,ok.bsz,ok.noex,ok.exfs,ok.funs,ok.frf⟩
section
variable{X:Cx}{pins:List (Addr×Obj)}{σ:St}{H:Hp}{s:Shared}{E:Value→Shared→Prop}
theorem Inv.wish(I:Inv X pins σ H s)(E:Value→Shared→Prop):Inv (X.wish E) pins σ H s:=⟨I.ok.wish E,I.os,I.bare,I.base,I.loc,I.cell,I.free,I.freeC,I.pin,I.hok,I.len⟩
theorem Inv.unwish(I:Inv (X.wish E) pins σ H s):Inv X pins σ H s:=⟨I.ok.unwish,I.os,I.bare,I.base,I.loc,I.cell,I.free,I.freeC,I.pin,I.hok,I.len⟩
theorem SP.unwish{D:Ends}{f:Flow}{s':Shared}(h:SP (X.wish E) pins D f s'):SP X pins D f s':=by
 cases f with
 |next=>obtain⟨σ',H',I,q⟩:=h;exact⟨σ',H',I.unwish,q⟩
 |brk=>obtain⟨σ',H',I,q⟩:=h;exact⟨σ',H',I.unwish,q⟩
 |cont=>obtain⟨σ',H',I,q⟩:=h;exact⟨σ',H',I.unwish,q⟩
 |ret u=>obtain⟨v,σ',H',I,r,q⟩:=h;exact⟨v,σ',H',I.unwish,r,q⟩
theorem PSs.nox{st:List Stmt}{t:TS}(h:PSs X.nox st t):PSs X st t:=fun pins s σ H D I hw=>
 wpAny_mono (h pins s σ H D (I.wish _) hw) (fun _ _ q=>q.unwish) fun _ _ z=>False.elim z
end
section
variable{X:Cx}{st:Stmt}{B7:List Stmt}{t u:TS}{e:Expr}{te:TE}{pos:Pos}
def Zc:TS:=fun D σ H=>D.nx σ H
def Yx(t u:TS):TS:=fun D σ H=>t { D with nx:=u D } σ H
theorem pss_nil:PSs X [] Zc:=fun _ _ σ H _ I h=>wpAny_execs_nil ⟨σ,H,I,h⟩
theorem Sl(h1:PS X st t)(h2:PSs X B7 u):PSs X (st::B7) (Yx t u):=by
 intro pins s σ H D I h
 refine wpAny_execs_cons (thn (h1 pins s σ H { D with nx:=u D } I h) fun f s1 q=>?_)
 cases f with
 |next=>
  obtain⟨σ',H',I',q⟩:=q
  exact h2 pins s1 σ' H' D I' q
 |ret v=>exact q
 |brk=>exact q
 |cont=>exact q
theorem Uv(h1:PS X st t):PSs X [st] t:=by
 intro pins s σ H D I h
 refine wpAny_execs_cons (thn (h1 pins s σ H D I h) fun f s1 q=>?_)
 cases f with
 |next=>exact wpAny_execs_nil q
 |ret v=>exact q
 |brk=>exact q
 |cont=>exact q
theorem Inv.quiet{pins:List (Addr×Obj)}{σ:St}{H:Hp}{s:Shared}(I:Inv X pins σ H s):interactive X.env=false:=by simp[interactive,I.ok.kind]
def Zd(te:TE):TS:=fun D σ H=>te σ H fun _ H1=>D.nx σ H1
theorem Uw(he:PE X e te)(hs:swapsWith e none pos.line X.env=pure false:=by rfl):PS X (.Expr e pos) (Zd te):=by
 intro pins s σ H D I h
 exact wpAny_Expr_any (thn (he pins s σ H _ I h) fun v s1 ⟨x,H1,I1,r1,q1⟩=>⟨σ,H1,I1,q1⟩) I.quiet hs
def tRet(te:TE):TS:=fun D σ H=>te σ H D.rt
theorem Xm(he:PE X e te):PS X (.Return (some e) pos) (tRet te):=by
 intro pins s σ H D I h
 exact wpAny_Return_some (thn (he pins s σ H _ I h) fun v s1 ⟨x,H1,I1,r1,q1⟩=>⟨x,σ,H1,I1,r1,q1⟩)
def tIfS(c:TT)(t u:TS):TS:=fun D σ H=>c σ H fun b H1=>if b=true then t D σ H1 else u D σ H1
theorem V5{c:Expr}{a b:List Stmt}{tc:TT}(hc:PT X c tc)(ha:PSs X a t)(hb:PSs X b u):PS X (.If c a b pos) (tIfS tc t u):=by
 intro pins s σ H D I h
 refine wpAny_If (thn (hc pins s σ H _ I h) fun d s1 ⟨H1,I1,q1⟩=>?_)
 cases d with
 |true=>exact ha pins s1 σ H1 D I1 q1
 |false=>exact hb pins s1 σ H1 D I1 q1
def W2:TS:=fun _ _ _=>False
theorem ps_never:PS X st W2:=fun _ _ _ _ _ _ h=>h.elim
end
abbrev TG:=V→St→Hp→(St→Hp→Prop)→Prop
abbrev TGs:=List V→St→Hp→(St→Hp→Prop)→Prop
def PG(X:Cx)(target:Expr)(t:TG):Prop:=
 ∀(pins:List (Addr×Obj)) (s:Shared) (σ:St) (H:Hp) (v:V) (u:Value) (Q:St→Hp→Prop),Inv X pins σ H s→RelV v u→t v σ H Q→
  wpAny (model X.prog X.w) X.A (assign target X.env u) (fun _ s'=>∃σ' H',Inv X pins σ' H' s'∧Q σ' H') X.xe s
def PGs(X:Cx)(ts:List Expr)(t:TGs):Prop:=
 ∀(pins:List (Addr×Obj)) (s:Shared) (σ:St) (H:Hp) (vs:List V) (us:List Value) (Q:St→Hp→Prop),Inv X pins σ H s→Vals vs us→t vs σ H Q→
  wpAny (model X.prog X.w) X.A (assignInOrder ((assignEach ts X.env).map (·.2)) us) (fun _ s'=>∃σ' H',Inv X pins σ' H' s'∧Q σ' H') X.xe s
abbrev Q0:=V→V→V→Hp→(Hp→Prop)→Prop
def PSet(X:Cx)(t:Q0):Prop:=
 ∀(pins:List (Addr×Obj)) (s:Shared) (σ:St) (H:Hp) (o i v:V) (ov iv u:Value) (Q:Hp→Prop),Inv X pins σ H s→RelV o ov→RelV i iv→RelV v u→t o i v H Q→
  wpAny (model X.prog X.w) X.A (setItem ov iv u) (fun _ s'=>∃H',Inv X pins σ H' s'∧Q H') X.xe s
abbrev TIp:=V→V→Hp→VK→Prop
def PIp(X:Cx)(op:Operator)(t:TIp):Prop:=
 ∀(pins:List (Addr×Obj)) (s:Shared) (σ:St) (H:Hp) (x y:V) (v u:Value) (Q:VK),Inv X pins σ H s→RelV x v→RelV y u→t x y H Q→
  wpAny (model X.prog X.w) X.A (inplaceOp op v u) (EP X pins σ Q) X.xe s
section
variable{X:Cx}{pos:Pos}
def Wc(i:Nat):TG:=fun v σ H Q=>Q (σ.set i (some v)) H
theorem Uy{i:Nat}{x:Str}(hN:X.N.Nodup)(hi:X.N[i]? = some x)(hx:Loc X.env.scope x)(hf:X.fn x=true∨X.env.scope.names.lookup x=some .local:=by first|exact .inl rfl|exact .inr rfl|assumption):PG X (.Name x pos) (Wc i):=by
 intro pins s σ H v u Q I r h
 exact wpAny_assign_Name (Dg I hN hi hx r (fun s' I'=>⟨_,H,I',h⟩) hf)
def gNil:TGs:=fun vs σ H Q=>vs=[]∧Q σ H
def Zy(t:TG)(u:TGs):TGs:=fun vs σ H Q=>∃v r,vs=v::r∧t v σ H fun σ' H'=>u r σ' H' Q
theorem pgs_nil:PGs X [] gNil:=by
 intro pins s σ H vs us Q I r h
 obtain⟨e,h⟩:=h
 subst e
 cases r
 exact assignInOrder_nil ⟨σ,H,I,h⟩
theorem Sr{e:Expr}{es:List Expr}{t:TG}{u:TGs}(h1:PG X e t)(h2:PGs X es u)(hs:(assignEach (e::es) X.env).map (·.2)=assign e X.env::(assignEach es X.env).map (·.2):=by rfl):PGs X (e::es) (Zy t u):=by
 intro pins s σ H vs us Q I r h
 obtain⟨v,vr,e1,h⟩:=h
 subst e1
 cases r with
 |cons r rr=>
  rw[hs]
  refine assignInOrder_cons (thn (h1 pins s σ H _ _ _ I r h) fun _ s1 ⟨σ1,H1,I1,q1⟩=>?_)
  exact h2 pins s1 σ1 H1 _ _ Q I1 rr q1
def gTup(K:PySem.W.Frag)(n:Nat)(t:TGs):TG:=fun v σ H Q=>∃a xs,v=.ref a∧SqT K H a xs∧xs.length=n∧t xs σ H Q
theorem Xq{es:List Expr}{k:Nat}{t:TGs}{n:Nat}(hc:X.calm=true)(h:PGs X es t)(hn:(assignEach es X.env).length=n:=by rfl)(hst:(assignEach es X.env).findIdx? (·.1)=none:=by rfl):PG X (.Tuple es k pos) (gTup X.K n t):=by
 intro pins s σ H v u Q I r hw
 obtain⟨a,xs,e1,hq,hl,hw⟩:=hw
 subst e1
 cases r
 obtain⟨its,rv,ht,hz⟩:=I.tuple hq
 refine assign_Tuple_tuple (I.ok.hd hc) ht (by simp[hn,←hl,rv.length]) hst fun h' hx=>?_
 have I1:Inv X pins σ H { s with heap:=h' }:=I.kept (t':=s.toks) fun b o e=>hx b o (Nat.ne_of_lt (Heap.lt_size e)) e
 exact h pins _ σ H xs _ Q I1 (by simpa using rv) hw
def gSub(to ti:TE)(t:Q0):TG:=fun v σ H Q=>to σ H fun o H1=>ti σ H1 fun i H2=>t o i v H2 fun H3=>Q σ H3
theorem Xr{o i:Expr}{to ti:TE}{t:Q0}(ho:PE X o to)(hi:PE X i ti)(hs:PSet X t)(ha:∀v,assign (.Subscript o i pos) X.env v=(do
   let ov ←holding [v] (eval o X.env)
   let iv ←holding [v,ov] (eval i X.env)
   standAt pos
   holding [v,ov,iv] (setItem ov iv v)
   release [v,ov,iv] []):=by intro _;rfl):PG X (.Subscript o i pos) (gSub to ti t):=by
 intro pins s σ H v u Q I r h
 rw[ha]
 refine wpAny_bind (wpAny_holding (thn (ho pins s σ H _ I h) fun ov s1 ⟨x,H1,I1,r1,q1⟩=>?_))
 refine wpAny_bind (wpAny_holding (thn (hi pins s1 σ H1 _ I1 q1) fun iv s2 ⟨y,H2,I2,r2,q2⟩=>?_))
 refine wpAny_bind (wpAny_standAt (wpAny_bind (wpAny_holding (thn (hs pins s2 σ H2 x y v ov iv u _ I2 r1 r2 r q2) fun _ s3 ⟨H3,I3,q3⟩=>?_))))
 exact wpAny_release ⟨σ,H3,I3,q3⟩
def Wj(te:TE)(g:TG):TS:=fun D σ H=>te σ H fun x H1=>g x σ H1 D.nx
theorem Xp{tg e:Expr}{te:TE}{g:TG}(he:PE X e te)(hg:PG X tg g)(hs:swapsWithSole [tg] e pos.line X.env=pure false:=by rfl)(hw:swappedStores [tg] e X.env=pure none:=by rfl)(h1:(assignEach [tg] X.env).map (·.2)=[assign tg X.env]:=by rfl):PS X (.Assign [tg] e pos) (Wj te g):=by
 intro pins s σ H D I h
 refine wpAny_Assign_stores (thn (he pins s σ H _ I h) fun v s1 ⟨x,H1,I1,r1,q1⟩=>?_) hs hw
 rw[h1]
 exact thn (hg pins s1 σ H1 x v _ I1 r1 q1) fun _ s2 q=>q
theorem Xl{i:Nat}{x:Str}{e:Expr}{te:TE}{pos':Pos}(hN:X.N.Nodup)(hi:X.N[i]? = some x)(hx:Loc X.env.scope x)(he:PE X e te)(hs:swapsWith e (some (.Name x pos')) pos.line X.env=pure false:=by rfl)(hf:X.fn x=true∨X.env.scope.names.lookup x=some .local:=by first|exact .inl rfl|exact .inr rfl|assumption) :
  PS X (.Assign [.Name x pos'] e pos) (Wj te (Wc i)):=by
 intro pins s σ H D I h
 refine wpAny_Assign_Name (thn (he pins s σ H _ I h) fun v s1 ⟨y,H1,I1,r1,q1⟩=>?_) hs
 exact Dg I1 hN hi hx r1 (fun s2 I2=>⟨_,H1,I2,q1⟩) hf
def tPar(i j:Nat)(ta:TA):TS:=fun D σ H=>ta σ H fun vs H1=>∃v w,vs=[v,w]∧D.nx ((σ.set i (some v)).set j (some w)) H1
theorem Xn{i j:Nat}{x y:Str}{a b:Expr}{ta:TA}{px py pt:Pos}{kt k2 pt2}(hc:X.calm=true)(hN:X.N.Nodup)(hi:X.N[i]? = some x)(hj:X.N[j]? = some y)(hij:i≠j)(hx:X.env.scope.names.lookup x=some .local)(hy:X.env.scope.names.lookup y=some .local)(ha:PA X [a,b] ta)(hw:swappedStores [.Tuple [.Name x px,.Name y py] kt pt] (.Tuple [a,b] k2 pt2) X.env=pure (some [x,y]))(hs:swapsWithSole [.Tuple [.Name x px,.Name y py] kt pt] (.Tuple [a,b] k2 pt2) pos.line X.env=pure false:=by rfl) :
  PS X (.Assign [.Tuple [.Name x px,.Name y py] kt pt] (.Tuple [a,b] k2 pt2) pos) (tPar i j ta):=by
 intro pins s σ H D I h
 rw[exec_Assign_arm]
 refine wpAny_bind (wpAny_standAt ?_)
 rw[hs]
 refine wpAny_bind (wpAny_pure ?_)
 rw[if_neg (by decide)]
 refine wpAny_bind (Tuple_ (thn (ha _ pins s σ H _ I h) fun us s1 ⟨vs,H1,I1,r1,q1⟩=>?_))
 obtain⟨v,w,e1,q1⟩:=q1
 subst e1
 obtain⟨u1,u2,rfl,rv,rw'⟩:∃u1 u2,us=[u1,u2]∧RelV v u1∧RelV w u2:=by
  cases r1 with
  |cons p q=>
   cases q with
   |cons p' q'=>
    cases q'
    exact⟨_,_,rfl,p,p'⟩
 refine wpAny_newObj_type ?_ (by show 2≤sizeLine;decide)
 have I2:Inv X pins σ H1 { s1 with heap:=s1.heap.push { cls:=.type "tuple",data:=.seq [u1,u2].toArray } }:=I1.kept (t':=s1.toks) fun b o e=>Heap.get?_push_of_some _ e
 rw[hw]
 refine wpAny_bind (wpAny_pure ?_)
 show wpAny (model X.prog X.w) X.A (do rule "assign.swapped-stores";let items ←unpackItems (.ref s1.heap.objs.size) 2 none;assignInOrder [fun v=>bindName X.env y v,fun v=>bindName X.env x v] items.reverse;pure Flow.next) _ _ _
 refine wpAny_bind (wpAny_rule (wpAny_bind (unpackItems_tuple (items:=#[u1,u2]) (I.ok.hd hc) (IsTup.new s1.heap _) fun h' hx'=>?_)))
 have I3:=I2.kept (h':=h') (t':=s1.toks) fun b o e=>hx' b o (Nat.ne_of_lt (Heap.lt_size e)) e
 show wpAny _ _ (assignInOrder [fun v=>bindName X.env y v,fun v=>bindName X.env x v] [u2,u1] >>= fun _=>pure Flow.next) _ _ _
 refine wpAny_bind (assignInOrder_cons (wpAny_bindName (Dg I3 hN hj (.inl hy) rw' (fun s2 I4=>?_) (.inr hy))))
 refine assignInOrder_cons (wpAny_bindName (Dg I4 hN hi (.inl hx) rv (fun s3 I5=>assignInOrder_nil (wpAny_pure ?_)) (.inr hx)))
 rw[List.set_comm _ _ (Ne.symm hij)] at I5
 exact⟨_,H1,I5,q1⟩
def tAug(i:Nat)(te:TE)(ti:TIp):TS:=fun D σ H=>∃x,σ[i]? = some (some x)∧te σ H fun y H1=>ti x y H1 fun z H2=>D.nx (σ.set i (some z)) H2
theorem Xo{i:Nat}{x:Str}{e:Expr}{te:TE}{op:Operator}{ti:TIp}{pos':Pos}(hN:X.N.Nodup)(hi:X.N[i]? = some x)(hx:Loc X.env.scope x)(he:PE X e te)(ho:PIp X op ti)(hf:X.fn x=true∨X.env.scope.names.lookup x=some .local:=by first|exact .inl rfl|exact .inr rfl|assumption) :
  PS X (.AugAssign (.Name x pos') op e pos) (tAug i te ti):=by
 intro pins s σ H D I h
 obtain⟨v,e1,h⟩:=h
 obtain⟨m,hn,hl⟩:=I.loc
 have vis:Vis X.env.scope x:=by rcases hx with k|k;exact .inl k;exact .inr (.inl k)
 obtain⟨u,r,l⟩:=hl i x v hi e1 vis
 refine wpAny_AugAssign_Name ?_
 have go:wpAny (model X.prog X.w) X.A (eval e X.env) (fun w s₂=>wpAny (model X.prog X.w) X.A (inplaceOp op u w) (fun r s₃=>wpAny (model X.prog X.w) X.A (storeName X.env x r) (fun _=>SP X pins D .next) X.xe s₃) X.xe s₂) X.xe s:=by
  refine thn (he pins s σ H _ I h) fun w s1 ⟨y,H1,I1,r1,q1⟩=>?_
  refine thn (ho pins s1 σ H1 v y u w _ I1 r r1 q1) fun z s2 ⟨zv,H2,I2,r2,q2⟩=>?_
  exact Dg I2 hN hi hx r2 (fun s3 I3=>⟨_,H2,I3,q2⟩) hf
 rcases l with ⟨hk,hm⟩|⟨hk,c,hc,hcell⟩
 ·exact wpAny_loadName_local I.ok.kind hk hn hm go
 ·rcases hk with hk|hk
  ·exact wpAny_loadName_cell I.ok.kind hk hc hcell go
  ·rcases hx with k|k
   ·have:X.env.scope.names.lookup x=some .free:=hk
    rw[k] at this;cases this
   ·have:X.env.scope.names.lookup x=some .free:=hk
    rw[k] at this;cases this
def ipI(f:Int→Int→Int):TIp:=fun x y H Q=>∃i j,x=.int i∧y=.int j∧Q (.int (f i j)) H
theorem Yl:PIp X .Sub (ipI fun i j=>i-j):=by
 intro pins s σ H x y v u Q I r1 r2 h
 obtain⟨i,j,e1,e2,q⟩:=h
 subst e1;subst e2
 obtain⟨t,rfl⟩:=r1
 obtain⟨t',rfl⟩:=r2
 exact isub_int ⟨.int _,H,I.tok _,⟨_,rfl⟩,q⟩
end
section
variable{X:Cx}{pos:Pos}
def W1(c:TT)(tb:TS):TS:=fun D σ H=>∃W:Nat→St→Hp→Prop,(∃m,W m σ H)∧∀m σ H,W m σ H→
 c σ H fun b H1=>if b=true then ∃N:St→Hp→Prop,(∀σ' H',N σ' H'→∃m',m'<m∧W m' σ' H')∧tb { D with nx:=N,ct:=N,bk:=D.nx } σ H1 else D.nx σ H1
theorem Sm{c:Expr}{body:List Stmt}{tc:TT}{tb:TS}(hp:PassesOwn (model X.prog X.w) X.A X.env X.xe)(hc:PT X c tc)(hb:PSs X body tb):PS X (.While c body [] pos) (W1 tc tb):=by
 intro pins s σ H D I h
 obtain⟨W,⟨m0,w0⟩,turn⟩:=h
 refine wpAny_While (codeAny_whileLoop (fun n s'=>∃σ' H',Inv X pins σ' H' s'∧W n σ' H') ?_ m0 ⟨σ,H,I,w0⟩)
 rintro n s1 ⟨σ1,H1,I1,w1⟩
 refine wpAny_passesOwn hp (thn (hc pins s1 σ1 H1 _ I1 (turn n σ1 H1 w1)) fun b s2 ⟨H2,I2,q2⟩=>?_)
 cases b with
 |true=>
  obtain⟨N,hN,q2⟩:=q2
  rw[if_pos rfl]
  refine wpAny_passesOwn hp (thn (hb pins s2 σ1 H2 _ I2 q2) fun f s3 q3=>?_)
  cases f with
  |next=>
   obtain⟨σ3,H3,I3,n3⟩:=q3
   obtain⟨m',hm,w3⟩:=hN σ3 H3 n3
   exact⟨m',hm,σ3,H3,I3,w3⟩
  |cont=>
   obtain⟨σ3,H3,I3,n3⟩:=q3
   obtain⟨m',hm,w3⟩:=hN σ3 H3 n3
   exact⟨m',hm,σ3,H3,I3,w3⟩
  |brk=>exact q3
  |ret v=>exact q3
 |false=>
  rw[if_neg Bool.false_ne_true]
  exact wpAny_execs_nil ⟨σ1,H2,I2,q2⟩
end
structure It where
 go:Nat→Hp→Prop
 yld:Nat→Hp→V→Hp→Prop
 stop:Nat→Hp→Prop
def Hk(X:Cx)(pins:List (Addr×Obj))(H:Hp)(b:Addr):Prop:=
 H b=none∧b≠X.env.locals∧b ∉ X.fs∧(b∈X.ex∨X.s₀.heap.objs.size≤b)∧(∀x c,X.env.cells.lookup x=some c→c≠b)∧∀p∈X.pn++pins,p.1≠b
theorem Inv.fpOk{X:Cx}{pins:List (Addr×Obj)}{σ:St}{H H':Hp}{s:Shared}{b:Addr}(I:Inv X pins σ H s)(hb:s.heap.objs.size≤b)(hn:H' b=none):Hk X pins H' b:=by
 refine⟨hn,Nat.ne_of_gt (Nat.lt_of_lt_of_le I.lt hb),I.nofs hb,.inr (Nat.le_trans I.sz hb),fun x c e z=>?_,fun p hp z=>?_⟩
 ·obtain⟨v,q⟩:=I.cell x c e
  exact absurd (Nat.lt_of_lt_of_le q.lt (by rw[z];exact hb)) (Nat.lt_irrefl _)
 ·exact absurd (Nat.lt_of_lt_of_le (Heap.lt_size (I.pin p hp).1) (by rw[z];exact hb)) (Nat.lt_irrefl _)
structure Turn(P:Program)(w:World)(K:PySem.W.Frag)(tg:Expr)(J:It)(fp:List Addr)(it:Addr)(tn:Nat→Heap→Prop):Prop where
 mem:it∈fp
 obj:∀i h,tn i h→∀b∈fp,∃o,h.get? b=some o∧∀v,o.data≠.cell v
 keep:∀i h h',tn i h→(∀b∈fp,∀o,h.get? b=some o→h'.get? b=some o)→tn i h'
 item:∀(X:Cx),X.prog=P→X.w=w→X.K=K→X.calm=true→∀(i:Nat) (pins:List (Addr×Obj)) (s:Shared) (σ:St) (H:Hp) (E:Value→Shared→Prop),Inv X pins σ H s→(∀b∈fp,Hk X pins H b)→tn i s.heap→J.go i H→
  wpAny (model P w) X.A (pyNext (.ref it)) (fun r s1=>∃u,r=some u∧
   wpAny (model P w) X.A (letOwnedTupleGo tg (.ref it) u) (fun _ s2=>∃x H',Inv X pins σ H' s2∧RelV x u∧J.yld i H x H'∧tn (i+1) s2.heap∧∀b∈fp,H' b=none) E s1) E s
 done:∀(X:Cx),X.prog=P→X.w=w→X.K=K→X.calm=true→∀(i:Nat) (pins:List (Addr×Obj)) (s:Shared) (σ:St) (H:Hp) (E:Value→Shared→Prop),Inv X pins σ H s→(∀b∈fp,Hk X pins H b)→tn i s.heap→J.stop i H→
  wpAny (model P w) X.A (pyNext (.ref it)) (fun r s1=>r=none∧Inv X pins σ H s1) E s
 self:∀(A:Around) (i:Nat) (s:Shared) (Q:Value→Shared→Prop) (E:Value→Shared→Prop),tn i s.heap→Q (.ref it) s→wpAny (model P w) A (pyIter (.ref it)) Q E s
abbrev TI:=St→Hp→(It→Hp→Prop)→Prop
def PIE(X:Cx)(pins:List (Addr×Obj))(σ:St)(tg:Expr)(R:It→Hp→Prop)(itv:Value)(s2:Shared):Prop:=
 ∃(it:Addr) (fp:List Addr) (tn:Nat→Heap→Prop) (J:It) (H':Hp),itv=.ref it∧Inv X pins σ H' s2∧Turn X.prog X.w X.K tg J fp it tn∧tn 0 s2.heap∧(∀b∈fp,Hk X pins H' b)∧R J H'
def PI(X:Cx)(tg iter:Expr)(wi:TI):Prop:=
 ∀(pins:List (Addr×Obj)) (s:Shared) (σ:St) (H:Hp) (R:It→Hp→Prop),Inv X pins σ H s→wi σ H R→
  wpAny (model X.prog X.w) X.A (eval iter X.env) (fun v s1=>wpAny (model X.prog X.w) X.A (pyIter v) (PIE X pins σ tg R) X.xe s1) X.xe s

theorem Q9 {M:Model} {A:Around} {E:Value→Shared→Prop} {s:Shared} {tg:Expr} {it:Addr} {u:Value} {o:Obj} {n:String} {vs:Array Value} {Q:Unit→Shared→Prop} (ho:s.heap.get? it=some o) (hc:o.cls=.type n) (hd:o.data=.fields vs)
    (hn:["enumerate", "zip", "dict_itemiterator", "dict_reverseitemiterator", "odict_iterator", "itertools.zip_longest", "itertools.pairwise"].contains n=false) (hQ:Q () s):wpAny M A (letOwnedTupleGo tg (.ref it) u) Q E s:=by
  unfold letOwnedTupleGo
  cases tg<;>first
    | exact wpAny_pure hQ
    | (cases u<;>first
        | exact wpAny_pure hQ
        | (refine wpAny_bind (wpAny_load ho ?_)
           rw [hc,hd]
           show wpAny M A (if (["enumerate", "zip", "dict_itemiterator", "dict_reverseitemiterator", "odict_iterator", "itertools.zip_longest", "itertools.pairwise"].contains n&&vs[0]? == some (rawInt _))=true then _ else _) Q E s
           rw [if_neg (by intro h;rw [hn,Bool.false_and] at h;cases h)]
           exact wpAny_pure hQ))

def Itl(K:PySem.W.Frag)(a:Addr):It:=
 ⟨fun i H=>∃xs x,SqL K H a xs∧xs[i]? = some x,fun i H x H'=>H'=H∧∀xs,SqL K H a xs→xs[i]? = some x,fun i H=>∃xs,SqL K H a xs∧xs.length≤i⟩
def Itt(K:PySem.W.Frag)(a:Addr):It:=
 ⟨fun i H=>∃xs x,SqT K H a xs∧xs[i]? = some x,fun i H x H'=>H'=H∧∀xs,SqT K H a xs→xs[i]? = some x,fun i H=>∃xs,SqT K H a xs∧xs.length≤i⟩
def Itr(lo:Int)(n:Nat):It:=⟨fun i _=>i<n,fun i H x H'=>H'=H∧x=.int (lo+i),fun i _=>n≤i⟩
theorem Pa{P:Program}{w:World}{K:W.Frag}{tg:Expr}(a it:Addr):Turn P w K tg (Itl K a) [it] it (fun i h=>h.IsListIter it a i) where
 mem:=by simp
 obj:=fun i h st b hb=>by
  have e:b=it:=by simpa using hb
  subst e
  obtain⟨o,e,c,d⟩:=st
  exact⟨o,e,fun v z=>by rw[d] at z;cases z⟩
 keep:=fun i h h' st k=>st.at fun o e=>k it (by simp) o e
 item:=by
  intro X hP hw hK hc i pins s σ H E I hf st hg
  subst hP hw hK
  obtain⟨xs,x,hq,hx⟩:=hg
  obtain⟨its,rv,p,hz⟩:=I.list hq
  obtain⟨u,hu,ru⟩:=rv.get hx
  obtain⟨f0,f1,f2,f3,f4,f5⟩:=hf it (by simp)
  refine wpAny_pyNext_list_item st p.isList (x:=u) (by simpa using hu) fun h' st' sb=>?_
  have I1:Inv X pins σ H { s with heap:=h' }:=I.turned (t':=s.toks) (fun b o hb e=>(sb.2 b hb).trans e) f0 f1 f3 f4 f5
  obtain⟨o,e,c,d⟩:=id st'
  exact⟨u,rfl,Q9 (s:={ s with heap:=h' }) e c d (by decide) ⟨x,H,I1,ru,⟨rfl,fun ys hy=>by rw[I.list_inj hy hq];exact hx⟩,st',fun b hb=>(hf b hb).1⟩⟩
 done:=by
  intro X hP hw hK hc i pins s σ H E I hf st hg
  subst hP hw hK
  obtain⟨xs,hq,hx⟩:=hg
  obtain⟨its,rv,p,hz⟩:=I.list hq
  obtain⟨f0,f1,f2,f3,f4,f5⟩:=hf it (by simp)
  have hl:=rv.length
  exact wpAny_pyNext_list_end (I.ok.hd hc) st p.isList (by simp;omega) fun h' eb=>⟨rfl,I.turned (t':=s.toks) (fun b o hb e=>eb b o hb e) f0 f1 f3 f4 f5⟩
 self:=fun _ _ _ _ _ st h=>wpAny_pyIter_listiter st h
theorem Mz{P:Program}{w:World}{K:W.Frag}{tg:Expr}(a it:Addr):Turn P w K tg (Itt K a) [it] it (fun i h=>h.IsTupleIter it a i) where
 mem:=by simp
 obj:=fun i h st b hb=>by
  have e:b=it:=by simpa using hb
  subst e
  obtain⟨o,e,c,d⟩:=st
  exact⟨o,e,fun v z=>by rw[d] at z;cases z⟩
 keep:=fun i h h' st k=>st.at fun o e=>k it (by simp) o e
 item:=by
  intro X hP hw hK hc i pins s σ H E I hf st hg
  subst hP hw hK
  obtain⟨xs,x,hq,hx⟩:=hg
  obtain⟨its,rv,p,hz⟩:=I.tuple hq
  obtain⟨u,hu,ru⟩:=rv.get hx
  obtain⟨f0,f1,f2,f3,f4,f5⟩:=hf it (by simp)
  refine wpAny_pyNext_tuple_item st (show s.heap.IsTuple a its.toArray from p) (x:=u) (by simpa using hu) fun h' st' sb=>?_
  have I1:Inv X pins σ H { s with heap:=h' }:=I.turned (t':=s.toks) (fun b o hb e=>(sb.2 b hb).trans e) f0 f1 f3 f4 f5
  obtain⟨o,e,c,d⟩:=id st'
  exact⟨u,rfl,Q9 (s:={ s with heap:=h' }) e c d (by decide) ⟨x,H,I1,ru,⟨rfl,fun ys hy=>by rw[I.tuple_inj hy hq];exact hx⟩,st',fun b hb=>(hf b hb).1⟩⟩
 done:=by
  intro X hP hw hK hc i pins s σ H E I hf st hg
  subst hP hw hK
  obtain⟨xs,hq,hx⟩:=hg
  obtain⟨its,rv,p,hz⟩:=I.tuple hq
  obtain⟨f0,f1,f2,f3,f4,f5⟩:=hf it (by simp)
  have hl:=rv.length
  exact wpAny_pyNext_tuple_end (I.ok.hd hc) st (show s.heap.IsTuple a its.toArray from p) (by simp;omega) fun h' eb=>⟨rfl,I.turned (t':=s.toks) (fun b o hb e=>eb b o hb e) f0 f1 f3 f4 f5⟩
 self:=fun _ _ _ _ _ st h=>wpAny_pyIter_tupleiter st h
theorem M0{P:Program}{w:World}{K:W.Frag}{tg:Expr}(it:Addr)(lo:Int)(n:Nat):Turn P w K tg (Itr lo n) [it] it (fun i h=>IsRangeIter h it (lo+(i:Nat)*1) ((n:Int)-(i:Nat)) 1) where
 mem:=by simp
 obj:=fun i h st b hb=>by
  have e:b=it:=by simpa using hb
  subst e
  exact⟨_,st,fun v z=>by
   have z':Data.fields _=Data.cell v:=z
   cases z'⟩
 keep:=fun i h h' st k=>k it (by simp) _ st
 item:=by
  intro X hP hw hK hc i pins s σ H E I hf st hg
  subst hP hw hK
  obtain⟨f0,f1,f2,f3,f4,f5⟩:=hf it (by simp)
  have W:=Walks.range (prog:=X.prog) (w:=X.w) (I.ok.hd hc) it lo 1 n
  refine W.item i s _ _ hg st fun v h' tk hv st' kk=>?_
  obtain⟨t,rfl⟩:=hv
  have I1:Inv X pins σ H { s with heap:=h',toks:=tk }:=I.turned (fun b o hb e=>kk b o (by simpa using hb) e) f0 f1 f3 f4 f5
  refine⟨_,rfl,Q9 (s:={ s with heap:=h',toks:=tk }) (n:="range_iterator") st' rfl rfl (by decide) ⟨.int (lo+i),H,I1,⟨t,?_⟩,⟨rfl,rfl⟩,st',fun b hb=>(hf b hb).1⟩⟩
  rw[Int.mul_one]
 done:=by
  intro X hP hw hK hc i pins s σ H E I hf st hg
  subst hP hw hK
  obtain⟨f0,f1,f2,f3,f4,f5⟩:=hf it (by simp)
  exact wpAny_pyNext_range_end (I.ok.hd hc) st (by have:n≤i:=hg;omega) fun h' eb=>⟨rfl,I.turned (t':=s.toks) (fun b o hb e=>eb b o hb e) f0 f1 f3 f4 f5⟩
 self:=fun _ _ _ _ _ st h=>wpAny_pyIter_rangeiter st h
end L2
namespace L2
open PySem PySem.Spec PyProof.Rows
section
variable{X:Cx}{tg:Expr}
theorem Sg{pins:List (Addr×Obj)}{σ:St}{H:Hp}{s:Shared}{R:It→Hp→Prop}{E:Value→Shared→Prop}{lo hi:Int}{t u v:Tok}{tk:Nat}(I:Inv X pins σ H s)(h1 : -(2 ^ 62)≤lo)(h2:lo<2 ^ 62)(h3 : -(2 ^ 62)≤hi)(h4:hi<2 ^ 62)(q:R (Itr lo (hi-lo).toNat) H):wpAny (model X.prog X.w) X.A (pyIter (.ref s.heap.objs.size)) (PIE X pins σ tg R) E { s with heap:=s.heap.push { cls:=.type "range",data:=.fields #[.int lo t,.int hi u,.int 1 v] },toks:=tk }:=by
 refine wpAny_pyIter_range (IsRange.new ..) (small_one h1 h2 h3 h4) ?_
 have I1:Inv X pins σ H { s with heap:=s.heap.push { cls:=.type "range",data:=.fields #[.int lo t,.int hi u,.int 1 v] },toks:=tk }:=I.kept fun b o e=>Heap.get?_push_of_some _ e
 refine⟨(s.heap.push { cls:=.type "range",data:=.fields #[.int lo t,.int hi u,.int 1 v] }).objs.size,[(s.heap.push { cls:=.type "range",data:=.fields #[.int lo t,.int hi u,.int 1 v] }).objs.size],_,_,H,rfl,
  I1.kept (t':=tk) fun b o e=>Heap.get?_push_of_some _ e,M0 _ lo (hi-lo).toNat,?_,fun b hb=>?_,q⟩
 ·have e1:lo+((0:Nat):Int)*1=lo:=by simp
  have e2:(((hi-lo).toNat:Nat):Int)-((0:Nat):Int)=Builtin.Range.rangeSize lo hi 1:=by rw[rangeSize_one];split<;>omega
  show IsRangeIter _ _ (lo+((0:Nat):Int)*1) ((((hi-lo).toNat:Nat):Int)-((0:Nat):Int)) 1
  rw[e1,e2]
  exact Heap.get?_push_size _ rfl
 ·have e:b=(s.heap.push { cls:=.type "range",data:=.fields #[.int lo t,.int hi u,.int 1 v] }).objs.size:=by simpa using hb
  subst e
  exact I1.fpOk (Nat.le_refl _) (I1.hok.fresh (Nat.le_refl _))
def Zx(ta:TA):TI:=fun σ H R=>ta σ H fun vs H1=>∃j:Int,vs=[.int j]∧-(2 ^ 62)≤j∧j<2 ^ 62∧R (Itr 0 j.toNat) H1
theorem Pr{a:Expr}{ta:TA}{p pos:Pos}(hg:Gl X "range")(hm:X.mg "range" = none)(ha:PA X [a] ta)(hs:starEach [a] X.env=[(false,eval a X.env)]:=by rfl):PI X tg (.Call (.Name "range" p) [a] [] pos) (Zx ta):=by
 intro pins s σ H R I h
 refine Call_ (Jn I hg hm boot_range (PyProof.Rows.callWith_type1 (thn (ha pos pins s σ H _ I h) fun us s1 ⟨vs,H1,I1,r1,q1⟩=>?_) hs rfl))
 obtain⟨j,e,q1,q2,q⟩:=q1
 subst e
 cases r1 with
 |cons r rr=>
  cases rr
  obtain⟨t,rfl⟩:=r
  exact call_range_1 (Sg I1 (by omega) (by omega) q1 q2 (by simpa using q))
def tFor(wi:TI)(g:TG)(tb:TS):TS:=fun D σ H=>wi σ H fun J H1=>∃W:Nat→Nat→St→Hp→Prop,(∃m,W 0 m σ H1)∧∀i m σ H,W i m σ H→
 (J.stop i H∧D.nx σ H)∨(J.go i H∧∃N:St→Hp→Prop,(∀σ' H',N σ' H'→∃m',m'<m∧W (i+1) m' σ' H')∧∀x H',J.yld i H x H'→g x σ H' fun σ2 H2=>tb { D with nx:=N,ct:=N,bk:=D.nx } σ2 H2)
def E3(fp:List Addr)(h:Heap):List (Addr×Obj):=fp.filterMap fun b=>(h.get? b).map fun o=>(b,o)
theorem C8{fp:List Addr}{h:Heap}{b:Addr}{o:Obj}(hb:b∈fp)(e:h.get? b=some o):(b,o)∈E3 fp h:=List.mem_filterMap.mpr ⟨b,hb,by rw[e];rfl⟩
theorem Py{fp:List Addr}{h:Heap}{p:Addr×Obj}(hp:p∈E3 fp h):p.1∈fp∧h.get? p.1=some p.2:=by
 obtain⟨b,hb,e⟩:=List.mem_filterMap.mp hp
 cases q:h.get? b with
 |none=>rw[q] at e;cases e
 |some o=>
  rw[q] at e
  have e':(b,o)=p:=Option.some.inj e
  subst e'
  exact⟨hb,q⟩
theorem Inv.pinned{pins:List (Addr×Obj)}{σ:St}{H:Hp}{s:Shared}{fp:List Addr}(I:Inv X pins σ H s)(hf:∀b∈fp,Hk X pins H b)(ho:∀b∈fp,∃o,s.heap.get? b=some o∧∀v,o.data≠.cell v):Inv X (pins++E3 fp s.heap) σ H s:=
 I.pins_of fun p hp=>(List.mem_append.mp hp).elim (fun z=>I.pin p (List.mem_append_right _ z)) fun z=>by
  obtain⟨hb,e⟩:=Py z
  obtain⟨f0,f1,f2,_⟩:=hf p.1 hb
  obtain⟨o,e',d⟩:=ho p.1 hb
  rw[e] at e';cases e'
  exact⟨e,f0,f1,f2,d⟩
theorem Inv.unpinned{pins pl:List (Addr×Obj)}{σ:St}{H:Hp}{s:Shared}(I:Inv X (pins++pl) σ H s):Inv X pins σ H s:=I.pins_of fun p hp=>I.pin p (List.mem_append_right _ (List.mem_append_left _ hp))
theorem Ro{iter:Expr}{body:List Stmt}{wi:TI}{g:TG}{tb:TS}{pos:Pos}(hp:PassesOwn (model X.prog X.w) X.A X.env X.xe)(hc:X.calm=true)(hi:PI X tg iter wi)(hg:PG X tg g)(hb:PSs X body tb)(hs:∀x,foldedSetIterable iter X.env x=pure x:=by intro _;rfl):PS X (.For tg iter body [] pos) (tFor wi g tb):=by
 intro pins s σ H D I h
 refine wpAny_For (thn (hi pins s σ H _ I h) fun v s1 h1=>thn h1 fun itv s2 h2=>?_) hs
 obtain⟨it,fp,tn,J,H2,e,I2,T,st2,f2,W,⟨m0,w0⟩,turn⟩:=h2
 subst e
 -- what stays true of the iterator's objects through the loop
 have stat:∀{H':Hp},(∀b∈fp,H' b=none)→∀b∈fp,Hk X pins H' b:=fun hn b hb=>⟨hn b hb,(f2 b hb).2⟩
 refine codeAny_forLoop_any (fun n s'=>∃i σ' H',Inv X pins σ' H' s'∧tn i s'.heap∧(∀b∈fp,H' b=none)∧W i n σ' H') ?_ m0 ⟨0,σ,H2,I2,st2,fun b hb=>(f2 b hb).1,w0⟩
 rintro n s3 ⟨i,σ3,H3,I3,st3,fr3,w3⟩
 rcases turn i n σ3 H3 w3 with ⟨stop,qn⟩|⟨go,N,hN,step⟩
 ·refine wpAny_passesOwn hp (thn (T.done X rfl rfl rfl hc i pins s3 σ3 H3 X.xe I3 (stat fr3) st3 stop) fun r s4 ⟨hr,I4⟩=>?_)
  subst hr
  exact wpAny_execs_nil ⟨σ3,H3,I4,qn⟩
 ·refine wpAny_passesOwn hp (thn (T.item X rfl rfl rfl hc i pins s3 σ3 H3 X.xe I3 (stat fr3) st3 go) fun r s4 ⟨u,hr,h4⟩=>?_)
  subst hr
  refine wpAny_passesOwn hp (thn h4 fun _ s5 ⟨x,H5,I5,r5,y5,st5,fr5⟩=>?_)
  have I5':=I5.pinned (stat fr5) (T.obj _ _ st5)
  refine wpAny_passesOwn hp (thn (hg _ s5 σ3 H5 x u _ I5' r5 (step x H5 y5)) fun _ s6 ⟨σ6,H6,I6,q6⟩=>?_)
  refine wpAny_passesOwn hp (thn (hb _ s6 σ6 H6 _ I6 q6) fun f s7 q7=>?_)
  have again:∀{σ7:St} {H7:Hp},Inv X (pins++E3 fp s5.heap) σ7 H7 s7→N σ7 H7→∃m,m<n∧∃i σ' H',Inv X pins σ' H' s7∧tn i s7.heap∧(∀b∈fp,H' b=none)∧W i m σ' H':=fun {σ7 H7} I7 n7=>by
   obtain⟨m',hm,w7⟩:=hN σ7 H7 n7
   refine⟨m',hm,i+1,σ7,H7,I7.unpinned,T.keep _ _ _ st5 fun b hb o e=>(I7.pin (b,o) (List.mem_append_right _ (List.mem_append_right _ (C8 hb e)))).1,fun b hb=>?_,w7⟩
   obtain⟨o,e,d⟩:=T.obj _ _ st5 b hb
   exact(I7.pin (b,o) (List.mem_append_right _ (List.mem_append_right _ (C8 hb e)))).2.1
  cases f with
  |next=>obtain⟨σ7,H7,I7,n7⟩:=q7;exact again I7 n7
  |cont=>obtain⟨σ7,H7,I7,n7⟩:=q7;exact again I7 n7
  |brk=>obtain⟨σ7,H7,I7,q7⟩:=q7;exact⟨σ7,H7,I7.unpinned,q7⟩
  |ret v=>obtain⟨x7,σ7,H7,I7,r7,q7⟩:=q7;exact⟨x7,σ7,H7,I7.unpinned,r7,q7⟩
end
end L2
namespace L2
open PySem PySem.Spec PyProof.Rows
abbrev R2:=V→V→Hp→VK→Prop
def OpR(X:Cx)(f:Value→Value→Sem Value)(r:R2):Prop:=
 ∀(pins:List (Addr×Obj)) (s:Shared) (σ:St) (H:Hp) (x y:V) (v u:Value) (Q:VK),Inv X pins σ H s→RelV x v→RelV y u→r x y H Q→
  wpAny (model X.prog X.w) X.A (f v u) (EP X pins σ Q) X.xe s
def UnR(X:Cx)(f:Value→Sem Value)(r:V→Hp→VK→Prop):Prop:=
 ∀(pins:List (Addr×Obj)) (s:Shared) (σ:St) (H:Hp) (x:V) (v:Value) (Q:VK),Inv X pins σ H s→RelV x v→r x H Q→
  wpAny (model X.prog X.w) X.A (f v) (EP X pins σ Q) X.xe s
def CallR(X:Cx)(f:Value)(r:List V→Hp→VK→Prop):Prop:=
 ∀(pins:List (Addr×Obj)) (s:Shared) (σ:St) (H:Hp) (xs:List V) (us:List Value) (Q:VK),Inv X pins σ H s→Vals xs us→r xs H Q→
  wpAny (model X.prog X.w) X.A (call f us) (EP X pins σ Q) X.xe s
def TruR(X:Cx)(r:V→Hp→(Bool→Hp→Prop)→Prop):Prop:=
 ∀(pins:List (Addr×Obj)) (s:Shared) (σ:St) (H:Hp) (x:V) (v:Value) (Q:Bool→Hp→Prop),Inv X pins σ H s→RelV x v→r x H Q→
  wpAny (model X.prog X.w) X.A (truthy v) (TP X pins σ Q) X.xe s

def tOp(r:R2)(ta tb:TE):TE:=fun σ H Q=>ta σ H fun x H1=>tb σ H1 fun y H2=>r x y H2 Q
def tUn(r:V→Hp→VK→Prop)(ta:TE):TE:=fun σ H Q=>ta σ H fun x H1=>r x H1 Q
def rI(C:Int→Int→Prop)(g:Int→Int→V):R2:=fun x y H Q=>∃i j,x=.int i∧y=.int j∧C i j∧Q (g i j) H
def rI0(g:Int→Int→V):R2:=fun x y H Q=>∃i j,x=.int i∧y=.int j∧Q (g i j) H
def rU(g:Int→V):V→Hp→VK→Prop:=fun x H Q=>∃i,x=.int i∧Q (g i) H

section
variable{X:Cx}{a b c:Expr}{ta tb tc:TE}{pos:Pos}
theorem Ws(ha:PE X a ta)(hb:PE X b tb){pins:List (Addr×Obj)}{s:Shared}{σ:St}{H:Hp}{R:V→V→Hp→Prop}(I:Inv X pins σ H s)(h:ta σ H fun x H1=>tb σ H1 fun y H2=>R x y H2){Q:Value→Shared→Prop}{f:Value→Value→Sem Value}(hf:∀v u s2 x y H2,Inv X pins σ H2 s2→RelV x v→RelV y u→R x y H2→wpAny (model X.prog X.w) X.A (f v u) Q X.xe s2) :
  wpAny (model X.prog X.w) X.A (eval a X.env) (fun v s₁=>wpAny (model X.prog X.w) X.A (eval b X.env) (fun u s₂=>wpAny (model X.prog X.w) X.A (f v u) Q X.xe s₂) X.xe s₁) X.xe s:=by
 refine thn (ha pins s σ H _ I h) fun v s1 ⟨x,H1,I1,r1,q1⟩=>?_
 refine thn (hb pins s1 σ H1 _ I1 q1) fun u s2 ⟨y,H2,I2,r2,q2⟩=>?_
 exact hf v u s2 x y H2 I2 r1 r2 q2

theorem Zm{op:Operator}{r:R2}(ho:OpR X (binaryOp op) r)(ha:PE X a ta)(hb:PE X b tb):PE X (.BinOp a op b pos) (tOp r ta tb):=by
 intro pins s σ H Q I h
 exact wpAny_BinOp (Ws ha hb I h fun v u s2 x y H2 I2 rx ry q=>ho pins s2 σ H2 x y v u Q I2 rx ry q)
theorem Zl{op:UnaryOp}{r:V→Hp→VK→Prop}(ho:UnR X (unaryOp op) r)(ha:PE X a ta):PE X (.UnaryOp op a pos) (tUn r ta):=by
 intro pins s σ H Q I h
 exact UnaryOp_ (thn (ha pins s σ H _ I h) fun v s1 ⟨x,H1,I1,r1,q1⟩=>ho pins s1 σ H1 x v Q I1 r1 q1)
theorem opI{f:Value→Value→Sem Value}{C:Int→Int→Prop}{g:Int→Int→Int}(rule:∀(i j:Int) (t u:Tok) (s:Shared) (Q:Value→Shared→Prop) (E:Value→Shared→Prop),C i j→Q (.int (g i j) s.toks) { s with toks:=s.toks+1 }→wpAny (model X.prog X.w) X.A (f (.int i t) (.int j u)) Q E s) :
  OpR X f (rI C fun i j=>.int (g i j)):=by
 intro pins s σ H x y v u Q I rx ry h
 obtain⟨i,j,rfl,rfl,hc,q⟩:=h
 obtain⟨t,rfl⟩:=rx
 obtain⟨t',rfl⟩:=ry
 exact rule i j t t' s _ _ hc ⟨.int (g i j),H,I.tok _,⟨_,rfl⟩,q⟩
theorem Y2{f:Value→Value→Sem Value}{g:Int→Int→Int}(rule:∀(i j:Int) (t u:Tok) (s:Shared) (Q:Value→Shared→Prop) (E:Value→Shared→Prop),Q (.int (g i j) s.toks) { s with toks:=s.toks+1 }→wpAny (model X.prog X.w) X.A (f (.int i t) (.int j u)) Q E s) :
  OpR X f (rI0 fun i j=>.int (g i j)):=by
 intro pins s σ H x y v u Q I rx ry h
 obtain⟨i,j,rfl,rfl,q⟩:=h
 obtain⟨t,rfl⟩:=rx
 obtain⟨t',rfl⟩:=ry
 exact rule i j t t' s _ _ ⟨.int (g i j),H,I.tok _,⟨_,rfl⟩,q⟩
theorem Wm{f:Value→Value→Sem Value}{g:Int→Int→Bool}(rule:∀(i j:Int) (t u:Tok) (s:Shared) (Q:Value→Shared→Prop) (E:Value→Shared→Prop),Q (.bool (g i j)) s→wpAny (model X.prog X.w) X.A (f (.int i t) (.int j u)) Q E s) :
  OpR X f (rI0 fun i j=>.bl (g i j)):=by
 intro pins s σ H x y v u Q I rx ry h
 obtain⟨i,j,rfl,rfl,q⟩:=h
 obtain⟨t,rfl⟩:=rx
 obtain⟨t',rfl⟩:=ry
 exact rule i j t t' s _ _ ⟨.bl (g i j),H,I,rfl,q⟩

def Mo(i j:Int):Prop:=0<j∧j<1073741824
def CMul(i j:Int):Prop:=(-(2 ^ 64)<i∧i<2 ^ 64)∨(-(2 ^ 64)<j∧j<2 ^ 64)
theorem CMul.ok{i j:Int}(h:CMul i j):IntMulOk i j:=by
 rcases h with ⟨h1,h2⟩|⟨h1,h2⟩
 ·exact .of_left (intBits_le_64 h1 h2)
 ·exact .of_right (intBits_le_64 h1 h2)
theorem X5:OpR X (binaryOp .Add) (rI0 fun i j=>.int (i+j)):=Y2 fun _ _ _ _ _ _ _ q=>add_int q
theorem X1:OpR X (binaryOp .Sub) (rI0 fun i j=>.int (i-j)):=Y2 fun _ _ _ _ _ _ _ q=>sub_int q
theorem X2:OpR X (binaryOp .Mult) (rI CMul fun i j=>.int (i*j)):=opI fun _ _ _ _ _ _ _ hc q=>mul_int q hc.ok
theorem U4:OpR X (binaryOp .FloorDiv) (rI Mo fun i j=>.int (i / j)):=opI fun i j _ _ _ _ _ hc q=>by
 have h1:(0:Int)<j:=hc.1
 have h2:j<1073741824:=hc.2
 exact floordiv_int (by omega) (by rw[Int.fdiv_eq_ediv_of_nonneg i (by omega)];exact q) (.inl (PyProof.noPylong_small (by omega)))
theorem X3:OpR X (binaryOp .Mod) (rI (fun _ j=>0<j) fun i j=>.int (i % j)):=opI fun i j _ _ _ _ _ hc q=>by
 have h1:(0:Int)<j:=hc
 exact mod_int' (by omega) (by rw[Int.fmod_eq_emod_of_nonneg i (by omega)];exact q)
theorem unI{f:Value→Sem Value}{g:Int→Int}(rule:∀(i:Int) (t:Tok) (s:Shared) (Q:Value→Shared→Prop) (E:Value→Shared→Prop),Q (.int (g i) s.toks) { s with toks:=s.toks+1 }→wpAny (model X.prog X.w) X.A (f (.int i t)) Q E s) :
  UnR X f (rU fun i=>.int (g i)):=by
 intro pins s σ H x v Q I rx h
 obtain⟨i,rfl,q⟩:=h
 obtain⟨t,rfl⟩:=rx
 exact rule i t s _ _ ⟨.int (g i),H,I.tok _,⟨_,rfl⟩,q⟩
theorem Wy:UnR X (unaryOp .USub) (rU fun i=>.int (-i)):=unI fun _ _ _ _ _ q=>neg_int q
end
def Wk:V→V→Bool
 |.non,.non=>true|.non,.int _=>true|.int _,.non=>true|.non,.bl _=>true|.bl _,.non=>true|.non,.str _=>true|.str _,.non=>true
 |.int _,.int _=>true|.bl _,.bl _=>true|.str _,.str _=>true|.byt _,.byt _=>true
 |.int _,.str _=>true|.str _,.int _=>true|.bl _,.str _=>true|.str _,.bl _=>true
 |_,_=>false
def rEq:R2:=fun x y H Q=>Wk x y=true∧Q (.bl (decide (x=y))) H
def rNe:R2:=fun x y H Q=>Wk x y=true∧Q (.bl (!decide (x=y))) H

theorem Ot{i j:Int}:decide (V.int i=V.int j)=(i == j):=by
 rw[Bool.eq_iff_iff]
 simp
theorem R0{i j:Bool}:decide (V.bl i=V.bl j)=(i == j):=by
 rw[Bool.eq_iff_iff]
 simp
theorem Os{i j:Str}:decide (V.str i=V.str j)=(i == j):=by
 rw[Bool.eq_iff_iff]
 simp
theorem Ou{i j:Array UInt8}:decide (V.byt i=V.byt j)=(i.toList == j.toList):=by
 rw[Bool.eq_iff_iff]
 cases i
 cases j
 simp

section
variable{X:Cx}{a b c:Expr}{ta tb tc:TE}{pos:Pos}
theorem Am{pins:List (Addr×Obj)}{σ:St}{H:Hp}{s:Shared}{Q:VK}{k k':Bool}(I:Inv X pins σ H s)(q:Q (.bl k) H)(e:k=k'):EP X pins σ Q (.bool k') s:=by
 subst e
 exact⟨.bl k,H,I,rfl,q⟩
theorem Zu:OpR X (compareOp .Eq) rEq:=by
 intro pins s σ H x y v u Q I rx ry h
 obtain⟨hs,q⟩:=h
 cases x with
 |non=>
  cases rx
  cases y with
  |non=>cases ry;exact PySem.EqNone.eq_none_none (Am I q (by simp))
  |bl j=>cases ry;exact PySem.EqNone.eq_none_bool (Am I q (by simp))
  |int j=>obtain⟨t',rfl⟩:=ry;exact PySem.EqNone.eq_none_int (Am I q (by simp))
  |str j=>obtain⟨t',rfl⟩:=ry;exact PySem.EqNone.eq_none_str (Am I q (by simp))
  |_=>exact absurd (show false=true from hs) Bool.false_ne_true
 |bl i=>
  cases rx
  cases y with
  |non=>cases ry;exact PySem.EqNone.eq_bool_none (Am I q (by simp))
  |bl j=>cases ry;exact eq_bool (Am I q R0)
  |str j=>obtain⟨t',rfl⟩:=ry;exact PySem.EqMixed.eq_bool_str (Am I q (by simp))
  |_=>exact absurd (show false=true from hs) Bool.false_ne_true
 |int i=>
  obtain⟨t,rfl⟩:=rx
  cases y with
  |non=>cases ry;exact PySem.EqNone.eq_int_none (Am I q (by simp))
  |int j=>obtain⟨t',rfl⟩:=ry;exact eq_int (Am I q Ot)
  |str j=>obtain⟨t',rfl⟩:=ry;exact PySem.EqMixed.eq_int_str (Am I q (by simp))
  |_=>exact absurd (show false=true from hs) Bool.false_ne_true
 |str i=>
  obtain⟨t,rfl⟩:=rx
  cases y with
  |non=>cases ry;exact PySem.EqNone.eq_str_none (Am I q (by simp))
  |bl j=>cases ry;exact PySem.EqMixed.eq_str_bool (Am I q (by simp))
  |int j=>obtain⟨t',rfl⟩:=ry;exact PySem.EqMixed.eq_str_int (Am I q (by simp))
  |str j=>obtain⟨t',rfl⟩:=ry;exact eq_str (Am I q Os)
  |_=>exact absurd (show false=true from hs) Bool.false_ne_true
 |byt i=>
  obtain⟨t,rfl⟩:=rx
  cases y with
  |byt j=>obtain⟨t',rfl⟩:=ry;exact PySem.W.eq_bytes (Am I q Ou)
  |_=>exact absurd (show false=true from hs) Bool.false_ne_true
 |_=>cases y<;>exact absurd (show false=true from hs) Bool.false_ne_true
theorem Zq:OpR X (compareOp .NotEq) rNe:=by
 intro pins s σ H x y v u Q I rx ry h
 obtain⟨hs,q⟩:=h
 cases x with
 |non=>
  cases rx
  cases y with
  |non=>cases ry;exact PySem.EqNone.ne_none_none (Am I q (by simp))
  |bl j=>cases ry;exact PySem.EqNone.ne_none_bool (Am I q (by simp))
  |int j=>obtain⟨t',rfl⟩:=ry;exact PySem.EqNone.ne_none_int (Am I q (by simp))
  |str j=>obtain⟨t',rfl⟩:=ry;exact PySem.EqNone.ne_none_str (Am I q (by simp))
  |_=>exact absurd (show false=true from hs) Bool.false_ne_true
 |bl i=>
  cases rx
  cases y with
  |non=>cases ry;exact PySem.EqNone.ne_bool_none (Am I q (by simp))
  |bl j=>cases ry;exact ne_bool (Am I q (congrArg not R0))
  |str j=>obtain⟨t',rfl⟩:=ry;exact PySem.EqMixed.ne_bool_str (Am I q (by simp))
  |_=>exact absurd (show false=true from hs) Bool.false_ne_true
 |int i=>
  obtain⟨t,rfl⟩:=rx
  cases y with
  |non=>cases ry;exact PySem.EqNone.ne_int_none (Am I q (by simp))
  |int j=>obtain⟨t',rfl⟩:=ry;exact ne_int (Am I q (congrArg not Ot))
  |str j=>obtain⟨t',rfl⟩:=ry;exact PySem.EqMixed.ne_int_str (Am I q (by simp))
  |_=>exact absurd (show false=true from hs) Bool.false_ne_true
 |str i=>
  obtain⟨t,rfl⟩:=rx
  cases y with
  |non=>cases ry;exact PySem.EqNone.ne_str_none (Am I q (by simp))
  |bl j=>cases ry;exact PySem.EqMixed.ne_str_bool (Am I q (by simp))
  |int j=>obtain⟨t',rfl⟩:=ry;exact PySem.EqMixed.ne_str_int (Am I q (by simp))
  |str j=>obtain⟨t',rfl⟩:=ry;exact ne_str (Am I q (congrArg not Os))
  |_=>exact absurd (show false=true from hs) Bool.false_ne_true
 |byt i=>
  obtain⟨t,rfl⟩:=rx
  cases y with
  |byt j=>obtain⟨t',rfl⟩:=ry;exact PySem.W.ne_bytes (Am I q (congrArg not Ou))
  |_=>exact absurd (show false=true from hs) Bool.false_ne_true
 |_=>cases y<;>exact absurd (show false=true from hs) Bool.false_ne_true

theorem Zr:OpR X (compareOp .Lt) (rI0 fun i j=>.bl (decide (i<j))):=Wm fun _ _ _ _ _ _ _ q=>lt_int q
theorem Zs:OpR X (compareOp .LtE) (rI0 fun i j=>.bl (decide (i≤j))):=Wm fun _ _ _ _ _ _ _ q=>le_int q
theorem Zt:OpR X (compareOp .Gt) (rI0 fun i j=>.bl (decide (j<i))):=Wm fun _ _ _ _ _ _ _ q=>gt_int q
theorem nomark(b:Expr){op:CmpOp}(h:op≠.In:=by decide)(h2:op≠.NotIn:=by decide):behindInMarks op b=false:=by
 have e1:(op == CmpOp.In)=false:=by cases op<;>first|rfl|exact absurd rfl h
 have e2:(op == CmpOp.NotIn)=false:=by cases op<;>first|rfl|exact absurd rfl h2
 cases b<;>simp[behindInMarks,e1,e2]
theorem U0{op:CmpOp}{r:R2}(ho:OpR X (compareOp op) r)(ha:PE X a ta)(hb:PE X b tb)(hm:behindInMarks op b=false):PE X (.Compare a [op] [b] pos) (tOp r ta tb):=by
 intro pins s σ H Q I h
 exact wpAny_Compare1 (Ws ha hb I h fun v u s2 x y H2 I2 rx ry q=>ho pins s2 σ H2 x y v u Q I2 rx ry q) hm
def Vy(t:TE):TT:=fun σ H Q=>t σ H fun x H'=>∃k,x=.bl k∧Q k H'
theorem Uu{op:CmpOp}{r:R2}(ho:OpR X (compareOp op) r)(ha:PE X a ta)(hb:PE X b tb)(hm:behindInMarks op b=false):PT X (.Compare a [op] [b] pos) (Vy (tOp r ta tb)):=by
 intro pins s σ H Q I h
 refine wpAny_isTrue_Compare1 (thn (ha pins s σ H _ I h) fun v s1 ⟨x,H1,I1,r1,q1⟩=>thn (hb pins s1 σ H1 _ I1 q1) fun u s2 ⟨y,H2,I2,r2,q2⟩=>
  thn (ho pins s2 σ H2 x y v u _ I2 r1 r2 q2) fun c s3 ⟨z,H3,I3,r3,k,e,q3⟩=>?_) hm
 subst e
 cases r3
 exact wpAny_truthy_bool ⟨H3,I3,q3⟩
def Mq(r r':R2)(ta tb tc:TE):TE:=fun σ H Q=>ta σ H fun x H1=>tb σ H1 fun y H2=>r x y H2 fun z H3=>∃k,z=.bl k∧
 (if k=true then tc σ H3 fun w' H4=>r' y w' H4 Q else Q (.bl false) H3)
theorem Sw{op op':CmpOp}{r r':R2}(ho:OpR X (compareOp op) r)(ho':OpR X (compareOp op') r')(ha:PE X a ta)(hb:PE X b tb)(hc:PE X c tc)(hm:lastMarks [op,op'] [b,c]=false:=by with_unfolding_all rfl):PE X (.Compare a [op,op'] [b,c] pos) (Mq r r' ta tb tc):=by
 intro pins s σ H Q I h
 refine Compare_chain (thn (ha pins s σ H _ I h) fun v s1 ⟨x,H1,I1,r1,q1⟩=>chain_link (thn (hb pins s1 σ H1 _ I1 q1) fun u s2 ⟨y,H2,I2,r2,q2⟩=>
  thn (ho pins s2 σ H2 x y v u _ I2 r1 r2 q2) fun d s3 ⟨z,H3,I3,r3,k,e,q3⟩=>?_)) hm
 subst e
 cases r3
 refine wpAny_truthy_bool ?_
 cases k with
 |false=>exact ite_ff ⟨.bl false,H3,I3,rfl,q3⟩
 |true=>exact ite_tt (chain_last (thn (hc pins s3 σ H3 _ I3 q3) fun w' s4 ⟨z',H4,I4,r4,q4⟩=>ho' pins s4 σ H4 y z' u w' Q I4 r2 r4 q4))
theorem Sk{op op':CmpOp}{r r':R2}(ho:OpR X (compareOp op) r)(ho':OpR X (compareOp op') r')(ha:PE X a ta)(hb:PE X b tb)(hc:PE X c tc)(hm:lastMarks [op,op'] [b,c]=false:=by with_unfolding_all rfl):PT X (.Compare a [op,op'] [b,c] pos) (Vy (Mq r r' ta tb tc)):=by
 intro pins s σ H Q I h
 refine isTrue_chain (thn (ha pins s σ H _ I h) fun v s1 ⟨x,H1,I1,r1,q1⟩=>test_link (thn (hb pins s1 σ H1 _ I1 q1) fun u s2 ⟨y,H2,I2,r2,q2⟩=>
  thn (ho pins s2 σ H2 x y v u _ I2 r1 r2 q2) fun d s3 ⟨z,H3,I3,r3,k,e,q3⟩=>?_)) hm
 subst e
 cases r3
 refine wpAny_truthy_bool ?_
 cases k with
 |false=>
  obtain⟨k',e',q'⟩:=q3
  cases e'
  exact ite_ff ⟨H3,I3,q'⟩
 |true=>
  refine ite_tt (test_last (thn (hc pins s3 σ H3 _ I3 q3) fun w' s4 ⟨z',H4,I4,r4,q4⟩=>thn (ho' pins s4 σ H4 y z' u w' _ I4 r2 r4 q4) fun d' s5 ⟨z2,H5,I5,r5,k2,e2,q5⟩=>?_))
  subst e2
  cases r5
  exact wpAny_truthy_bool ⟨H5,I5,q5⟩

def Wv(K:PySem.W.Frag)(x:V)(H:Hp)(k:Bool):Prop:=
 match x with
 |.non=>k=false
 |.bl b=>k=b
 |.int i=>k=(i != 0)
 |.str y=>y.length≤sizeLine∧k=((y.length:Int) != 0)
 |.byt y=>y.size≤sizeLine∧k=((y.size:Int) != 0)
 |.ref p=>(∃xs,SqL K H p xs∧k = !xs.isEmpty)∨(∃xs,SqT K H p xs∧k = !xs.isEmpty)∨∃kvs,H p=some (.dK kvs)∧k = !kvs.isEmpty
 |_=>False
theorem Ng{κ:Type}{kvs:List (κ×V)}{vs:List (κ×Value)}(r:KV kvs vs):(!vs.isEmpty) = !kvs.isEmpty:=by
 cases r<;>rfl
theorem Hb{xs:List V}{its:List Value}(r:Vals xs its):(!its.toArray.isEmpty) = !xs.isEmpty:=by
 cases r<;>simp
theorem E4:(sizeLine:Nat)<2 ^ 63:=by rw[sizeLine_eq];decide
theorem W0:TruR X (fun x H Q=>∃k,Wv X.K x H k∧Q k H):=by
 intro pins s σ H x v Q I rx h
 obtain⟨k,e,q⟩:=h
 have hl:=E4
 have hs:sizeLine=16777216:=sizeLine_eq
 cases x with
 |non=>
  cases rx
  have e':k=false:=e
  subst e'
  exact truthy_none ⟨H,I,q⟩
 |bl b=>
  cases rx
  have e':k=b:=e
  subst e'
  exact wpAny_truthy_bool ⟨H,I,q⟩
 |int i=>
  obtain⟨t,rfl⟩:=rx
  have e':k=(i != 0):=e
  subst e'
  exact PySem.P.truthy_int ⟨H,I,q⟩
 |str y=>
  obtain⟨t,rfl⟩:=rx
  obtain⟨hy,e'⟩:y.length≤sizeLine∧k=((y.length:Int) != 0):=e
  subst e'
  exact PySem.P.truthy_str (by omega) ⟨H,I.tok _,q⟩
 |byt y=>
  obtain⟨t,rfl⟩:=rx
  obtain⟨hy,e'⟩:y.size≤sizeLine∧k=((y.size:Int) != 0):=e
  subst e'
  exact PySem.W.truthy_bytes (by omega) ⟨H,I.tok _,q⟩
 |ref p=>
  cases rx
  have e':(∃xs,SqL X.K H p xs∧k = !xs.isEmpty)∨(∃xs,SqT X.K H p xs∧k = !xs.isEmpty)∨∃kvs,H p=some (.dK kvs)∧k = !kvs.isEmpty:=e
  rcases e' with ⟨xs,hx,e'⟩|⟨xs,hx,e'⟩|⟨kvs,hx,e'⟩
  ·subst e'
   obtain⟨its,r,pl,hz⟩:=I.list hx
   have hlen:=r.length
   exact wpAny_truthy_list pl.isList (by simp only[List.size_toArray];omega) ⟨H,I.tok _,by rw[Hb r];exact q⟩
  ·subst e'
   obtain⟨its,r,pl,hz⟩:=I.tuple hx
   have hlen:=r.length
   exact truthy_tuple pl (by simp only[List.size_toArray];omega) ⟨H,I.tok _,by rw[Hb r];exact q⟩
  ·subst e'
   obtain⟨hz,hS,vs,r,m⟩:kvs.length≤sizeLine∧(p == sysModules)=false∧∃vs,KV kvs vs∧s.heap.DictOf (A0 X.prog X.w) p vs:=I.hok p _ hx
   have hlen:kvs.length=vs.length:=Paired.length r
   exact wpAny_truthy_dict hS m (by omega) ⟨H,I.tok _,by rw[Ng r];exact q⟩
 |_=>exact(show False from e).elim
theorem Sj(ha:PE X a ta)(he:∀whole,isTrue a X.env whole=(do let v ←whole;standAt a.pos;holding [v] (truthy v))) :
  PT X a (fun σ H Q=>ta σ H fun x H'=>∃k,Wv X.K x H' k∧Q k H'):=by
 intro pins s σ H Q I h
 exact isTrue_plain (thn (ha pins s σ H _ I h) fun v s1 ⟨x,H1,I1,r1,q1⟩=>W0 pins s1 σ H1 x v Q I1 r1 q1) (he _)

theorem Dc{x:V}{us:List Value}(r:Vals [x] us):∃u,us=[u]∧RelV x u:=by
 cases r with
 |cons r1 r2=>cases r2;exact⟨_,rfl,r1⟩
theorem Nr{x y:V}{us:List Value}(r:Vals [x,y] us):∃u w',us=[u,w']∧RelV x u∧RelV y w':=by
 cases r with
 |cons r1 r2=>
  cases r2 with
  |cons r3 r4=>cases r4;exact⟨_,_,rfl,r1,r3⟩
theorem call_abs:CallR X (.builtin "abs") (fun xs H Q=>∃i,xs=[.int i]∧Q (.int (if i<0 then -i else i)) H):=by
 intro pins s σ H xs us Q I r h
 obtain⟨i,rfl,q⟩:=h
 obtain⟨u,rfl,t,rfl⟩:=Dc r
 exact call_abs_int fun u tk=>⟨.int (if i<0 then -i else i),H,I.tok _,⟨_,rfl⟩,q⟩
theorem Qn(hc:X.calm=true):CallR X (.builtin "max") (fun xs H Q=>∃i j,xs=[.int i,.int j]∧Q (.int (if j>i then j else i)) H):=by
 intro pins s σ H xs us Q I r h
 obtain⟨i,j,rfl,q⟩:=h
 obtain⟨u,w',rfl,⟨t,rfl⟩,⟨t',rfl⟩⟩:=Nr r
 refine max_two_ints (I.ok.hd hc) fun h' tk k=>⟨_,H,I.kept k,?_,q⟩
 by_cases hj:j>i
 ·rw[if_pos hj,if_pos hj];exact⟨_,rfl⟩
 ·rw[if_neg hj,if_neg hj];exact⟨_,rfl⟩
theorem Qm(hc:X.calm=true):CallR X (.builtin "min") (fun xs H Q=>∃i j,xs=[.int i,.int j]∧Q (.int (if j<i then j else i)) H):=by
 intro pins s σ H xs us Q I r h
 obtain⟨i,j,rfl,q⟩:=h
 obtain⟨u,w',rfl,⟨t,rfl⟩,⟨t',rfl⟩⟩:=Nr r
 refine min_two_ints (I.ok.hd hc) fun h' tk k=>⟨_,H,I.kept k,?_,q⟩
 by_cases hj:j<i
 ·rw[if_pos hj,if_pos hj];exact⟨_,rfl⟩
 ·rw[if_neg hj,if_neg hj];exact⟨_,rfl⟩
theorem call_int1:CallR X (.type "int") (fun xs H Q=>(∃i,xs=[.int i]∧Q (.int i) H)∨∃k,xs=[.bl k]∧Q (.int (if k then 1 else 0)) H):=by
 intro pins s σ H xs us Q I r h
 rcases h with ⟨i,rfl,q⟩|⟨k,rfl,q⟩
 ·obtain⟨u,rfl,t,rfl⟩:=Dc r
  exact call_int_int ⟨.int i,H,I,⟨_,rfl⟩,q⟩
 ·obtain⟨u,rfl,r1⟩:=Dc r
  cases r1
  exact call_int_bool ⟨.int (if k then 1 else 0),H,I.tok _,⟨_,rfl⟩,q⟩
def LenV(K:PySem.W.Frag)(x:V)(H:Hp)(n:Nat):Prop:=
 match x with
 |.str y=>y.length≤sizeLine∧n=y.length
 |.byt y=>y.size≤sizeLine∧n=y.size
 |.ref p=>(∃xs,SqL K H p xs∧n=xs.length)∨∃xs,SqT K H p xs∧n=xs.length
 |_=>False
theorem call_len:CallR X (.builtin "len") (fun xs H Q=>∃x n,xs=[x]∧LenV X.K x H n∧Q (.int n) H):=by
 intro pins s σ H xs us Q I r h
 obtain⟨x,n,rfl,e,q⟩:=h
 obtain⟨u,rfl,rx⟩:=Dc r
 have hl:=E4
 have hs:sizeLine=16777216:=sizeLine_eq
 cases x with
 |str y=>
  obtain⟨t,rfl⟩:=rx
  obtain⟨hy,e'⟩:y.length≤sizeLine∧n=y.length:=e
  subst e'
  exact len_str (by omega) ⟨.int _,H,I.tok _,⟨_,rfl⟩,q⟩
 |byt y=>
  obtain⟨t,rfl⟩:=rx
  obtain⟨hy,e'⟩:y.size≤sizeLine∧n=y.size:=e
  subst e'
  exact PySem.W.len_bytes (by omega) ⟨.int _,H,I.tok _,⟨_,rfl⟩,q⟩
 |ref p=>
  cases rx
  have e':(∃xs,SqL X.K H p xs∧n=xs.length)∨∃xs,SqT X.K H p xs∧n=xs.length:=e
  rcases e' with ⟨xs,hx,e'⟩|⟨xs,hx,e'⟩
  ·subst e'
   obtain⟨its,r',pl,hz⟩:=I.list hx
   have hlen:=r'.length
   exact Calls.call_len_list pl.isList (by simp only[List.size_toArray];omega) ⟨.int xs.length,H,I.tok _,⟨_,by simp only[List.size_toArray];rw[hlen]⟩,q⟩
  ·subst e'
   obtain⟨its,r',pl,hz⟩:=I.tuple hx
   have hlen:=r'.length
   exact len_tuple pl (by simp only[List.size_toArray];omega) ⟨.int xs.length,H,I.tok _,⟨_,by simp only[List.size_toArray];rw[hlen]⟩,q⟩
 |_=>exact(show False from e).elim
theorem call_divmod:CallR X (.builtin "divmod") (fun xs H Q=>∃i j,xs=[.int i,.int j]∧Mo i j∧∀p,H p=none→Q (.ref p) (upd H p (.tup [.int (i / j),.int (i % j)]))):=by
 intro pins s σ H xs us Q I r h
 obtain⟨i,j,rfl,⟨h1,h2⟩,q⟩:=h
 obtain⟨u,w',rfl,⟨t,rfl⟩,⟨t',rfl⟩⟩:=Nr r
 refine divmod_int (by omega) ?_ (.inl (PyProof.noPylong_small (by omega)))
 rw[Int.fdiv_eq_ediv_of_nonneg i (by omega),Int.fmod_eq_emod_of_nonneg i (by omega)]
 have hn:H s.heap.objs.size=none:=I.hok.fresh (Nat.le_refl _)
 refine⟨.ref s.heap.objs.size,_,?_,rfl,q _ hn⟩
 refine I.laid (fun b o e=>Heap.get?_push_of_some _ e) (Nat.le_refl _) ⟨by simp only[List.length_cons,List.length_nil];rw[sizeLine_eq];decide,[.int (i / j) s.toks,.int (i % j) (s.toks+1)],.cons ⟨_,rfl⟩ (.cons ⟨_,rfl⟩ .nil),?_⟩
 exact⟨_,Heap.get?_push_size s.heap rfl,rfl,0,rfl⟩
end
end L2
namespace L2
open PySem PySem.Spec PyProof.Rows
structure ObjM(h:Heap)(x dx C:Addr)(mA:Str→Option Value):Prop where
 obj:h.get? x=some (PySem.W.instObj C dx)
 ns:h.Ns1 dx mA
 ne:dx≠x

theorem P2{h:Heap}{dx:Addr}{mA:Str→Option Value}(n:h.Ns1 dx mA):∃od,h.get? dx=some od∧∀name,PySem.W.lookIn name od=some (mA name):=by
 obtain⟨o,es,ep,ho,hd,hk,_,hm⟩:=n
 refine⟨o,ho,fun name=>?_⟩
 have e:=hm name
 unfold nsFind findBy at e
 rw[←Array.find?_toList] at e
 unfold PySem.W.lookIn
 rw[hd]
 dsimp only
 split
 ·rename_i y q
  rw[q] at e
  exact congrArg some e
 ·rename_i q
  rw[q] at e
  have a:es.toList.any (·.refKey)=false:=by
   rw[List.any_eq_false]
   intro y hy
   obtain⟨z,t,hkey⟩:=hk y (Array.mem_toList_iff.mp hy)
   simp[DictEntry.refKey,hkey]
  have a':¬es.toList.any (·.refKey)=true:=by rw[a];exact Bool.false_ne_true
  rw[if_neg a']
  exact congrArg some e

theorem ObjM.look{h:Heap}{x dx C:Addr}{mA:Str→Option Value}(I:ObjM h x dx C mA):∃od,PySem.W.InstAt h x (PySem.W.instObj C dx) C (some od)∧∀name,PySem.W.lookIn name od=some (mA name):=
 let ⟨od,ho,hl⟩:=P2 I.ns
 ⟨od,⟨I.obj,rfl,rfl,ho⟩,hl⟩

section
variable{prog:Program}{w:World}{A:Around}{E:Value→Shared→Prop}{s:Shared}{K:W.Frag}{x dx C f:Addr}{mA:Str→Option Value}{name:Str}{v:Value}
end
section
variable{P:Program}{w:World}{H H':Hp}{h h':Heap}{a C dx:Addr}{fs fs':List (Str×V)}
theorem ins_get(hok:HOk P w H h)(e:H a=some (.ins C dx fs)):∃mA,ObjM h a dx C mA∧(∀f,RelO (fs.lookup f) (mA f))∧PySem.Within mA (fs.map (·.1))∧fs.length≤1000∧H dx=some (.own a):=by
 obtain⟨d,z,ne,ob,mA,n,r,q⟩:=(show ObjOk P w H h a (.ins C dx fs) from hok a _ e)
 exact⟨mA,⟨ob,n,ne⟩,r,q,z,d⟩
end
structure Cls(K:PySem.W.Frag)(C:Addr):Prop where
 pg:PySem.W.plainGet K C Str.empty=true
 hd:PySem.W.hasDictIn K C=true
 po:PySem.W.plainOver K C=true
 sa:PySem.W.findIn K (.ref C) "__setattr__" = some (some (.builtin "object.__setattr__"))
theorem Cls.get{K:W.Frag}{C:Addr}(c:Cls K C)(f:Str):PySem.W.plainGet K C f=true:=c.pg
section
variable{X:Cx}{pins:List (Addr×Obj)}{σ:St}{H:Hp}{s:Shared}{a C dx:Addr}{fs:List (Str×V)}{f:Str}{v:V}{A:Around}{E:Value→Shared→Prop}
end
section
variable{X:Cx}{o e value:Expr}{f:Str}{pos pos' tpos:Pos}{ta tv:TE}
end
section
variable{X:Cx}{pins:List (Addr×Obj)}{σ:St}{H:Hp}{s:Shared}{A:Around}{E:Value→Shared→Prop}{Q:Value→Shared→Prop}{c:Value}{b:Bool}
inductive TyOf (K:PySem.W.Frag) (H:Hp):V→Value→Prop where
 |non:TyOf K H .non (.type "NoneType")
 |bl (x:Bool):TyOf K H (.bl x) (.type "bool")
 |int (i:Int):TyOf K H (.int i) (.type "int")
 |str (x:Str):TyOf K H (.str x) (.type "str")
 |flt (x:UInt64):TyOf K H (.flt x) (.type "float")
 |lst {a:Addr} {xs:List V} (e:H a=some (.lst xs)):TyOf K H (.ref a) (.type "list")
 |frz {a:Addr} {o:Obj} {xs:List V} (e:H a=some (.frz o (.lst xs))):TyOf K H (.ref a) (.type "list")
 |tup {a:Addr} {xs:List V} (e:H a=some (.tup xs)):TyOf K H (.ref a) (.type "tuple")
 |dK {a:Addr} {kvs:List (Key×V)} (e:H a=some (.dK kvs)):TyOf K H (.ref a) (.type "dict")
 |dT {a:Addr} {kvs:List (List Key×V)} (e:H a=some (.dT kvs)):TyOf K H (.ref a) (.type "dict")
 |ins {a C dx:Addr} {fs:List (Str×V)} (e:H a=some (.ins C dx fs)) (cl:Cls K C) (ha:PySem.W.findIn K (.ref C) "__class__" = some (some (.builtin "object.__class__")))
   (hn:PySem.W.specialIn K (.builtin "object.__class__") "__get__" = some (some (.builtin "getset_descriptor.__get__"))) (htk:PySem.W.takesIn K (.builtin "object.__class__")=some true)
   (hm:PySem.W.mroIn K C (.type "object")=some true):TyOf K H (.ref a) (.ref C)
theorem P8{x:V}{u t:Value}(I:Inv X pins σ H s)(rx:RelV x u)(ty:TyOf X.K H x t)(e:PySem.W.kitOne X.K t c=some b)(h:∀tk,Q (.bool b) { s with toks:=tk }) :
  wpAny (model X.prog X.w) A (call (.builtin "isinstance") [u,c]) Q E s:=by
 cases ty with
 |non=>cases(show u=Value.none from rx);exact PySem.W.kia_one PySem.W.kitx_none I.kIn True.intro e (fun z=>nomatch z) h
 |bl y=>cases(show u=Value.bool y from rx);exact PySem.W.kia_one PySem.W.kitx_bool I.kIn True.intro e (fun z=>nomatch z) h
 |int i=>obtain⟨t,q⟩:=(show ∃t,u=Value.int i t from rx);cases q;exact PySem.W.kia_one PySem.W.kitx_int I.kIn True.intro e (fun z=>nomatch z) h
 |str y=>obtain⟨t,q⟩:=(show ∃t,u=Value.str y t from rx);cases q;exact PySem.W.kia_one PySem.W.kitx_str I.kIn True.intro e (fun z=>nomatch z) h
 |flt y=>obtain⟨t,q⟩:=(show ∃t,u=Value.float y t from rx);cases q;exact PySem.W.kia_one PySem.W.kitx_float I.kIn True.intro e (fun z=>nomatch z) h
 |@lst a xs ea=>
  cases(show u=Value.ref a from rx)
  obtain⟨_,_,n,_,h1⟩:=(show ObjOk X.prog X.w H s.heap a (.lst xs) from I.hok a _ ea)
  exact PySem.W.kia_one PySem.W.kitx_list I.kIn ⟨_,h1,rfl⟩ e (fun z=>nomatch z) h
 |@frz a ob xs ea=>
  cases(show u=Value.ref a from rx)
  obtain⟨_,_,_,n,_,h1⟩:=(show ObjOk X.prog X.w H s.heap a (.frz ob (.lst xs)) from I.hok a _ ea)
  exact PySem.W.kia_one PySem.W.kitx_list I.kIn ⟨_,h1,rfl⟩ e (fun z=>nomatch z) h
 |@tup a xs ea=>
  cases(show u=Value.ref a from rx)
  obtain⟨_,_,_,p⟩:=(show ObjOk X.prog X.w H s.heap a (.tup xs) from I.hok a _ ea)
  obtain⟨o,h1,h2,_⟩:=p
  exact PySem.W.kia_one PySem.W.kitx_tuple I.kIn ⟨o,h1,h2⟩ e (fun z=>nomatch z) h
 |@dK a kvs ea=>
  cases(show u=Value.ref a from rx)
  obtain⟨_,_,vs,_,p⟩:=(show ObjOk X.prog X.w H s.heap a (.dK kvs) from I.hok a _ ea)
  obtain⟨o,es,ep,h1,h2,_⟩:=p
  exact PySem.W.kia_one PySem.W.kitx_dict I.kIn ⟨o,h1,h2.1⟩ e (fun z=>nomatch z) h
 |@dT a kvs ea=>
  cases(show u=Value.ref a from rx)
  obtain⟨_,_,xs,_,o,es,ep,h1,h2,_⟩:=(show ObjOk X.prog X.w H s.heap a (.dT kvs) from I.hok a _ ea)
  exact PySem.W.kia_one PySem.W.kitx_dict I.kIn ⟨o,h1,h2.1⟩ e (fun z=>nomatch z) h
 |@ins a C dx fs ea cl ha hn htk hm=>
  cases(show u=Value.ref a from rx)
  obtain⟨mA,O,_⟩:=ins_get I.hok ea
  obtain⟨od,J,_⟩:=O.look
  exact PySem.W.kia_one (PySem.W.kitx_own (cl.get _) cl.hd ha hn htk hm) I.kIn J e (fun z=>nomatch z) h
end
end L2
namespace L2
open PySem PySem.Spec PyProof.Rows
structure Room(k:Nat)(A:Around):Prop where
 hd:A.handled=none
 dp:A.depth+3*k+5<recursionLimit
 un:A.units+16*k+200<cLine
 gd:A.guards=some []
theorem Room.mono{j k:Nat}{A:Around}(r:Room k A)(h:j≤k):Room j A:=⟨r.hd,by have:=r.dp;omega,by have:=r.un;omega,r.gd⟩
theorem Room.deeper{k:Nat}{A:Around}(r:Room (k+1) A)(env:Env):Room k (A.deeper env):=
 ⟨r.hd,by have:=r.dp;show A.depth+1+3*k+5<_;omega,by have:=r.un;show A.units+3+16*k+200<_;omega,r.gd⟩
theorem Room.depth{k:Nat}{A:Around}(r:Room k A):A.depth<recursionLimit:=by have:=r.dp;omega
def tNil:TA:=fun _ H Q=>Q [] H
def Ze(ta:TE)(tr:TA):TA:=fun σ H Q=>ta σ H fun x H1=>tr σ H1 fun xs H2=>Q (x::xs) H2
section
variable{X:Cx}{e:Expr}{es:List Expr}{te:TE}{t:TA}{pos:Pos}
theorem pa_nil:PA X [] tNil:=fun _ _ _ _ H Q I h=>Calls.spliced_nil ⟨[],H,I,.nil,h⟩
theorem Ju(ha:PE X e te)(hr:PA X es t)(hs:starEach (e::es) X.env=(false,eval e X.env)::starEach es X.env:=by rfl):PA X (e::es) (Ze te t):=by
 intro pos pins s σ H Q I h
 rw[hs]
 show wpAny _ _ (spliced ((false,eval e X.env)::backTo pos (starEach es X.env))) _ _ s
 refine Calls.spliced_cons (thn (ha pins s σ H _ I h) fun u s1 ⟨x,H1,I1,r1,q1⟩=>?_)
 exact thn (hr pos pins s1 σ H1 _ I1 q1) fun us s2 ⟨xs,H2,I2,r2,q2⟩=>⟨x::xs,H2,I2,.cons r1 r2,q2⟩

def tTup(t:TA):TE:=fun σ H Q=>t σ H fun xs H1=>xs.length≤sizeLine∧∀p,H1 p=none→Q (.ref p) (upd H1 p (.tup xs))
def tLst(t:TA):TE:=fun σ H Q=>t σ H fun xs H1=>xs.length≤sizeLine∧∀p,H1 p=none→Q (.ref p) (upd H1 p (.lst xs))
theorem Xv{x1}(h:PA X es t):PE X (.Tuple es x1 pos) (tTup t):=by
 intro pins s σ H Q I hq
 refine wpAny_Tuple_spliced (thn (h pos pins s σ H _ I hq) fun us s1 ⟨xs,H1,I1,r,z,q⟩=>⟨by rw[←r.length];exact z,?_⟩)
 have hf:H1 s1.heap.objs.size=none:=I1.hok.fresh (Nat.le_refl _)
 refine⟨.ref s1.heap.objs.size,upd H1 s1.heap.objs.size (.tup xs),I1.laid (t':=s1.toks) (fun b u e=>Heap.get?_push_of_some _ e) (Nat.le_refl _) ?_,rfl,q _ hf⟩
 exact⟨z,us,r,⟨_,Heap.get?_push_size _ rfl,rfl,_,rfl⟩⟩
theorem Xy(h:PA X es t):PE X (.List es pos) (tLst t):=by
 intro pins s σ H Q I hq
 refine wpAny_List_spliced (thn (h pos pins s σ H _ I hq) fun us s1 ⟨xs,H1,I1,r,z,q⟩=>⟨by rw[←r.length];exact z,?_⟩)
 have hf:H1 s1.heap.objs.size=none:=I1.hok.fresh (Nat.le_refl _)
 refine⟨.ref s1.heap.objs.size,upd H1 s1.heap.objs.size (.lst xs),I1.laid (t':=s1.toks) (fun b u e=>Heap.get?_push_of_some _ e) (Nat.le_refl _) ?_,rfl,q _ hf⟩
 exact⟨z,us,0,r,Heap.get?_push_size _ rfl⟩
end
abbrev Sp:=List V→Hp→VK→XK→Prop
abbrev CXT:=List Env→Hp→Shared→XK→Value→Shared→Prop

structure Env0(P:Program)(w:World)(K:PySem.W.Frag)(mg:Str→Option Value)(base:Heap)(A:Around)(outer:List Env)(s:Shared)(H:Hp):Prop where
 frames:A.frames=some outer
 mod:Mod K mg base
 bs:∀b o,base.get? b=some o→s.heap.get? b=some o∧H b=none
 bsz:base.objs.size≤s.heap.objs.size
 funs:s.heap.FunFrames base outer
 frf:∀b∈frs outer,H b=none
 hok:HOk P w H s.heap
 bare:AllBare s.gens
def CE(outer:List Env)(P:Program)(w:World)(H:Hp)(s:Shared)(Q:VK)(u:Value)(s':Shared):Prop:=
 ∃v H',s'.os=s.os∧AllBare s'.gens∧Un (frs outer) [] H H' s.heap s'.heap∧HOk P w H' s'.heap∧RelV v u∧Q v H'
def CR(CX:CXT)(outer:List Env)(P:Program)(w:World)(H:Hp)(s:Shared)(Q:VK)(E:XK)(r:Result)(s':Shared):Prop:=
 match r with
 |.ok (.ret u)=>CE outer P w H s Q u s'
 |.ok _=>False
 |.error e=>CX outer H s E e s'
structure FnOk(P:Program)(w:World)(K:PySem.W.Frag)(mg:Str→Option Value)(base:Heap)(CX:CXT)(k:Nat)(f:Addr)(fd:FuncData)(ps:List Str)(sp:Sp):Prop where
 len:∀vs H Q E,sp vs H Q E→vs.length=ps.length
 run:∀(A:Around) (outer:List Env) (s:Shared) (H:Hp) (args:Args) (us:List Value) (vs:List V) (Q:VK) (E:XK),Room k A→Env0 P w K mg base A outer s H→BindsTo s fd args (ps.zip us)→Vals vs us→sp vs H Q E→
  codeAny (model P w) A (.call (.ref f) args) (CR CX outer P w H s Q E) s
section
variable{X:Cx}{pins:List (Addr×Obj)}{σ:St}{H:Hp}{s s':Shared}
theorem Inv.env0(I:Inv X pins σ H s):Env0 X.prog X.w X.K X.mg X.base X.A X.stack s H:=
 ⟨I.ok.frames,I.ok.mod,I.bs,Nat.le_trans I.ok.bsz I.sz,I.stack,I.stkFree,I.hok,I.bare⟩
theorem Inv.after{Q:VK}{u:Value}(I:Inv X pins σ H s)(h:CE X.stack X.prog X.w H s Q u s'):EP X pins σ Q u s':=by
 obtain⟨v,H',os,bare,un,hok,r,q⟩:=h
 obtain⟨hh,g,d,t,os'⟩:=s'
 obtain rfl:os'=s.os:=os
 exact⟨v,H',I.call (h':=hh) (g':=g) (d':=d) (t':=t) (ch:=[]) un hok bare (fun b z=>absurd z (by simp)),r,q⟩
end
def Zf(sp:Sp)(dvs:List V)(E:XK)(t:TA):TE:=fun σ H Q=>t σ H fun vs H1=>sp (vs++dvs) H1 Q E
def Binds(K:PySem.W.Frag)(fd:FuncData)(ps:List Str)(ds:List Value):Prop:=
 ∀(s:Shared) (us:List Value),K.In s.heap→(us++ds).length=ps.length→BindsTo s fd ⟨us,[]⟩ (ps.zip (us++ds))
theorem Binds.all{K:W.Frag}{fd:FuncData}{ps:List Str}(h:∀us:List Value,us.length=ps.length→bindArgs fd ⟨us,[]⟩=pure (ps.zip us)):Binds K fd ps []:=fun s us _ hl=>by
 rw[List.append_nil] at hl ⊢
 exact .of_eq (h us hl)

def Jq(CX:CXT)(X:Cx)(E:XK):Prop:=∀(pins:List (Addr×Obj)) (σ:St) (H:Hp) (s:Shared) (e:Value) (s':Shared),Inv X pins σ H s→CX X.stack H s E e s'→X.xe e s'

section
variable{X:Cx}{CX:CXT}{k:Nat}{f C:Addr}{fd:FuncData}{ps:List Str}{sp:Sp}{dvs:List V}{ds:List Value}{E:XK}{x m:Str}{p pos apos:Pos}{e o:Expr}{es:List Expr}{ta:TE}{t:TA}
theorem Xe{pins:List (Addr×Obj)}{σ:St}{H:Hp}{s:Shared}{Q:VK}{us:List Value}{vs:List V}(F:FnOk X.prog X.w X.K X.mg X.base CX k f fd ps sp)(hr:Room k X.A)(hb:Binds X.K fd ps ds)(hd:Vals dvs ds)(hx:Jq CX X E)(I:Inv X pins σ H s)(r:Vals vs us)(h:sp (vs++dvs) H Q E):wpAny (model X.prog X.w) X.A (call (.ref f) us) (EP X pins σ Q) X.xe s:=by
 have r2:Vals (vs++dvs) (us++ds):=r.append hd
 have hl:(us++ds).length=ps.length:=by rw[←r2.length];exact F.len _ _ _ _ h
 refine wpAny_call (codeAny_mono (F.run X.A X.stack s H ⟨us,[]⟩ (us++ds) (vs++dvs) Q E hr I.env0 (hb s us I.kIn hl) r2 h) fun r s' hq=>?_)
 cases r with
 |error e=>exact hx pins σ H s e s' I hq
 |ok fl=>
  cases fl with
  |ret u=>exact I.after hq
  |next=>exact False.elim hq
  |brk=>exact False.elim hq
  |cont=>exact False.elim hq

theorem U1(F:FnOk X.prog X.w X.K X.mg X.base CX k f fd ps sp)(hr:Room k X.A)(hg:Gl X x)(hm:X.mg x=some (.ref f))(hk:PySem.W.keepIn X.K (.ref f)=true)(hb:Binds X.K fd ps ds)(hd:Vals dvs ds)(hx:Jq CX X E)(ha:PA X (e::es) t)(hdb:(x == ("__debug__" : Str))=false:=by decide)(he:starEach (e::es) X.env=(false,eval e X.env)::starEach es X.env:=by rfl)(hpl:(backTo pos (starEach es X.env)).any (·.1)=false:=by rfl) :
  PE X (.Call (.Name x p) (e::es) [] pos) (Zf sp dvs E t):=by
 intro pins s σ H Q I h
 refine wpAny_Call_Name_kw (Oh I hg hm ?_ hdb)
 refine PySem.W.callWith_K (h₀:=X.base) I.ok.mod.kin hk (thn (ha pos pins s σ H _ I h) fun us s1 ⟨vs,H1,I1,r,q⟩=>⟨I1.kIn,?_⟩) he hpl
 exact Xe F hr hb hd hx I1 r q
end
section
variable{X:Cx}{CX:CXT}{k:Nat}{f C:Addr}{fd:FuncData}{ps ks:List Str}{sp:Sp}{E:XK}{x m:Str}{p pos apos kpos:Pos}{e o:Expr}{es:List Expr}{kws:List Keyword}{te ta:TE}{t tk:TA}{nm:Option Str}
variable{g:List Value→List Value→List Value}{gV:List V→List V→List V}
end
structure FnScope(N P:List Str)(sc:Scope):Prop where
 kind:sc.kind=.function
 co:sc.isCoroutine=false
 gen:sc.isGenerator=false
 nd:N.Nodup
 pre:N.take P.length=P
 par:∀x∈P,sc.names.lookup x=some .local∨sc.names.lookup x=some .cell
 nofree:∀y∈sc.names,y.2≠.free

theorem Iv{kindOf:Str→Option NameKind}{x:Str}:∀{binds:List (Str×Value)} {m:Str→Option Value},(∀v,(x,v) ∉ binds)→bindL kindOf binds m x=m x
 |[],_,_=>rfl
 |(n,v)::r,m,h=>by
  unfold bindL
  rw[Iv fun w hw=>h w (List.mem_cons_of_mem _ hw)]
  split
  ·have:x≠n:=by rintro rfl;exact h v List.mem_cons_self
   simp[this]
  ·rfl
theorem Ix{kindOf:Str→Option NameKind}{x:Str}:∀{binds:List (Str×Value)} {m:Str→Option Value},(∀v,(x,v) ∉ binds)→bindC kindOf binds m x=m x
 |[],_,_=>rfl
 |(n,v)::r,m,h=>by
  unfold bindC
  rw[Ix fun w hw=>h w (List.mem_cons_of_mem _ hw)]
  split
  ·rfl
  ·have:x≠n:=by rintro rfl;exact h v List.mem_cons_self
   simp[this]
theorem Iw{kindOf:Str→Option NameKind}{x:Str}{v:Value}:∀{P:List Str} {vs:List Value} {i:Nat} {m:Str→Option Value},P.Nodup→P[i]? = some x→vs[i]? = some v→kindOf x=some .local→
  bindL kindOf (P.zip vs) m x=some v
 |[],_,_,_,_,h,_,_=>by simp at h
 |_::_,[],_,_,_,_,h,_=>by simp at h
 |p::P,w::vs,0,m,nd,h1,h2,hk=>by
  simp at h1 h2;subst h1;subst h2
  show bindL kindOf ((p,w)::P.zip vs) m p=_
  unfold bindL
  rw[Iv fun v hv=>(List.nodup_cons.mp nd).1 (List.of_mem_zip hv).1,if_pos hk]
  simp
 |p::P,w::vs,i+1,m,nd,h1,h2,hk=>by
  show bindL kindOf ((p,w)::P.zip vs) m x=_
  unfold bindL
  exact Iw (i:=i) (List.nodup_cons.mp nd).2 (by simpa using h1) (by simpa using h2) hk
theorem Iy{kindOf:Str→Option NameKind}{x:Str}{v:Value}:∀{P:List Str} {vs:List Value} {i:Nat} {m:Str→Option Value},P.Nodup→P[i]? = some x→vs[i]? = some v→kindOf x≠some .local→
  bindC kindOf (P.zip vs) m x=some v
 |[],_,_,_,_,h,_,_=>by simp at h
 |_::_,[],_,_,_,_,h,_=>by simp at h
 |p::P,w::vs,0,m,nd,h1,h2,hk=>by
  simp at h1 h2;subst h1;subst h2
  show bindC kindOf ((p,w)::P.zip vs) m p=_
  unfold bindC
  rw[Ix fun v hv=>(List.nodup_cons.mp nd).1 (List.of_mem_zip hv).1,if_neg hk]
  simp
 |p::P,w::vs,i+1,m,nd,h1,h2,hk=>by
  show bindC kindOf ((p,w)::P.zip vs) m x=_
  unfold bindC
  exact Iy (i:=i) (List.nodup_cons.mp nd).2 (by simpa using h1) (by simpa using h2) hk

def start(N:List Str)(vs:List V):St:=vs.map some++List.replicate (N.length-vs.length) none

def Mn(CX:CXT)(P:Program)(w:World)(K:PySem.W.Frag)(mg:Str→Option Value)(base:Heap)(N:List Str)(qual:Str)(scope:Scope)(f:Addr)(cd:Value)(A:Around)(outer:List Env)(s:Shared)(H:Hp)(E:XK):Cx where
 prog:=P
 w:=w
 K:=K
 mg:=mg
 base:=base
 A:=A.deeper (envOfC qual scope s.heap.objs.size f cd)
 N:=N
 s₀:=s
 H₀:=H
 env:=envOfC qual scope s.heap.objs.size f cd
 outer:=outer
 stack:=envOfC qual scope s.heap.objs.size f cd::outer
 ex:=[]
 calm:=true
 fn:=fun _=>true
 pn:=[]
 xe:=fun e s'=>wpAny (model P w) (A.deeper (envOfC qual scope s.heap.objs.size f cd)) (leaving (envOfC qual scope s.heap.objs.size f cd) e) (fun _ s''=>CX outer H s E e s'') (fun e' s''=>CX outer H s E e' s'') s'

theorem Lq{sc:Scope}{n:Nat}{x:Str}(h:sc.names.lookup x=some .cell):∃c,(cellsFrom n sc.names []).lookup x=some c:=by
 have q:=PySem.W.cellsFrom_some sc.names n [] (.inl h)
 exact Option.isSome_iff_exists.mp q

theorem P9{CX:CXT}{P:Program}{w:World}{K:W.Frag}{mg:Str→Option Value}{base:Heap}{N ps:List Str}{qual:Str}{scope:Scope}{f:Addr}{cd:Value}{A:Around}{outer:List Env}{s s1:Shared}{H:Hp}{E:XK}{us:List Value}{vs:List V}(S:FnScope N ps scope)(hd:A.handled=none)(e0:Env0 P w K mg base A outer s H)(hl:vs.length=ps.length)(r:Vals vs us)(x:InCallC s s.heap.objs.size (bindL (envOfC qual scope s.heap.objs.size f cd).kindOf (ps.zip us) fun _=>none) (cellsFrom (s.heap.objs.size+1) scope.names []) (bindC (envOfC qual scope s.heap.objs.size f cd).kindOf (ps.zip us) fun _=>none) s1) :
  Inv (Mn CX P w K mg base N qual scope f cd A outer s H E) [] (start N vs) H s1:=by
 have hpl:ps.length≤N.length:=by have:=congrArg List.length S.pre;rw[List.length_take] at this;omega
 obtain⟨h1,tk,rfl,hk⟩:=x.done
 have noA:∀b:Addr,b ∉ (Mn CX P w K mg base N qual scope f cd A outer s H E).ex:=fun b z=>absurd (show b∈([]:List Addr) from z) (by simp)
 refine⟨⟨e0.mod,S.kind,rfl,rfl,Nat.le_refl _,fun y z c h1 h2=>?_,fun y hy=>?_,fun y c _ h=>?_,fun _=>hd,Around.frames_deeper e0.frames,.inr ⟨rfl,rfl⟩,fun b z=>absurd z (noA b),e0.bs,e0.bsz,fun b _ _=>noA b,fun b z=>absurd z (noA b),e0.funs,e0.frf⟩,
  rfl,e0.bare,Un.kept hk,⟨_,x.toInCall.ns,fun i y v h1 h2 h3=>?_⟩,fun y c h=>⟨_,x.cell y c h⟩,e0.hok.fresh (Nat.le_refl _),fun y c h=>?_,fun p hp=>absurd (show p∈([]:List (Addr×Obj)) from hp) (by simp),e0.hok.kept hk,?_⟩
 ·exact name_of_addr x.apart (PySem.mem_of_lookup h1) (PySem.mem_of_lookup h2)
 ·have hy:scope.names.lookup y=some .cell∨scope.names.lookup y=some .free:=hy
  rcases hy with hy|hy
  ·exact Lq hy
  ·exact absurd rfl (S.nofree _ (PySem.mem_of_lookup hy))
 ·exact Nat.le_of_lt (x.above y c (PySem.mem_of_lookup h))
 ·have hi:i<vs.length:=by
   unfold start at h2
   by_cases hi:i<vs.length
   ·exact hi
   ·rw[List.getElem?_append_right (by simpa using hi)] at h2
    rw[List.getElem?_replicate] at h2
    split at h2<;>cases h2
  have ha:vs[i]? = some v:=by
   unfold start at h2
   rw[List.getElem?_append_left (by simpa using hi),List.getElem?_map] at h2
   cases e:vs[i]? with
   |none=>rw[e] at h2;cases h2
   |some a=>rw[e] at h2;cases h2;rfl
  obtain⟨u,hu,rv⟩:=r.get ha
  have hp:ps[i]? = some y:=by
   rw[←S.pre,List.getElem?_take_of_lt (by omega)];exact h1
  have ndP:ps.Nodup:=by rw[←S.pre];exact S.nd.sublist (List.take_sublist _ _)
  refine⟨u,rv,?_⟩
  rcases S.par y (List.mem_of_getElem? hp) with k|k
  ·exact .inl ⟨k,Iw ndP hp hu k⟩
  ·obtain⟨c,e⟩:=Lq (n:=s.heap.objs.size+1) k
   refine .inr ⟨.inl k,c,e,?_⟩
   have q:=x.cell y c e
   rw[Iy ndP hp hu (by show scope.names.lookup y≠_;rw[k];decide)] at q
   exact q
 ·exact e0.hok.fresh (Nat.le_of_lt (x.above y c (PySem.mem_of_lookup h)))
 ·unfold start
  show _=N.length
  rw[List.length_append,List.length_map,List.length_replicate]
  omega

theorem Zz{CX:CXT}{P:Program}{w:World}{K:W.Frag}{mg:Str→Option Value}{base:Heap}{k:Nat}{f:Addr}{name qual:Str}{params:Arguments}{body:List Stmt}{scope:Scope}{dV kV doc pm cdv ct oc:Value}{an od:Option Addr}{osl:Array (Option Value)}{N ps:List Str}{sp:Sp}(lk:K.lookup f=some ⟨oc,od,.func (PySem.W.fnOf name qual params body scope dV kV doc pm an cdv ct),osl⟩)(hcd:PySem.W.codeIn K cdv qual=true)(S:FnScope N ps scope)(len:∀vs H Q E,sp vs H Q E→vs.length=ps.length)(hbody:∀(A:Around) (outer:List Env) (s:Shared) (H:Hp) (vs:List V) (Q:VK) (E:XK),Room k (A.deeper (envOfC qual scope s.heap.objs.size f cdv))→sp vs H Q E→
   ∃t,PSs (Mn CX P w K mg base N qual scope f cdv A outer s H E) body t∧t { nx:=fun _ H'=>Q .non H',rt:=Q } (start N vs) H) :
  FnOk P w K mg base CX (k+1) f (PySem.W.fnOf name qual params body scope dV kV doc pm an cdv ct) ps sp:=by
 refine⟨len,fun A outer s H args us vs Q E hr e0 hb r hsp=>?_⟩
 have hl:=len _ _ _ _ hsp
 have KX:K.In s.heap:=e0.mod.kin.keeps fun b o e=>(e0.bs b o e).1
 have lim:s.heap.NoLimit:=e0.mod.nolimit.keeps fun b o e=>(e0.bs b o e).1
 have hkind:∀y∈ps.zip us,scope.names.lookup y.1=some .local∨(scope.names.lookup y.1=some .cell∧((cellsFrom (s.heap.objs.size+1) scope.names []).lookup y.1).isSome=true):=fun⟨n,v⟩ hy=>by
  rcases S.par n (List.of_mem_zip hy).1 with q|q
  ·exact .inl q
  ·exact .inr ⟨q,PySem.W.cellsFrom_some _ _ _ (.inl q)⟩
 refine codeAny_call_function hr.depth (KX _ _ lk) rfl S.co S.gen rfl (PySem.W.codeRec_of KX hcd) (hb _ _ _ _ ?_)
 refine wpAny_newFunctionEnv_cells S.kind hkind fun env he s1 x=>?_
 subst he
 refine⟨lim.keeps x.toInCall.keep,codeAny_func ?_⟩
 obtain⟨t,ht,hq⟩:=hbody A outer s H vs Q E (hr.deeper _) hsp
 have I:Inv (Mn CX P w K mg base N qual scope f cdv A outer s H E) [] (start N vs) H s1:=P9 S hr.hd e0 hl r x
 refine wpAny_mono (ht [] s1 (start N vs) H _ I hq) (fun fl s' hs=>?_) fun e s' hs=>hs
 have fin:∀{σ':St} {H':Hp} {v:V} {u:Value},Inv (Mn CX P w K mg base N qual scope f cdv A outer s H E) [] σ' H' s'→RelV v u→Q v H'→CE outer P w H s Q u s':=
  fun {σ' H' v u} J rv q=>⟨v,H',J.os,J.bare,J.base,J.hok,rv,q⟩
 cases fl with
 |ret u=>
  obtain⟨v,σ',H',J,rv,q⟩:=hs
  exact fin J rv q
 |next=>
  obtain⟨σ',H',J,q⟩:=hs
  exact fin (v:=V.non) (u:=Value.none) J rfl q
 |brk=>
  obtain⟨_,_,_,q⟩:=hs
  exact False.elim q
 |cont=>
  obtain⟨_,_,_,q⟩:=hs
  exact False.elim q
end L2
namespace L2
open PySem PySem.Spec PyProof.Rows
section
variable{X:Cx}{x:Str}{p pos:Pos}{e:Expr}{es:List Expr}{t:TA}{id T:String}{r:List V→Hp→VK→Prop}
def tCB(r:List V→Hp→VK→Prop)(t:TA):TE:=fun σ H Q=>t σ H fun vs H1=>r vs H1 Q
theorem K5(hc:CallR X (.builtin id) r)(hg:Gl X x)(hm:X.mg x=none)(hv:bootBuiltins x=some (.builtin id))(ha:PA X (e::es) t)(hn:x≠"__name__":=by decide)(hdb:(x == ("__debug__" : Str))=false:=by decide)(he:starEach (e::es) X.env=(false,eval e X.env)::starEach es X.env:=by rfl)(hpl:(backTo pos (starEach es X.env)).any (·.1)=false:=by rfl):PE X (.Call (.Name x p) (e::es) [] pos) (tCB r t):=by
 intro pins s σ H Q I h
 refine wpAny_Call_Name_kw (Jn I hg hm hv ?_ hn hdb)
 exact PyProof.Rows.callWith_builtin1 (thn (ha pos pins s σ H _ I h) fun us s1 ⟨vs,H1,I1,r1,q1⟩=>hc pins s1 σ H1 vs us Q I1 r1 q1) he hpl
theorem Ie(hc:CallR X (.type T) r)(hg:Gl X x)(hm:X.mg x=none)(hv:bootBuiltins x=some (.type T))(ha:PA X (e::es) t)(hn:x≠"__name__":=by decide)(hdb:(x == ("__debug__" : Str))=false:=by decide)(he:starEach (e::es) X.env=(false,eval e X.env)::starEach es X.env:=by rfl)(hpl:(backTo pos (starEach es X.env)).any (·.1)=false:=by rfl):PE X (.Call (.Name x p) (e::es) [] pos) (tCB r t):=by
 intro pins s σ H Q I h
 refine wpAny_Call_Name_kw (Jn I hg hm hv ?_ hn hdb)
 exact PyProof.Rows.callWith_type1 (thn (ha pos pins s σ H _ I h) fun us s1 ⟨vs,H1,I1,r1,q1⟩=>hc pins s1 σ H1 vs us Q I1 r1 q1) he hpl
end
end L2
namespace HT
open PySem PyProof.Rows
section
open PySem.SeqAt
open PySem.AutoSeq1 (wpAny_loadPart')
open PySem.MeetsSeq PySem.MeetsSeq2 PySem.MeetsSeq3
end
section
variable{prog:Program}{w:World}{A:Around}{E:Value→Shared→Prop}{s:Shared}
theorem cat_tup{t b:Addr}{vs ws:List Value}{Q:Value→Shared→Prop}(ht:IsTup s.heap t vs.toArray)(hb:IsTup s.heap b ws.toArray)(hv:vs≠[])(h1:ws=[]→Q (.ref t) s)(h2:ws≠[]→Q (.ref s.heap.objs.size) { s with heap:=s.heap.push { cls:=.type "tuple",data:=.seq (vs++ws).toArray } })(hsz:vs.length+ws.length≤sizeLine):wpAny (model prog w) A (binaryOp .Add (.ref t) (.ref b)) Q E s:=by
 obtain⟨⟨cls,dd,data,sl⟩,ho,hc,n,hd⟩:=id ht
 obtain⟨⟨cls2,dd2,data2,sl2⟩,ho2,hc2,n2,hd2⟩:=id hb
 simp only at hc hd hc2 hd2
 subst hc hd hc2 hd2
 have e:vs.toArray++ws.toArray=(vs++ws).toArray:=by simp
 by_cases hw:ws=[]
 ·exact concat_meets ⟨_,ho,rfl⟩ ⟨_,ho2,rfl⟩ noFill_tuple_add seq_tuple_add PySem.F.slot_tuple_add PySem.F.entry_tuple_add (PySem.F.args_tuple_add_2 _ _)
   (tuple_addW1 t b vs.toArray ws.toArray n n2 dd dd2 sl sl2 (by simpa using hv) (by simp[hw])) ⟨ho,ho2,h1 hw⟩
 ·refine concat_meets ⟨_,ho,rfl⟩ ⟨_,ho2,rfl⟩ noFill_tuple_add seq_tuple_add PySem.F.slot_tuple_add PySem.F.entry_tuple_add (PySem.F.args_tuple_add_2 _ _)
   (tuple_addW2 t b vs.toArray ws.toArray n n2 dd dd2 sl sl2 (by simpa using hv) (by simpa using hw) (by rw[List.size_toArray,List.size_toArray];exact hsz)) ⟨ho,ho2,?_⟩
  rw[e]
  exact h2 hw

def sIx(n d:Nat):Option Int→Nat
 |none=>d
 |some v=>if v<0 then (v+(n:Int)).toNat else min v.toNat n
theorem Xc(n d:Nat)(hd:d≤n)(o:Option Int):sIx n d o≤n:=by
 cases o with
 |none=>exact hd
 |some v=>
  show(if v<0 then (v+(n:Int)).toNat else min v.toNat n)≤n
  by_cases hv:v<0
  ·rw[if_pos hv];omega
  ·rw[if_neg hv];exact Nat.min_le_right _ _
theorem Ov(v:Int)(n d:Nat):(if v<0 then max (v+(n:Int)) 0 else min v (n:Int))=((sIx n d (some v):Nat):Int):=by
 show(if v<0 then max (v+(n:Int)) 0 else min v (n:Int))=(((if v<0 then (v+(n:Int)).toNat else min v.toNat n):Nat):Int)
 by_cases hv:v<0
 ·simp only[if_pos hv];omega
 ·simp only[if_neg hv];omega
theorem Nm(lo hi:Option Int)(n:Nat):Builtin.Slice.sliceAdjust lo hi 1 (n:Int)=(((sIx n 0 lo:Nat):Int),((sIx n n hi:Nat):Int)):=by
 have h1:¬((1:Int)<0):=by omega
 unfold Builtin.Slice.sliceAdjust
 simp only[h1,if_false]
 refine Prod.ext ?_ ?_
 ·cases lo with
  |none=>rfl
  |some v=>exact Ov v n 0
 ·cases hi with
  |none=>rfl
  |some v=>exact Ov v n n
theorem M7(i j:Nat):Builtin.Slice.slicePlaces (i:Int) (j:Int) 1=j-i:=by
 unfold Builtin.Slice.slicePlaces
 have h1:(1:Int)>0:=by omega
 simp only[h1,if_true,Int.ediv_one]
 split<;>omega
theorem slicePart_{v:Value}{o:Option Int}{Q:Option Int→Shared→Prop}(p:IsPart v o)(h:Q o s):wpAny (model prog w) A (Builtin.Slice.slicePartIndex v) Q E s:=by
 cases p with
 |none=>exact slicePart_none h
 |int i t=>exact slicePart_int h
theorem sliceApplied_gen{sl:Addr}{vl vu:Value}{lo hi:Option Int}{n:Nat}{Q:Int×Int×Nat→Shared→Prop}(hs:s.heap.IsSliceOf sl vl vu .none)(pl:IsPart vl lo)(pu:IsPart vu hi)(h:Q (((sIx n 0 lo:Nat):Int),1,sIx n n hi-sIx n 0 lo) s):wpAny (model prog w) A (Builtin.Slice.sliceApplied (.ref sl) (pure (n:Int))) Q E s:=by
 obtain⟨os,hos,hcs,hds⟩:=id hs
 unfold Builtin.Slice.sliceApplied Builtin.Slice.sliceFields
 refine wpAny_bind (wpAny_bind (wpAny_field hos hds (x:=vl) rfl (wpAny_bind (wpAny_field hos hds (x:=vu) rfl (wpAny_bind (wpAny_field hos hds (x:=.none) rfl (wpAny_pure ?_)))))))
 refine wpAny_bind (slicePart_none ?_)
 show wpAny _ _ (if ((1:Int) == 0)=true then _ else _) _ _ s
 rw[if_neg (by decide)]
 refine wpAny_bind (slicePart_ pl (wpAny_bind (slicePart_ pu (wpAny_bind (wpAny_pure ?_)))))
 show wpAny _ _ (match Builtin.Slice.sliceAdjust lo hi 1 (n:Int) with|(lo,hi)=>pure (lo,(1:Int),Builtin.Slice.slicePlaces lo hi 1)) _ _ s
 rw[Nm lo hi n]
 show wpAny _ _ (pure (((sIx n 0 lo:Nat):Int),(1:Int),Builtin.Slice.slicePlaces ((sIx n 0 lo:Nat):Int) ((sIx n n hi:Nat):Int) 1)) _ _ s
 rw[M7]
 exact wpAny_pure h
theorem So(xs:Array Value)(i k:Nat):((List.range k).filterMap fun(m:Nat)=>xs[((i:Int)+(m:Int)*1).toNat]?).toArray=((xs.toList.drop i).take k).toArray:=by
 have e:(fun(m:Nat)=>xs[((i:Int)+(m:Int)*1).toNat]?)=fun m=>xs[i+m]?:=by
  funext m
  have:((i:Int)+(m:Int)*1).toNat=i+m:=by omega
  rw[this]
 rw[e]
 have:=pick_run xs i k
 rw[List.filterMap_map] at this
 have e2:((fun x=>xs[x]?) ∘ fun x=>i+x)=fun m=>xs[i+m]?:=rfl
 rw[e2] at this
 rw[this]

theorem getItem_tuple_cut{t sl:Addr}{items:Array Value}{vl vu:Value}{lo hi:Option Int}{Q:Value→Shared→Prop}(ht:IsTup s.heap t items)(hs:s.heap.IsSliceOf sl vl vu .none)(pl:IsPart vl lo)(pu:IsPart vu hi)(hw:¬(sIx items.size 0 lo=0∧sIx items.size items.size hi=items.size))(h:Q (.ref s.heap.objs.size) { s with heap:=s.heap.push { cls:=.type "tuple",data:=.seq ((items.toList.drop (sIx items.size 0 lo)).take (sIx items.size items.size hi-sIx items.size 0 lo)).toArray } })(hsz:items.size≤sizeLine):wpAny (model prog w) A (getItem (.ref t) (.ref sl)) Q E s:=by
 have htake:sizeOk (.seq ((items.toList.drop (sIx items.size 0 lo)).take (sIx items.size items.size hi-sIx items.size 0 lo)).toArray):=by
  show((items.toList.drop (sIx items.size 0 lo)).take (sIx items.size items.size hi-sIx items.size 0 lo)).toArray.size≤sizeLine
  rw[List.size_toArray,List.length_take,List.length_drop,Array.length_toList]
  omega
 have hj:sIx items.size items.size hi≤items.size:=Xc _ _ (Nat.le_refl _) hi
 obtain⟨os,hos,hcs,hds⟩:=id hs
 have hTs:s.TypeIs (.ref sl) "slice":=⟨os,hos,hcs⟩
 unfold getItem
 try with_reducible refine wpAny_holding ?_
 first|refine wpAny_bind (wpAny_pure ?_)|skip
 refine wpAny_bind (wpAny_sequenceKey ht.typeIs (by decide) ?_)
 refine wpAny_bind (wpAny_callSpecial?_slot (name:=Str.ofString "__getitem__") ht.typeIs PyProof.Rows.slot_tuple_getitem
  (wpAny_call_entry PyProof.Rows.slot_tuple_getitem ht.typeIs entry_tuple_getitem ?_ (args_tuple_getitem _ _)))
 show wpAny _ _ (Builtin.Tuple.tupleItemsOf (.ref t) >>= _) _ _ s
 refine wpAny_bind (tupleItemsOf_ ht ?_)
 refine wpAny_bind (wpAny_typeOf hTs ?_)
 rw[if_pos (by decide)]
 refine wpAny_bind (sliceApplied_gen hs pl pu ?_)
 have hno:¬((((sIx items.size 0 lo:Nat):Int) == 0&&(1:Int) == 1&&(sIx items.size items.size hi-sIx items.size 0 lo) == items.size)=true):=by
  intro q
  rw[Bool.and_eq_true,Bool.and_eq_true] at q
  have q1:((sIx items.size 0 lo:Nat):Int)=0:=eq_of_beq q.1.1
  have q2:sIx items.size items.size hi-sIx items.size 0 lo=items.size:=eq_of_beq q.2
  exact hw ⟨by omega,by omega⟩
 show wpAny _ _ (if (((sIx items.size 0 lo:Nat):Int) == 0&&(1:Int) == 1&&(sIx items.size items.size hi-sIx items.size 0 lo) == items.size)=true then _ else _) _ _ s
 rw[if_neg hno,So]
 first
  |exact wpAny_bind (m:=Builtin.Tuple.tupleExact _) (wpAny_newObj_type (wpAny_pure ⟨_,rfl,wpAny_pure h⟩) htake)
  |exact wpAny_bind (m:=Builtin.Tuple.tupleExact _) (wpAny_newObj_type (wpAny_bind (wpAny_pure (wpAny_pure ⟨_,rfl,wpAny_pure h⟩))) htake)
  |exact wpAny_bind (wpAny_bind (m:=Builtin.Tuple.tupleExact _) (wpAny_newObj_type (wpAny_pure (wpAny_pure ⟨_,rfl,wpAny_pure h⟩)) htake))
  |exact wpAny_bind (wpAny_bind (m:=Builtin.Tuple.tupleExact _) (wpAny_newObj_type (wpAny_pure ⟨_,rfl,wpAny_pure h⟩) htake))
end
end HT
namespace L2
open PySem PySem.Spec PyProof.Rows
abbrev TO:=St→Hp→(Option Int→Hp→Prop)→Prop
def PO(X:Cx)(e:Option Expr)(t:TO):Prop:=
 ∀(pins:List (Addr×Obj)) (s:Shared) (σ:St) (H:Hp) (Q:Option Int→Hp→Prop),Inv X pins σ H s→t σ H Q→
  wpAny (model X.prog X.w) X.A (evalPart e X.env) (fun u s'=>∃o H',Inv X pins σ H' s'∧IsPart u o∧Q o H') X.xe s
def Ud:TO:=fun _ H Q=>Q none H
def Za(t:TE):TO:=fun σ H Q=>t σ H fun x H1=>∃i,x=.int i∧Q (some i) H1

section
variable{X:Cx}{e:Expr}{te:TE}{lo hi:Option Expr}{tl th:TO}{pos p2:Pos}
theorem po_none:PO X none Ud:=by
 intro pins s σ H Q I h
 rw[evalPart_none]
 exact wpAny_pure ⟨none,H,I,.none,h⟩
theorem Ux(h:PE X e te):PO X (some e) (Za te):=by
 intro pins s σ H Q I hw
 rw[evalPart_some]
 refine thn (h pins s σ H _ I hw) fun u s1 ⟨x,H1,I1,r1,q1⟩=>?_
 obtain⟨i,rfl,q⟩:=q1
 obtain⟨t,rfl⟩:=r1
 exact⟨some i,H1,I1,.int i t,q⟩

def SlR(X:Cx)(r:V→Option Int→Option Int→Hp→VK→Prop):Prop:=
 ∀(pins:List (Addr×Obj)) (s:Shared) (σ:St) (H:Hp) (x:V) (v vl vu:Value) (lo hi:Option Int) (sl:Addr) (Q:VK),Inv X pins σ H s→RelV x v→s.heap.IsSliceOf sl vl vu .none→IsPart vl lo→IsPart vu hi→r x lo hi H Q→
  ∃T id,typeLookup (.type T) "__getitem__" = pure (some (.builtin id))∧s.TypeIs v T∧wpAny (model X.prog X.w) X.A (getItem v (.ref sl)) (EP X pins σ Q) X.xe s
def tSl(r:V→Option Int→Option Int→Hp→VK→Prop)(te:TE)(tl th:TO):TE:=fun σ H Q=>te σ H fun x H1=>tl σ H1 fun l H2=>th σ H2 fun u H3=>r x l u H3 Q
theorem Ss{r:V→Option Int→Option Int→Hp→VK→Prop}(hr:SlR X r)(he:PE X e te)(hl:PO X lo tl)(hu:PO X hi th):PE X (.Subscript e (.Slice lo hi none p2) pos) (tSl r te tl th):=by
 intro pins s σ H Q I h
 refine Subscript_ (thn (he pins s σ H _ I h) fun v s1 ⟨x,H1,I1,r1,q1⟩=>?_)
 refine wpAny_Slice (thn (hl pins s1 σ H1 _ I1 q1) fun vl s2 ⟨l,H2,I2,pl,q2⟩=>thn (hu pins s2 σ H2 _ I2 q2) fun vu s3 ⟨u,H3,I3,pu,q3⟩=>?_)
 rw[evalPart_none]
 refine wpAny_pure ?_
 have I4:Inv X pins σ H3 { s3 with heap:=s3.heap.push { cls:=.type "slice",data:=.fields #[vl,vu,.none] } }:=I3.kept (t':=s3.toks) fun b ob q=>Heap.get?_push_of_some _ q
 obtain⟨T,id,hT,ht,hg⟩:=hr pins { s3 with heap:=s3.heap.push { cls:=.type "slice",data:=.fields #[vl,vu,.none] } } σ H3 x v vl vu l u s3.heap.objs.size Q I4 r1 (Heap.IsSliceOf.new ..) pl pu q3
 show wpAny (model X.prog X.w) X.A (subscriptTail e (.Slice lo hi none p2) v (.ref s3.heap.objs.size)) (EP X pins σ Q) X.xe { s3 with heap:=s3.heap.push { cls:=.type "slice",data:=.fields #[vl,vu,.none] } }
 exact tail_any (ops:=[.ref s3.heap.objs.size,v]) ht hT hg (by with_unfolding_all rfl)

def Kp(xs:List V)(lo hi:Option Int):List V:=(xs.drop (HT.sIx xs.length 0 lo)).take (HT.sIx xs.length xs.length hi-HT.sIx xs.length 0 lo)
theorem Fk(xs:List V)(lo hi:Option Int):(Kp xs lo hi).length≤xs.length:=by
 unfold Kp
 rw[List.length_take,List.length_drop]
 omega
def rSlT(K:PySem.W.Frag):V→Option Int→Option Int→Hp→VK→Prop:=fun x lo hi H Q=>∃a xs,x=.ref a∧SqT K H a xs∧
 ¬(HT.sIx xs.length 0 lo=0∧HT.sIx xs.length xs.length hi=xs.length)∧∀p,H p=none→Q (.ref p) (upd H p (.tup (Kp xs lo hi)))
theorem W8:SlR X (rSlT X.K):=by
 intro pins s σ H x v vl vu lo hi sl Q I rx hs pl pu h
 obtain⟨a,xs,rfl,hx,hw,q⟩:=h
 cases rx
 obtain⟨its,r,ht,hz⟩:=I.tuple hx
 have hlen:its.toArray.size=xs.length:=by rw[List.size_toArray];exact r.length.symm
 refine⟨"tuple",_,PyProof.Rows.slot_tuple_getitem.lookup,ht.typeIs,?_⟩
 refine HT.getItem_tuple_cut ht hs pl pu (by rw[hlen];exact hw) ?_ (by rw[hlen];exact hz)
 rw[hlen]
 refine⟨.ref s.heap.objs.size,_,I.laid (t':=s.toks) (o:=.tup (Kp xs lo hi)) (fun b ob q=>Heap.get?_push_of_some _ q) (Nat.le_refl _) ?_,rfl,q _ (I.hok.fresh (Nat.le_refl _))⟩
 exact⟨Nat.le_trans (Fk xs lo hi) hz,_,(r.drop (HT.sIx xs.length 0 lo)).take (HT.sIx xs.length xs.length hi-HT.sIx xs.length 0 lo),IsTup.new _ _⟩

def Zj(K:PySem.W.Frag):R2:=fun x y H Q=>∃a b xs ys,x=.ref a∧y=.ref b∧SqT K H a xs∧SqT K H b ys∧xs≠[]∧xs.length+ys.length≤sizeLine∧
 (ys=[]→Q (.ref a) H)∧(ys≠[]→∀p,H p=none→Q (.ref p) (upd H p (.tup (xs++ys))))
theorem Vals.nil_iff{xs:List V}{us:List Value}(r:Vals xs us):us=[]↔xs=[]:=by
 cases r with
 |nil=>simp
 |cons _ _=>simp
theorem U5:OpR X (binaryOp .Add) (Zj X.K):=by
 intro pins s σ H x y v u Q I rx ry h
 obtain⟨a,b,xs,ys,rfl,rfl,ha,hb,hx,hz,q1,q2⟩:=h
 cases rx
 cases ry
 obtain⟨its,r1,p1,_⟩:=I.tuple ha
 obtain⟨its2,r2,p2,_⟩:=I.tuple hb
 refine HT.cat_tup p1 p2 (fun z=>hx (r1.nil_iff.mp z)) (fun z=>⟨.ref a,H,I,rfl,q1 (r2.nil_iff.mp z)⟩) (fun z=>?_) (by rw[←r1.length,←r2.length];exact hz)
 refine⟨.ref s.heap.objs.size,_,I.laid (t':=s.toks) (o:=.tup (xs++ys)) (fun b ob q=>Heap.get?_push_of_some _ q) (Nat.le_refl _) ?_,rfl,q2 (fun w=>z (r2.nil_iff.mpr w)) _ (I.hok.fresh (Nat.le_refl _))⟩
 exact⟨by rw[List.length_append];exact hz,_,r1.append r2,IsTup.new _ _⟩
end
end L2
namespace L2
open PySem PySem.Spec PyProof.Rows
def ixN(n:Nat)(i:Int):Option Nat:=if 0≤i then (if i<n then some i.toNat else none) else if -(n:Int)≤i then some (i+n).toNat else none
def atI{α:Type}(xs:List α)(i:Int):Option α:=(ixN xs.length i).bind fun j=>xs[j]?
theorem Oi{n:Nat}{i:Int}{j:Nat}(h:ixN n i=some j):seqIndex? i n=some j∧j<n∧-(n:Int)≤i∧i<n:=by
 unfold ixN at h
 by_cases h0:0≤i
 ·rw[if_pos h0] at h
  by_cases h1:i<n
  ·rw[if_pos h1] at h
   have e:i.toNat=j:=Option.some.inj h
   exact⟨by rw[seqIndex_of h0 h1,e],by omega,by omega,h1⟩
  ·rw[if_neg h1] at h;cases h
 ·rw[if_neg h0] at h
  by_cases h1 : -(n:Int)≤i
  ·rw[if_pos h1] at h
   have e:(i+n).toNat=j:=Option.some.inj h
   exact⟨by rw[seqIndex_neg (by omega) h1,e],by omega,h1,by omega⟩
  ·rw[if_neg h1] at h;cases h
theorem J1{α:Type}{xs:List α}{i:Int}{v:α}(h:atI xs i=some v):∃j,seqIndex? i xs.length=some j∧xs[j]? = some v∧j<xs.length∧-(xs.length:Int)≤i∧i<xs.length:=by
 unfold atI at h
 cases e:ixN xs.length i with
 |none=>rw[e] at h;cases h
 |some j=>
  rw[e] at h
  obtain⟨h1,h2,h3,h4⟩:=Oi e
  exact⟨j,h1,h,h2,h3,h4⟩
theorem Cp{α:Type}{xs:List α}{j:Nat}{v:α}(h:xs[j]? = some v):atI xs (j:Int)=some v:=by
 have hj:j<xs.length:=(List.getElem?_eq_some_iff.mp h).1
 have e:ixN xs.length (j:Int)=some j:=by
  unfold ixN
  rw[if_pos (by omega),if_pos (by omega)];simp
 unfold atI;rw[e];exact h
def O1(b:Expr):Prop:=∀o i,subscripted b false o i=operate [o,i] (getItem o i)
def IxR(X:Cx)(r:R2):Prop:=
 ∀(value slice:Expr) (pins:List (Addr×Obj)) (s:Shared) (σ:St) (H:Hp) (x y:V) (v u:Value) (Q:VK),Inv X pins σ H s→RelV x v→RelV y u→r x y H Q→
  subscripted slice false v u=operate [v,u] (getItem v u)→wpAny (model X.prog X.w) X.A (subscriptTail value slice v u) (EP X pins σ Q) X.xe s
def MtR(X:Cx)(id:String)(r:V→List V→Hp→VK→Prop):Prop:=
 ∀(pins:List (Addr×Obj)) (s:Shared) (σ:St) (H:Hp) (x:V) (xs:List V) (v:Value) (us:List Value) (Q:VK),Inv X pins σ H s→RelV x v→Vals xs us→r x xs H Q→
  wpAny (model X.prog X.w) X.A (call (.builtin id) (v::us)) (EP X pins σ Q) X.xe s
section
variable{X:Cx}{a b:Expr}{ta tb:TE}{pos:Pos}
theorem IxR.or{r r':R2}(h:IxR X r)(h':IxR X r'):IxR X (fun x y H Q=>r x y H Q∨r' x y H Q):=by
 intro value slice pins s σ H x y v u Q I rx ry q hs
 rcases q with q|q
 ·exact h value slice pins s σ H x y v u Q I rx ry q hs
 ·exact h' value slice pins s σ H x y v u Q I rx ry q hs
theorem Zn{r:R2}(hr:IxR X r)(ha:PE X a ta)(hb:PE X b tb)(hs:O1 b):PE X (.Subscript a b pos) (tOp r ta tb):=by
 intro pins s σ H Q I h
 exact Subscript_ (Ws ha hb I h fun v u s2 x y H2 I2 rx ry q=>hr a b pins s2 σ H2 x y v u Q I2 rx ry q (hs _ _))

def Y1(K:PySem.W.Frag):R2:=fun x y H Q=>∃p xs i v,x=.ref p∧y=.int i∧SqL K H p xs∧atI xs i=some v∧Q v H
def Yz(K:PySem.W.Frag):R2:=fun x y H Q=>∃p xs i v,x=.ref p∧y=.int i∧SqT K H p xs∧atI xs i=some v∧Q v H
def Y0:R2:=fun x y H Q=>∃z i c,x=.str z∧y=.int i∧z.length≤sizeLine∧atI z.cps.toList i=some c∧Q (.str ⟨#[c]⟩) H
theorem ix_list:IxR X (Y1 X.K):=by
 intro value slice pins s σ H x y v u Q I rx ry h hs
 obtain⟨p,xs,i,z,rfl,rfl,hq,he,q⟩:=h
 cases rx
 obtain⟨t,rfl⟩:=ry
 obtain⟨its,r,pl,hz⟩:=I.list hq
 obtain⟨j,h1,h2,h3,h4,h5⟩:=J1 he
 obtain⟨w,ew,rw'⟩:=r.get h2
 have hl:=r.length
 have hn:=E4
 have fin:EP X pins σ Q w s:=⟨z,H,I,rw',q⟩
 by_cases h0:0≤i
 ·have hj:i.toNat=j:=by
   rw[seqIndex_of h0 h5] at h1
   exact Option.some.inj h1
  exact item_listR pl.isList h0 (by omega) (by rw[hj];simpa using ew) fin hs
 ·have hj:(i+(its.toArray.size:Int)).toNat=j:=by
   rw[seqIndex_neg (by omega) h4] at h1
   rw[List.size_toArray,←hl]
   exact Option.some.inj h1
  exact subscriptTail_builtinR (x:=w) pl.isList.typeIs slot_list_getitem.lookup
   (wpAny_getItem_list_neg (Q:=fun r s'=>r=w∧EP X pins σ Q r s') pl.isList (by omega) (by rw[List.size_toArray]<;>omega) (by omega) (by rw[hj];simpa using ew) ⟨rfl,fin⟩) hs
theorem ix_tup:IxR X (Yz X.K):=by
 intro value slice pins s σ H x y v u Q I rx ry h hs
 obtain⟨p,xs,i,z,rfl,rfl,hq,he,q⟩:=h
 cases rx
 obtain⟨t,rfl⟩:=ry
 obtain⟨its,r,pl,hz⟩:=I.tuple hq
 obtain⟨j,h1,h2,h3,h4,h5⟩:=J1 he
 obtain⟨w,ew,rw'⟩:=r.get h2
 have hl:=r.length
 have hn:=E4
 have fin:EP X pins σ Q w s:=⟨z,H,I,rw',q⟩
 exact subscriptTail_builtinR (x:=w) pl.typeIs slot_tuple_getitem.lookup
  (getItem_tuple (j:=j) (Q:=fun r s'=>r=w∧EP X pins σ Q r s') pl (by omega) (by omega) (by rw[List.size_toArray,←hl];exact h1) (by simpa using ew) ⟨rfl,fin⟩) hs
theorem Yk:IxR X Y0:=by
 intro value slice pins s σ H x y v u Q I rx ry h hs
 obtain⟨z,i,c,rfl,rfl,hz,he,q⟩:=h
 obtain⟨t,rfl⟩:=rx
 obtain⟨t',rfl⟩:=ry
 obtain⟨j,h1,h2,h3,h4,h5⟩:=J1 he
 have hl:z.cps.toList.length=z.length:=by simp[Str.length]
 rw[hl] at h1 h4 h5
 have hn:=E4
 exact tail_any (typeIs_str s z t) slot_str_getitem.lookup (getItem_str (c:=c) (by
  have e1:decide (i < -(2 ^ 63:Int))=false:=decide_eq_false (by omega)
  have e2:decide (i ≥ 2 ^ 63)=false:=decide_eq_false (by omega)
  rw[e1,e2,Bool.or_false]) (by rw[h1];simpa using h2) ⟨.str ⟨#[c]⟩,H,I.tok _,⟨_,rfl⟩,q⟩) hs
def rIx(K:PySem.W.Frag):R2:=fun x y H Q=>Y1 K x y H Q∨Yz K x y H Q∨Y0 x y H Q
theorem ix_seq:IxR X (rIx X.K):=ix_list.or (ix_tup.or Yk)

theorem Nc(its:List Value)(n j:Nat)(u:Value):Obj.mapSeq (·.setIfInBounds j u) { cls:=.type "list",data:=.seq its.toArray n }={ cls:=.type "list",data:=.seq (its.set j u).toArray n }:=by
 simp[Obj.mapSeq]
theorem Inv.lst{pins:List (Addr×Obj)}{σ:St}{H:Hp}{s:Shared}{p:Addr}{xs:List V}(I:Inv X pins σ H s)(h:H p=some (.lst xs)) :
  ∃(its:List Value) (n:Nat),Vals xs its∧s.heap.get? p=some { cls:=.type "list",data:=.seq its.toArray n }∧xs.length≤sizeLine:=by
 obtain⟨z,its,n,r,e⟩:=I.hok p _ h
 exact⟨its,n,r,e,z⟩
theorem Inv.lstUpd{pins:List (Addr×Obj)}{σ:St}{H:Hp}{s:Shared}{p:Addr}{xs ys:List V}{its its':List Value}{n n':Nat}{f:Obj→Obj}(I:Inv X pins σ H s)(h:H p=some (.lst xs))(ho:s.heap.get? p=some { cls:=.type "list",data:=.seq its.toArray n })(hf:f { cls:=.type "list",data:=.seq its.toArray n }={ cls:=.type "list",data:=.seq its'.toArray n' })(r:Vals ys its')(hz:ys.length≤sizeLine)(t:Nat) :
  Inv X pins σ (upd H p (.lst ys)) { s with heap:=s.heap.update p f,toks:=t }:=by
 have e:(s.heap.update p f).get? p=some { cls:=.type "list",data:=.seq its'.toArray n' }:=by
  rw[Heap.get?_update_self f ho (by rw[hf]<;>rfl),hf]
 refine I.write (x:=p) (e:=p) (by rw[h];trivial) (.inl rfl) (fun b u hb q=>(Heap.get?_update_other _ _ (Ne.symm hb)).trans q) ⟨_,e⟩ ?_
 exact⟨hz,its',n',r,e⟩
def Zi:V→V→V→Hp→(Hp→Prop)→Prop:=fun o i v H Q=>∃p xs k j,o=.ref p∧i=.int k∧H p=some (.lst xs)∧ixN xs.length k=some j∧Q (upd H p (.lst (xs.set j v)))
theorem set_list:PSet X Zi:=by
 intro pins s σ H o i v ov iv u Q I ro ri rv h
 obtain⟨p,xs,k,j,rfl,rfl,hp,hj,q⟩:=h
 cases ro
 obtain⟨t,rfl⟩:=ri
 obtain⟨its,n,r,ho,hz⟩:=I.lst hp
 obtain⟨h1,h2,h3,h4⟩:=Oi hj
 have hl:=r.length
 have hn:=E4
 have I':Inv X pins σ (upd H p (.lst (xs.set j v))) { s with heap:=s.heap.update p (Obj.mapSeq (·.setIfInBounds j u)) }:=
  I.lstUpd hp ho (Nc its n j u) (r.set rv j) (by rw[List.length_set];exact hz) s.toks
 by_cases h0:0≤k
 ·have hk:k.toNat=j:=by
   rw[seqIndex_of h0 h4] at h1
   exact Option.some.inj h1
  exact PySem.W.ki_setAt ho h0 (by omega) (by rw[List.size_toArray,←hl];exact h4) (by rw[hk];exact⟨_,I',q⟩)
 ·have hk:(k+(its.toArray.size:Int)).toNat=j:=by
   rw[seqIndex_neg (by omega) h3] at h1
   rw[List.size_toArray,←hl]
   exact Option.some.inj h1
  exact PySem.W.ki_setBack ho (by omega) (by rw[List.size_toArray,←hl];exact h3) (by omega) (by rw[hk];exact⟨_,I',q⟩)

theorem J6(lo hi:Option Int)(n:Nat):(sliceBounds lo hi none n).1=((HT.sIx n 0 lo:Nat):Int)∧(sliceBounds lo hi none n).2.1=((HT.sIx n n hi:Nat):Int)∧(sliceBounds lo hi none n).2.2=1:=by
 refine⟨?_,?_,rfl⟩
 ·cases lo with
  |none=>simp[sliceBounds,HT.sIx]
  |some i=>
   simp only[sliceBounds,HT.sIx,Option.getD_none,show(1:Int)>0 by decide,if_true]
   by_cases h:i<0
   ·simp only[h,if_true]<;>omega
   ·simp only[h,if_false]<;>omega
 ·cases hi with
  |none=>simp[sliceBounds,HT.sIx]
  |some i=>
   simp only[sliceBounds,HT.sIx,Option.getD_none,show(1:Int)>0 by decide,if_true]
   by_cases h:i<0
   ·simp only[h,if_true]<;>omega
   ·simp only[h,if_false]<;>omega
theorem Hl(its:List Value)(lo hi:Option Int):slicePick its.toArray lo hi none=((its.drop (HT.sIx its.length 0 lo)).take (HT.sIx its.length its.length hi-HT.sIx its.length 0 lo)).toArray:=by
 obtain⟨h1,h2,h3⟩:=J6 lo hi its.toArray.size
 unfold slicePick
 rw[h1,h2,h3]
 simp only[sliceRange_one,pick_run,List.size_toArray]<;>rfl
def rSlL(K:PySem.W.Frag):V→Option Int→Option Int→Hp→VK→Prop:=fun x lo hi H Q=>∃a xs,x=.ref a∧SqL K H a xs∧∀p,H p=none→Q (.ref p) (upd H p (.lst (Kp xs lo hi)))
theorem Ue:SlR X (rSlL X.K):=by
 intro pins s σ H x v vl vu lo hi sl Q I rx hs pl pu h
 obtain⟨a,xs,rfl,hx,q⟩:=h
 cases rx
 obtain⟨its,r,ht,hz⟩:=I.list hx
 have hlen:=r.length
 refine⟨"list",_,slot_list_getitem.lookup,ht.isList.typeIs,?_⟩
 refine wpAny_getItem_list_slice ht.isList hs pl pu .none (by simp) ?_ (by rw[List.size_toArray]<;>omega)
 rw[Hl,←hlen]
 refine⟨.ref s.heap.objs.size,_,I.laid (t':=s.toks) (o:=.lst (Kp xs lo hi)) (fun b ob q=>Heap.get?_push_of_some _ q) (Nat.le_refl _) ?_,rfl,q _ (I.hok.fresh (Nat.le_refl _))⟩
 exact⟨Nat.le_trans (Fk xs lo hi) hz,_,0,(r.drop (HT.sIx xs.length 0 lo)).take (HT.sIx xs.length xs.length hi-HT.sIx xs.length 0 lo),Heap.get?_push_size _ rfl⟩

theorem call_list_of:CallR X (.type "list") (fun xs H Q=>∃p ys,xs=[.ref p]∧(SqL X.K H p ys∨SqT X.K H p ys)∧∀l,H l=none→Q (.ref l) (upd H l (.lst ys))):=by
 intro pins s σ H xs us Q I r h
 obtain⟨p,ys,rfl,hq,q⟩:=h
 obtain⟨u,rfl,rx⟩:=Dc r
 cases rx
 have fin:∀(its:List Value),Vals ys its→ys.length≤sizeLine→∀(h':Heap) (c':Nat),(∀b o',s.heap.get? b=some o'→h'.get? b=some o')→
   h'.get? s.heap.objs.size=some { cls:=.type "list",dict:=none,data:=.seq its.toArray c',slots:=#[] }→EP X pins σ Q (.ref s.heap.objs.size) { s with heap:=h' }:=fun its r' hz h' c' kp e=>
  ⟨.ref s.heap.objs.size,_,I.laid (t':=s.toks) kp (Nat.le_refl _) (show ObjOk X.prog X.w _ h' _ (.lst ys) from⟨hz,its,c',r',e⟩),rfl,q _ (I.hok.fresh (Nat.le_refl _))⟩
 rcases hq with hq|hq
 ·obtain⟨its,r',pl,hz⟩:=I.list hq
  have hlen:=r'.length
  obtain⟨o,ho,hc,n,hd⟩:=pl.isList
  exact call_list_seq p (.inl rfl) ho hc hd (fun h' c' kp e=>fin its r' hz h' c' kp e) (by simp only[List.size_toArray]<;>omega)
 ·obtain⟨its,r',pl,hz⟩:=I.tuple hq
  have hlen:=r'.length
  obtain⟨o,ho,hc,n,hd⟩:=pl
  exact call_list_seq p (.inr rfl) ho hc hd (fun h' c' kp e=>fin its r' hz h' c' kp e) (by simp only[List.size_toArray]<;>omega)
theorem call_tuple_of:CallR X (.type "tuple") (fun xs H Q=>∃p ys,xs=[.ref p]∧((SqL X.K H p ys∧∀l,H l=none→Q (.ref l) (upd H l (.tup ys)))∨(SqT X.K H p ys∧Q (.ref p) H))):=by
 intro pins s σ H xs us Q I r h
 obtain⟨p,ys,rfl,h⟩:=h
 obtain⟨u,rfl,rx⟩:=Dc r
 cases rx
 rcases h with ⟨hq,q⟩|⟨hq,q⟩
 ·obtain⟨its,r',pl,hz⟩:=I.list hq
  have hlen:=r'.length
  refine call_tuple_list pl.isList (fun h' kp=>?_) (by simp only[List.size_toArray]<;>omega)
  have I1:Inv X pins σ H { s with heap:=h' }:=I.kept (t':=s.toks) kp
  have I2:Inv X pins σ (upd H h'.objs.size (.tup ys)) { s with heap:=h'.push { cls:=.type "tuple",data:=.seq its.toArray } }:=
   I1.laid (t':=s.toks) (fun b o e=>Heap.get?_push_of_some _ e) (Nat.le_refl _) (show ObjOk X.prog X.w _ _ _ (.tup ys) from⟨hz,its,r',IsTup.new _ _⟩)
  exact⟨.ref h'.objs.size,_,I2,rfl,q _ (I1.hok.fresh (Nat.le_refl _))⟩
 ·obtain⟨its,r',pl,hz⟩:=I.tuple hq
  exact call_tuple_same pl ⟨.ref p,H,I,rfl,q⟩

def tyV(K:PySem.W.Frag)(T:String)(x:V)(H:Hp):Prop:=match x with
 |.str _=>T = "str"
 |.int _=>T = "int"
 |.ref p=>(T = "list"∧∃xs,SqL K H p xs)∨(T = "tuple"∧∃o,K.lookup p=some o∧o.cls=.type "tuple"∧o.dict=none)∨
   (T = "dict"∧((∃kvs,H p=some (.dK kvs))∨∃kvs,H p=some (.dT kvs)))∨(T = "set"∧∃S n,H p=some (.set S n))
 |_=>False
theorem Wz{pins:List (Addr×Obj)}{σ:St}{H:Hp}{s:Shared}{T:String}{x:V}{v:Value}(I:Inv X pins σ H s)(r:RelV x v)(ty:tyV X.K T x H) :
  s.TypeIs v T∧∀a,v=.ref a→∃ob,s.heap.get? a=some ob∧ob.dict=none:=by
 cases x with
 |str z=>
  obtain⟨t,rfl⟩:=r
  cases(show T = "str" from ty)
  exact⟨typeIs_str s z t,fun _ e=>nomatch e⟩
 |int i=>
  obtain⟨t,rfl⟩:=r
  cases(show T = "int" from ty)
  exact⟨typeIs_int s i t,fun _ e=>nomatch e⟩
 |ref p=>
  cases r
  rcases ty with ⟨rfl,xs,hq⟩|⟨rfl,o,hk,hc,hd⟩|⟨rfl,hk⟩|⟨rfl,S,n,hk⟩
  ·obtain⟨its,_,pl,_⟩:=I.list hq
   refine⟨pl.isList.typeIs,fun a e=>?_⟩
   cases e
   obtain⟨o,n,e,c,hd,_⟩:=pl
   exact⟨o,e,hd⟩
  ·refine⟨⟨o,I.kIn p o hk,hc⟩,fun a e=>?_⟩
   cases e
   exact⟨o,I.kIn _ o hk,hd⟩
  ·have z:∃o,s.heap.get? p=some o∧o.ExactDict:=by
    rcases hk with ⟨kvs,hk⟩|⟨kvs,hk⟩
    ·obtain⟨_,_,_,_,o,_,_,e,ex,_⟩:=I.hok p _ hk
     exact⟨o,e,ex⟩
    ·obtain⟨_,_,_,_,o,_,_,e,ex,_⟩:=I.hok p _ hk
     exact⟨o,e,ex⟩
   obtain⟨o,e,ex⟩:=z
   refine⟨⟨o,e,ex.1⟩,fun a e2=>?_⟩
   cases e2
   exact⟨o,e,ex.2.1⟩
  ·obtain⟨o,_,_,_,e,ex,_⟩:=I.hok p _ hk
   refine⟨⟨o,e,ex.1⟩,fun a e2=>?_⟩
   cases e2
   exact⟨o,e,ex.2.1⟩
 |_=>exact False.elim ty
def tBM(K:PySem.W.Frag)(T:String)(r:V→List V→Hp→VK→Prop)(to:TE)(t:TA):TE:=fun σ H Q=>to σ H fun x H1=>tyV K T x H1∧t σ H1 fun xs H2=>r x xs H2 Q
variable{o e:Expr}{es:List Expr}{to:TE}{t:TA}{name:Str}{apos cpos:Pos}{T id:String}{r:V→List V→Hp→VK→Prop}
theorem Zo(pa:PlainAttrs T)(slot:Slot T name id)(hty:typeOf (.builtin id)=pure (.type "method_descriptor"))(hm:MtR X id r)(ho:PE X o to)(ha:PA X (e::es) t)(hbase:attributeBase o name X.env (eval o X.env)=eval o X.env:=by rfl)(hfew:((backTo cpos (starEach (e::es) X.env)).all (fun x=>!x.1)&&(backToKw cpos (keywordEach [] X.env)).all (fun x=>x.1.isSome)
   && decide ((e::es).length+([]:List Keyword).length+(if ([]:List Keyword).isEmpty then 0 else 1)<30))=true:=by rfl)(hline:(apos.endLine == cpos.line)=true:=by rfl)(hs:starEach (e::es) X.env=(false,eval e X.env)::starEach es X.env:=by rfl)(hplain:(backTo cpos (starEach es X.env)).any (·.1)=false:=by rfl) :
  PE X (.Call (.Attribute o name apos) (e::es) [] cpos) (tBM X.K T r to t):=by
 intro pins s σ H Q I h
 refine wpAny_Call_method_late hbase hfew hline rfl (thn (ho pins s σ H _ I h) fun v s1 ⟨x,H1,I1,r1,ty,q1⟩=>?_)
 obtain⟨h1,h2⟩:=Wz I1 r1 ty
 refine⟨T,id,pa,slot,hty,h1,h2,?_⟩
 have hA:=ha cpos pins s1 σ H1 _ I1 q1
 rw[hs] at hA ⊢
 refine Calls.callWith_builtin (by show(false||(backTo cpos (starEach es X.env)).any (·.1))=false;rw[hplain]<;>rfl) (Calls.evalArgs_plain ?_)
 exact thn hA fun us s2 ⟨vs,H2,I2,r2,q2⟩=>hm pins s2 σ H2 x vs v us Q I2 r1 r2 q2
end
end L2
namespace L2
open PySem PySem.Spec PyProof.Rows
def MtM(X:Cx)(id:String)(r:V→List V→Hp→VK→Prop):Prop:=
 ∀(pins:List (Addr×Obj)) (s:Shared) (σ:St) (H:Hp) (x:V) (xs:List V) (v:Value) (us:List Value) (Q:VK),Inv X pins σ H s→RelV x v→Vals xs us→r x xs H Q→
  wpAny (model X.prog X.w) X.A (call (.builtin id) (v::us)) (EP X pins σ Q) X.xe s

theorem Vals.one:∀{x:V} {us:List Value},Vals [x] us→∃u,us=[u]∧RelV x u
 |_,_,.cons r .nil=>⟨_,rfl,r⟩
section
variable{X:Cx}{pins:List (Addr×Obj)}{σ:St}{H:Hp}{s:Shared}{l b:Addr}{xs ys zs:List V}
theorem Inv.lset{its its':List Value}{n:Nat}{f:Array Value→Array Value}{t':Nat}(I:Inv X pins σ H s)(hH:H l=some (.lst xs))(e:s.heap.get? l=some { cls:=.type "list",data:=.seq its.toArray n })(hf:f its.toArray=its'.toArray)(hv:Vals ys its')(hz:ys.length≤sizeLine) :
  Inv X pins σ (upd H l (.lst ys)) { s with heap:=s.heap.update l (Obj.mapSeq f),toks:=t' }:=by
 have q:=PySem.IsL.update e f
 rw[hf] at q
 refine I.write (x:=l) (e:=l) (by rw[hH];exact trivial) (.inl rfl) (fun b' u hb hu=>(Heap.get?_update_other s.heap (Obj.mapSeq f) (Ne.symm hb)).trans hu) ⟨_,q⟩ ?_
 exact⟨hz,its',_,hv,q⟩
theorem Inv.lnew{its:List Value}{t':Nat}(I:Inv X pins σ H s)(hv:Vals ys its)(hz:ys.length≤sizeLine) :
  Inv X pins σ (upd H s.heap.objs.size (.lst ys)) { s with heap:=s.heap.push { cls:=.type "list",data:=.seq its.toArray },toks:=t' }:=
 I.laid (fun _ _ q=>Heap.get?_push_of_some _ q) (Nat.le_refl _) ⟨hz,its,0,hv,Heap.get?_push_size _ rfl⟩
theorem Inv.fresh(I:Inv X pins σ H s):H s.heap.objs.size=none:=I.hok.fresh (Nat.le_refl _)
theorem Inv.lstM(I:Inv X pins σ H s)(hH:H l=some (.lst xs)):xs.length≤sizeLine∧∃(its:List Value) (n:Nat),Vals xs its∧xs.length=its.length∧s.heap.get? l=some { cls:=.type "list",data:=.seq its.toArray n }:=by
 obtain⟨z,its,n,r,e⟩:=I.hok l _ hH
 exact⟨z,its,n,r,r.length,e⟩

theorem S6{n:Nat}(h:n≤sizeLine):Builtin.List.listTooLong n=false:=by
 unfold Builtin.List.listTooLong
 exact decide_eq_false (by omega)
end
section
variable{X:Cx}
def Um:V→List V→Hp→VK→Prop:=fun x vs H Q=>∃l xs y,x=.ref l∧vs=[y]∧H l=some (.lst xs)∧xs.length<sizeLine∧Q .non (upd H l (.lst (xs++[y])))
theorem Ih:MtM X "list.append" Um:=by
 intro pins s σ H x vs v us Q I rx rv h
 obtain⟨l,xs,y,rfl,rfl,hH,hz,q⟩:=h
 cases rx
 obtain⟨u,rfl,ru⟩:=rv.one
 obtain⟨z,its,n,r,hl,e⟩:=I.lstM hH
 refine call_meets F.slot_list_append ⟨_,e,rfl⟩ F.entry_list_append (F.args_list_append_2 _ _) (PySem.list_append l its.toArray n u (by rw[List.size_toArray];omega)) ⟨e,?_⟩
 refine⟨.non,_,I.lset (its':=its++[u]) hH e (by simp) (r.append (.cons ru .nil)) ?_,rfl,q⟩
 rw[List.length_append,List.length_singleton]
 omega

def Ul:V→List V→Hp→VK→Prop:=fun x vs H Q=>∃l b xs zs,x=.ref l∧vs=[.ref b]∧H l=some (.lst xs)∧H b=some (.lst zs)∧xs.length+zs.length≤sizeLine∧Q .non (upd H l (.lst (xs++zs)))
theorem Yw:MtM X "list.extend" Ul:=by
 intro pins s σ H x vs v us Q I rx rv h
 obtain⟨l,b,xs,zs,rfl,rfl,hH,hB,hz,q⟩:=h
 cases rx
 obtain⟨u,rfl,ru⟩:=rv.one
 cases ru
 obtain⟨z,its,n,r,hl,e⟩:=I.lstM hH
 obtain⟨z2,its2,n2,r2,hl2,e2⟩:=I.lstM hB
 have hsz:its.toArray.size+its2.toArray.size≤sizeLine:=by rw[List.size_toArray,List.size_toArray];omega
 have hlong:¬(!its.toArray.isEmpty&&Builtin.List.listTooLong (its.toArray.size+its2.toArray.size))=true:=by
  rw[S6 hsz,Bool.and_false]
  exact Bool.false_ne_true
 refine call_meets F.slot_list_extend ⟨_,e,rfl⟩ F.entry_list_extend (F.args_list_extend_2 _ _)
  (AutoSeq1.list_extend_list_list_0 l its.toArray n b its2.toArray n2 hlong (by rw[List.size_toArray];omega) (by omega)) ⟨e,e2,?_⟩
 refine⟨.non,_,I.lset (its':=its++its2) hH e (by simp) (r.append r2) ?_,rfl,q⟩
 rw[List.length_append]
 omega

def rCat:R2:=fun x y H Q=>∃l b xs zs,x=.ref l∧y=.ref b∧H l=some (.lst xs)∧H b=some (.lst zs)∧xs.length+zs.length≤sizeLine∧∀p,H p=none→Q (.ref p) (upd H p (.lst (xs++zs)))
theorem X4:OpR X (binaryOp .Add) rCat:=by
 intro pins s σ H x y v u Q I rx ry h
 obtain⟨l,b,xs,zs,rfl,rfl,hH,hB,hz,q⟩:=h
 cases rx
 cases ry
 obtain⟨z,its,n,r,hl,e⟩:=I.lstM hH
 obtain⟨z2,its2,n2,r2,hl2,e2⟩:=I.lstM hB
 refine PySem.P.add_list e e2 ?_ (by rw[List.size_toArray,List.size_toArray];omega)
 have ea:its.toArray++its2.toArray=(its++its2).toArray:=by simp
 rw[ea]
 exact⟨.ref _,_,I.lnew (t':=s.toks) (r.append r2) (by rw[List.length_append];omega),rfl,q _ I.fresh⟩
end
section
variable{prog:Program}{w:World}{A:Around}{E:Value→Shared→Prop}{s:Shared}
end
section
variable{X:Cx}
end
end L2
namespace L2
open PySem PySem.Spec PyProof.Rows
section
variable{κ:Type}[DecidableEq κ]
def Cs(kvs:List (κ×V))(k:κ):Option V:=(kvs.find? fun kv=>decide (kv.1=k)).map (·.2)
def Db(kvs:List (κ×V))(k:κ)(v:V):List (κ×V):=
 if (kvs.any fun kv=>decide (kv.1=k))=true then kvs.map (fun kv=>if kv.1=k then (kv.1,v) else kv) else kvs++[(k,v)]
theorem Gb{p:κ×V}{r:List (κ×V)}{k:κ}(e:p.1=k):Cs (p::r) k=some p.2:=by simp[Cs,List.find?_cons,e]
theorem Gc{p:κ×V}{r:List (κ×V)}{k:κ}(e:¬p.1=k):Cs (p::r) k=Cs r k:=by simp[Cs,List.find?_cons,e]
theorem Ky(k:κ):∀kvs:List (κ×V),(kvs.any fun kv=>decide (kv.1=k))=(Cs kvs k).isSome
 |[]=>rfl
 |p::r=>by
  rw[List.any_cons]
  by_cases e:p.1=k
  ·simp only[Gb e,decide_eq_true e,Bool.true_or,Option.isSome_some]
  ·rw[Gc e,decide_eq_false e,Bool.false_or];exact Ky k r
theorem Di(kvs:List (κ×V))(k:κ)(v:V):(Db kvs k v).length≤kvs.length+1:=by
 unfold Db
 split
 ·rw[List.length_map];omega
 ·rw[List.length_append,List.length_cons,List.length_nil];omega
theorem RelO.isSome_eq{o:Option V}{u:Option Value}(r:RelO o u):o.isSome=u.isSome:=by
 cases o with
 |none=>cases u with
  |none=>rfl
  |some _=>exact(show False from r).elim
 |some _=>cases u with
  |none=>exact(show False from r).elim
  |some _=>rfl
theorem KV.val{kvs:List (κ×V)}{vs:List (κ×Value)}(r:KV kvs vs)(k:κ):RelO (Cs kvs k) (valueAt vs k):=by
 unfold KV at r
 induction r with
 |nil=>exact True.intro
 |@cons p q ps qs h t ih=>
  obtain⟨h1,h2⟩:=h
  by_cases e:p.1=k
  ·have e':q.1=k:=h1.symm.trans e
   have b:valueAt (q::qs) k=some q.2:=by simp[valueAt,List.find?_cons,e']
   rw[Gb e,b];exact h2
  ·have e':¬q.1=k:=fun z=>e (h1.trans z)
   have b:valueAt (q::qs) k=valueAt qs k:=by simp[valueAt,List.find?_cons,e']
   rw[Gc e,b];exact ih
theorem KV.any{kvs:List (κ×V)}{vs:List (κ×Value)}(r:KV kvs vs)(k:κ):(kvs.any fun kv=>decide (kv.1=k))=vs.any fun kv=>decide (kv.1=k):=by
 unfold KV at r
 induction r with
 |nil=>rfl
 |cons h t ih=>rw[List.any_cons,List.any_cons,ih,h.1]
theorem KV.repl{kvs:List (κ×V)}{vs:List (κ×Value)}(r:KV kvs vs)(k:κ){y:V}{u:Value}(ry:RelV y u) :
  KV (kvs.map fun kv=>if kv.1=k then (kv.1,y) else kv) (vs.map fun kv=>if kv.1=k then (kv.1,u) else kv):=by
 unfold KV at r ⊢
 induction r with
 |nil=>exact .nil
 |@cons p q ps qs h t ih=>
  rw[List.map_cons,List.map_cons]
  refine .cons ?_ ih
  obtain⟨h1,h2⟩:=h
  by_cases e:p.1=k
  ·rw[if_pos e,if_pos (h1.symm.trans e)];exact⟨h1,ry⟩
  ·rw[if_neg e,if_neg (fun z=>e (h1.trans z))];exact⟨h1,h2⟩
theorem KV.put{kvs:List (κ×V)}{vs:List (κ×Value)}(r:KV kvs vs)(k:κ){y:V}{u:Value}(ry:RelV y u):KV (Db kvs k y) (stored vs k u):=by
 unfold Db stored
 rw[r.any k]
 by_cases e:(vs.any fun kv=>decide (kv.1=k))=true
 ·rw[if_pos e,if_pos e];exact r.repl k ry
 ·rw[if_neg e,if_neg e];exact Paired.snoc r ⟨rfl,ry⟩
theorem KV.length{kvs:List (κ×V)}{vs:List (κ×Value)}(r:KV kvs vs):kvs.length=vs.length:=Paired.length r
end
theorem Q8{P:Program}{w:World}{k:Key}{u:Value}(r:RelV (kV k) u):(A0 P w).is k u=true:=by
 cases k with
 |inl i=>obtain⟨t,e⟩:=(show ∃t,u=Value.int i t from r);subst e;exact L4 P w i t
 |inr x=>obtain⟨t,e⟩:=(show ∃t,u=Value.str x t from r);subst e;exact L3 P w x t
theorem Im{P:Program}{w:World}:∀{ks:List Key} {us:List Value},Vals (ks.map kV) us→ItemsAre (A0 P w) ks us
 |[],_,r=>by rw[List.map_nil] at r;cases r;exact .nil
 |k::ks,_,r=>by
  rw[List.map_cons] at r
  cases r with
  |cons h t=>exact .cons (Q8 h) (Im t)

abbrev KT(H:Hp):List (List Key×V)→List (List Key×Addr×Value)→Prop:=Paired fun p q=>p.1=q.1∧H q.2.1=some (.tup (p.1.map kV))∧RelV p.2 q.2.2
theorem KT.val{H:Hp}{kvs:List (List Key×V)}{xs:List (List Key×Addr×Value)}(r:KT H kvs xs)(k:List Key):RelO (Cs kvs k) ((atKey xs k).map (·.2)):=by
 induction r with
 |nil=>exact True.intro
 |@cons p q ps qs h t ih=>
  obtain⟨h1,_,h2⟩:=h
  by_cases e:p.1=k
  ·have e':q.1=k:=h1.symm.trans e
   have b:atKey (q::qs) k=some q.2:=by simp[atKey,List.find?_cons,e']
   rw[Gb e,b];exact h2
  ·have e':¬q.1=k:=fun z=>e (h1.trans z)
   have b:atKey (q::qs) k=atKey qs k:=by simp[atKey,List.find?_cons,e']
   rw[Gc e,b];exact ih
theorem KT.repl{H:Hp}{kvs:List (List Key×V)}{xs:List (List Key×Addr×Value)}(r:KT H kvs xs)(k:List Key){y:V}{u:Value}(ry:RelV y u) :
  KT H (kvs.map fun kv=>if kv.1=k then (kv.1,y) else kv) (xs.map (putAt k u)):=by
 induction r with
 |nil=>exact .nil
 |@cons p q ps qs h t ih=>
  rw[List.map_cons,List.map_cons]
  refine .cons ?_ ih
  obtain⟨h1,h2,h3⟩:=h
  unfold putAt
  by_cases e:p.1=k
  ·rw[if_pos e,if_pos (h1.symm.trans e)];exact⟨h1,h2,ry⟩
  ·rw[if_neg e,if_neg (fun z=>e (h1.trans z))];exact⟨h1,h2,h3⟩
theorem KT.put{H:Hp}{kvs:List (List Key×V)}{xs:List (List Key×Addr×Value)}(r:KT H kvs xs)(k:List Key){b:Addr}{y:V}{u:Value}(hb:H b=some (.tup (k.map kV)))(ry:RelV y u) :
  KT H (Db kvs k y) (storedH xs k b u):=by
 have e:(kvs.any fun kv=>decide (kv.1=k))=(atKey xs k).isSome:=by
  rw[Ky,(r.val k).isSome_eq,Option.isSome_map]
 unfold Db storedH
 rw[e]
 by_cases q:(atKey xs k).isSome=true
 ·rw[if_pos q,if_pos q];exact r.repl k ry
 ·rw[if_neg q,if_neg q];exact Paired.snoc r ⟨rfl,hb,ry⟩
theorem KT.keeps{H H':Hp}{kvs:List (List Key×V)}{xs:List (List Key×Addr×Value)}(r:KT H kvs xs)(ht:∀b ys,H b=some (.tup ys)→H' b=some (.tup ys)):KT H' kvs xs:=
 Paired.mapP r fun _ _ z=>⟨z.1,ht _ _ z.2.1,z.2.2⟩

section
variable{P:Program}{w:World}{H:Hp}{h:Heap}{a:Addr}
theorem V2{u:HO}(ok:HOk P w H h)(e:Rd H a u):ObjOk P w H h a u:=e.ok ok
theorem Wf{kvs:List (Key×V)}(ok:HOk P w H h)(e:Rd H a (.dK kvs)):kvs.length≤sizeLine∧(a == sysModules)=false∧∃vs,KV kvs vs∧h.DictOf (A0 P w) a vs:=
 show ObjOk P w H h a (.dK kvs) from V2 ok e
theorem Wg{kvs:List (Key×V)}(ok:HOk P w H h)(e:H a=some (.dK kvs)):kvs.length≤sizeLine∧(a == sysModules)=false∧∃vs,KV kvs vs∧h.DictOf (A0 P w) a vs:=Wf ok (.inl e)
theorem Jo{ks:List Key}(ok:HOk P w H h)(e:H a=some (.tup (ks.map kV))):(tupleKind (A0 P w)).is h ks a:=by
 obtain⟨_,its,r,o,h1,h2,n,h3⟩:=(show ObjOk P w H h a (.tup (ks.map kV)) from ok a _ e)
 exact⟨o,its.toArray,n,h1,h2,h3,by simpa using Im r⟩
theorem Wd{kvs:List (List Key×V)}(ok:HOk P w H h)(e:Rd H a (.dT kvs)):kvs.length≤sizeLine∧(a == sysModules)=false∧
  ∃xs,KT H kvs xs∧h.DictOfH (tupleKind (A0 P w)) a xs:=by
 obtain⟨z,y,xs,r,o,es,ep,h1,h2,h3,h4,h5⟩:=(show ObjOk P w H h a (.dT kvs) from V2 ok e)
 refine⟨z,y,xs,r,o,es,ep,h1,h2,h3,h4,fun x hx=>?_,h5⟩
 have all:∀{l:List (List Key×V)} {m:List (List Key×Addr×Value)},KT H l m→∀x∈m,(tupleKind (A0 P w)).is h x.1 x.2.1:=by
  intro l m q
  induction q with
  |nil=>intro x hx;exact nomatch hx
  |@cons p q ps qs hq t ih=>
   intro x hx
   rcases List.mem_cons.mp hx with e|hx
   ·subst e
    exact Jo ok (by rw[←hq.1];exact hq.2.1)
   ·exact ih x hx
 exact all r x hx
theorem We{kvs:List (List Key×V)}(ok:HOk P w H h)(e:H a=some (.dT kvs)):kvs.length≤sizeLine∧(a == sysModules)=false∧
  ∃xs,KT H kvs xs∧h.DictOfH (tupleKind (A0 P w)) a xs:=Wd ok (.inl e)
end
def DGet(H:Hp)(a:Addr)(y:V)(r:Option V):Prop:=
 (∃kvs k,Rd H a (.dK kvs)∧y=kV k∧r=Cs kvs k)∨∃kvs k b,Rd H a (.dT kvs)∧y=.ref b∧H b=some (.tup (k.map kV))∧r=Cs kvs k
def DPut(H:Hp)(a:Addr)(y v:V)(H':Hp):Prop:=
 (∃kvs k,H a=some (.dK kvs)∧y=kV k∧kvs.length<sizeLine∧H'=upd H a (.dK (Db kvs k v)))∨
 ∃kvs k b,H a=some (.dT kvs)∧y=.ref b∧H b=some (.tup (k.map kV))∧kvs.length<sizeLine∧H'=upd H a (.dT (Db kvs k v))
theorem DGet.k{H:Hp}{a:Addr}{kvs:List (Key×V)}{k:Key}(e:H a=some (.dK kvs)):DGet H a (kV k) (Cs kvs k):=.inl ⟨kvs,k,.inl e,rfl,rfl⟩
theorem DGet.t{H:Hp}{a b:Addr}{kvs:List (List Key×V)}{k:List Key}(e:H a=some (.dT kvs))(eb:H b=some (.tup (k.map kV))):DGet H a (.ref b) (Cs kvs k):=.inr ⟨kvs,k,b,.inl e,rfl,eb,rfl⟩
theorem DPut.k{H:Hp}{a:Addr}{kvs:List (Key×V)}{k:Key}{v:V}(e:H a=some (.dK kvs))(hl:kvs.length<sizeLine):DPut H a (kV k) v (upd H a (.dK (Db kvs k v))):=.inl ⟨kvs,k,e,rfl,hl,rfl⟩
theorem DPut.t{H:Hp}{a b:Addr}{kvs:List (List Key×V)}{k:List Key}{v:V}(e:H a=some (.dT kvs))(eb:H b=some (.tup (k.map kV)))(hl:kvs.length<sizeLine) :
  DPut H a (.ref b) v (upd H a (.dT (Db kvs k v))):=.inr ⟨kvs,k,b,e,rfl,eb,hl,rfl⟩


section
variable{X:Cx}{pins:List (Addr×Obj)}{σ:St}{H:Hp}{s:Shared}{a:Addr}{y v:V}{u r:Value}{o:Option V}{A:Around}{E:Value→Shared→Prop}
theorem Inv.big(I:Inv X pins σ H s):sysModules<s.heap.objs.size:=by
 have h:mainGlobals<s.heap.objs.size:=(I.mod.glob.keeps I.bk).lt
 exact Nat.lt_trans (by decide) h

theorem Vm{Q:Value→Shared→Prop}(hu:A.units+1<cLine)(I:Inv X pins σ H s)(g:DGet H a y o)(ry:RelV y u)(h:∀s',Inv X pins σ H s'→Q (.bool (!o.isSome)) s') :
  wpAny (model X.prog X.w) A (compareOp .NotIn u (.ref a)) Q E s:=by
 rcases g with ⟨kvs,k,e,ey,l⟩|⟨kvs,k,b,e,ey,eb,l⟩
 ·subst ey
  obtain⟨z,hd,vs,rel,dd⟩:=Wf I.hok e
  refine wpAny_notIn_of (Q8 ry) hd dd.mapOf ?_
  rw[←(rel.val k).isSome_eq,←l]
  exact h _ (I.tok _)
 ·subst ey
  cases(show u=Value.ref b from ry)
  obtain⟨z,hd,xs,rel,dd⟩:=Wd I.hok e
  refine wpAny_notIn_heap (tupleKind_room_in1 hu) (Jo I.hok eb) hd dd ?_
  have q:=(rel.val k).isSome_eq
  rw[Option.isSome_map] at q
  rw[←q,←l]
  exact h _ (I.tok _)
theorem Jz{h':Heap}{t':Nat}{ob:HO}(I:Inv X pins σ H s)(mu:Mut (H a))(hs:Heap.SameBut a s.heap h')(he:∃q,h'.get? a=some q)(new:ObjOk X.prog X.w (upd H a ob) h' a ob) :
  Inv X pins σ (upd H a ob) { s with heap:=h',toks:=t' }:=
 I.write (x:=a) (e:=a) mu (.inl rfl) (fun b q hb z=>(hs.2 b hb).trans z) he new
theorem Yp{P:Program}{w:World}{H':Hp}{h':Heap}{kvs:List (Key×V)}{vs:List (Key×Value)}(z:kvs.length≤sizeLine)(hd:(a == sysModules)=false)(rel:KV kvs vs)(dd:h'.DictOf (A0 P w) a vs) :
  ObjOk P w H' h' a (.dK kvs):=⟨z,hd,vs,rel,dd⟩
theorem Qg{H':Hp}{Q:Unit→Shared→Prop}(hu:A.units+1<cLine)(I:Inv X pins σ H s)(g:DPut H a y v H')(ry:RelV y u)(rv:RelV v r)(h:∀s',Inv X pins σ H' s'→Q () s') :
  wpAny (model X.prog X.w) A (setItem (.ref a) u r) Q E s:=by
 rcases g with ⟨kvs,k,e,ey,l,eH⟩|⟨kvs,k,b,e,ey,eb,l,eH⟩
 ·subst ey eH
  obtain⟨z,hd,vs,rel,dd⟩:=Wg I.hok e
  have hz:vs.length≤sizeLine:=by rw[←rel.length];exact z
  have hl:(Db kvs k v).length≤sizeLine:=by have:=Di kvs k v;omega
  refine wpAny_setItem_pairs (hsz:=hz) (Q8 ry) dd fun h' dd' hs=>h _ ?_
  have he:∃q,h'.get? a=some q:=let ⟨q,_,_,hq,_⟩:=dd';⟨q,hq⟩
  exact Jz I (by rw[e];exact True.intro) hs he (Yp hl hd (rel.put k rv) dd')
 ·subst ey eH
  cases(show u=Value.ref b from ry)
  obtain⟨z,hd,xs,rel,dd⟩:=We I.hok e
  have hz:xs.length≤sizeLine:=by rw[←Paired.length rel];exact z
  have hl:(Db kvs k v).length≤sizeLine:=by have:=Di kvs k v;omega
  refine wpAny_setItem_heap (hsz:=hz) (tupleKind_room_in1 hu) (Jo I.hok eb) dd fun h' dd' hs=>h _ ?_
  obtain⟨q,es,ep,hq,h2,h3,h4,_,h5⟩:=dd'
  refine Jz I (by rw[e];exact True.intro) hs ⟨q,hq⟩ ⟨hl,hd,_,(rel.put k eb rv).keeps fun c ys ec=>?_,q,es,ep,hq,h2,h3,h4,h5⟩
  rw[Ar (Nw ec e (fun z=>nomatch z))]
  exact ec
end
section
variable{X:Cx}{pins:List (Addr×Obj)}{σ:St}{H:Hp}{s:Shared}{a:Addr}{kvs:List (Key×V)}{k:Key}{u:Value}{A:Around}{E:Value→Shared→Prop}
end
section
variable{X:Cx}{o i e value:Expr}{pos pos' tpos:Pos}{td ty tv:TE}
end
theorem Lm{P:Program}{w:World}{H:Hp}(h:Heap)(hb:sysModules<h.objs.size):ObjOk P w H (h.push { cls:=.type "dict",data:=.dict #[] }) h.objs.size (.dT []):=
 ⟨Nat.zero_le _,beq_eq_false_iff_ne.mpr (Ne.symm (Nat.ne_of_lt hb)),[],.nil,_,#[],0,Heap.get?_push_size _ rfl,⟨rfl,rfl,rfl⟩,rfl,rfl,List.nodup_nil⟩
def W4:TE:=fun _ H Q=>∀p,H p=none→Q (.ref p) (upd H p (.dT []))
section
variable{X:Cx}{pos:Pos}
theorem pe_dnewT:PE X (.Dict [] [] pos) W4:=fun pins s σ H Q I h=>
 wpAny_Dict_empty ⟨.ref s.heap.objs.size,_,I.laid (a:=s.heap.objs.size) (o:=.dT []) (t':=s.toks) (fun _ _ q=>Heap.get?_push_of_some _ q) (Nat.le_refl _) (Lm s.heap I.big),rfl,h _ (I.hok.fresh (Nat.le_refl _))⟩
end
section
variable{X:Cx}{pins:List (Addr×Obj)}{σ:St}{H:Hp}{s:Shared}{a:Addr}{y d:V}{u r:Value}{o:Option V}{A:Around}{E:Value→Shared→Prop}
end
section
variable{X:Cx}{o e f:Expr}{apos cpos:Pos}{td ty tx:TE}
end
section
variable{X:Cx}{pins:List (Addr×Obj)}{σ:St}{H:Hp}{s:Shared}{a:Addr}{kvs:List (Key×V)}{A:Around}{E:Value→Shared→Prop}
end
section
variable{X:Cx}{pins:List (Addr×Obj)}{σ:St}{H:Hp}{s:Shared}{a:Addr}{y:V}{u:Value}{A:Around}{E:Value→Shared→Prop}
end
end L2
namespace Att
open PySem PySem.W PySem.Calls PyProof.Rows
theorem Fp{P:Params}{h:Heap}:∀(ns:List Int) (vs:List Value),WellAll P h vs (ns.map WData.int)→IntsAre vs ns:=by
 intro ns
 induction ns with
 |nil=>
  intro vs w
  rw[List.map_nil] at w
  cases w
  exact .nil
 |cons n ns ih=>
  intro vs w
  rw[List.map_cons] at w
  cases w with
  |cons a b=>
   cases a
   exact .cons _ _ (ih _ b)

theorem Pl{l:OpenLaw}{n:Nat}(hn:l.most=some n){P:Params}{h:Heap}{args:List WData}{vals:List Value}(hpre:l.row.toRowW.claim.pre args=true)(hwl:WellAll P h vals args) :
  ∃a vs ns,vals=[Value.ref a]∧args=[WData.list (ns.map WData.int)]∧h.get? a=some { cls:=.type "list",data:=.seq vs.toArray }∧IntsAre vs ns∧ns.length≤n:=by
 have hsh:WShape.hasAll [] args [.list .int]=true:=(pre_splitW hpre).1
 have hc:l.pre.holds [] { args:=args }=true:=(pre_splitW hpre).2
 obtain⟨d,r,rfl,h1,h2⟩:=hasAllW_cons hsh
 obtain rfl:=hasAllW_nil h2
 obtain⟨xs,rfl,h3⟩:=hasW_list h1
 obtain⟨ns,rfl⟩:=items_int h3
 have hlen:ns.length≤n:=by
  unfold OpenLaw.pre at hc
  have h4:(WTm.not (.lt (.lit (.int (n:Int))) (.len (.arg 0)))).holds [] { args:=[.list (ns.map .int)] }=true:=by
   have h4:=(holds_andW hc).1
   rw[hn] at h4
   exact h4
  have h5:=condW_of h4 (w_not (w_lt w_lit (w_len_list (w_arg rfl))))
  rw[List.length_map] at h5
  refine Nat.le_of_not_lt fun q=>?_
  have q':(n:Int)<((ns.length:Nat):Int):=by omega
  first
   |(rw[decide_eq_true q'] at h5;exact absurd h5 (by decide))
   |(simp at h5;omega)
 cases hwl with
 |cons w1 w2=>
  cases w2
  cases w1 with
  |list ho hall=>exact⟨_,_,ns,rfl,rfl,ho,Fp ns _ hall,hlen⟩

theorem Pp(l:OpenLaw)(args:List WData):l.row.toRowW.claim.post args (.bool true) args=true:=
 postW_of (r:=l.row.toRowW) (X:=(true == true))
  (show WShape.has [] (.bool true) .bool=true by first|rfl|decide|simp[WShape.has,WShape.arms,WShape.armsAll])
  (show(WTm.eq .res (.lit (.bool true))).value [] { args:=args,res:=some (.bool true),after:=args }=some (.bool (true == true)) from w_eq_bool (w_res rfl) w_lit) rfl

theorem attach_call{l:OpenLaw}{n:Nat}{q:Program}{loose:List Str}{XP:(Str→Option Value)→Heap→Prop}{YP:World→Heap→Prop}{d:DefRec}(hn:l.most=some n)(hdf:d.params.defaults=[])(call:∀(w:World) (s₀ s₁:Shared) (mg mb:Str→Option Value) (fa:Addr) (o:Obj) (pm cd doc:Value) (a:Addr) (vs:List Value) (ns:List Int),
   Ground q loose [] XP w s₀ mg mb s₁.heap→YP w s₁.heap→
   s₁.heap.get? fa=some o→o.data=.func (docDef d.name d.params d.body d.scope pm cd doc)→s₁.heap.CodeRec cd d.name→mg d.name=some (.ref fa)→
   s₁.heap.get? a=some { cls:=.type "list",data:=.seq vs.toArray }→IntsAre vs ns→ns.length≤n→s₁.gens=#[]→
   codeAny (model l.prog w) callerA (.call (.ref fa) ⟨[.ref a],[]⟩) (fun r s'=>r=.ok (.ret (.bool true))∧OldK s₁.heap s'.heap∧s'.os=s₁.os∧AllBare s'.gens) s₁) :
  WalkO q loose XP YP l.row.toRowW d [] (fun f vs=>PySem.call f vs):=by
 intro w s₀ s₁ mg mb G Y fa o pm cd doc dV kV ho hd hcd hD hmg hg args vals as hpre hlay hrd hwl hlo
 obtain rfl:dV=.none:=Dflts.none hD hdf
 obtain rfl:kV=.none:=Dflts.noKw hD
 obtain⟨a,vs,ns,rfl,rfl,hobj,hints,hlen⟩:=Pl hn hpre hwl
 refine enter_call (codeAny_mono (call w s₀ s₁ mg mb fa o pm cd doc a vs ns G Y ho (fd_plain hd) hcd hmg hobj hints hlen hg) fun r s' hq=>?_)
 obtain⟨rfl,h2,h3,h4⟩:=hq
 exact⟨.inl ⟨.bool true,.bool true,[],rfl,fun _=>rfl,.bool true,Pp l _,fun _=>⟨List.Pairwise.nil,fun _ hm=>(nomatch hm)⟩⟩,h2,h3,h4⟩

section
variable{prog:Program}{w:World}{A:Around}{E:Value→Shared→Prop}{s:Shared}{K:Frag}
end
end Att
namespace L2
open PySem PySem.Spec PyProof.Rows
theorem vals_ints:∀{vs:List Value} {ns:List Int},IntsAre vs ns→Vals (ns.map V.int) vs
 |_,_,.nil=>.nil
 |_,_,.cons n t h=>.cons ⟨t,rfl⟩ (vals_ints h)

def Q1(H:Hp):Prop:=∀b,H b=none∨∃o xs,H b=some (.frz o (.lst xs))

theorem Te{P:Program}{w:World}{K:W.Frag}{mg mb:Str→Option Value}{CX:CXT}{k:Nat}{fa a:Addr}{fd:FuncData}{x:Str}{sp:Sp}{s₁:Shared}{vs:List Value}{ns:List Int}(KX:K.In s₁.heap)(hns:s₁.heap.Ns mainGlobals mg)(hb:s₁.heap.Ns builtinsNs mb)(hbb:∀x:Str,x≠"__name__"→mb x=bootBuiltins x)(hlim:s₁.heap.NoLimit)(hsm:∃mm,s₁.heap.Ns sysModules mm)(hbm:∃bm ob,mg "__builtins__" = some (.ref bm)∧bm≠builtinsNs∧s₁.heap.get? bm=some ob∧ob.cls=.type "module"∧ob.dict=some builtinsNs∧ob.data=.plain)(hg:s₁.gens=#[])(ha:s₁.heap.get? a=some { cls:=.type "list",data:=.seq vs.toArray })(hi:IntsAre vs ns)(hl:ns.length≤sizeLine)(hr:Room k callerA)(F:∀base:Heap,K.In base→base.Ns mainGlobals mg→FnOk P w K mg base CX k fa fd [x] sp)(hbind:∀(s:Shared) (u:Value),BindsTo s fd ⟨[u],[]⟩ [(x,u)])(hsp:∀H:Hp,Q1 H→SqL K H a (ns.map V.int)→sp [.ref a] H (fun v _=>v=.bl true) fun _ _ _=>False)(hCX:∀H e s',CX [] H s₁ (fun _ _ _=>False) e s'→False) :
  codeAny (model P w) callerA (.call (.ref fa) ⟨[.ref a],[]⟩) (fun r s'=>r=.ok (.ret (.bool true))∧OldK s₁.heap s'.heap∧s'.os=s₁.os∧AllBare s'.gens) s₁:=by
 have rv:=vals_ints hi
 have lenV:=hi.length
 -- from an abstract heap in which nothing but the script may be tracked
 have core:∀H:Hp,Q1 H→SqL K H a (ns.map V.int)→HOk P w H s₁.heap→(∀b,H b≠none→b=a)→(H a≠none→K.lookup a=none)→
   codeAny (model P w) callerA (.call (.ref fa) ⟨[.ref a],[]⟩) (fun r s'=>r=.ok (.ret (.bool true))∧OldK s₁.heap s'.heap∧s'.os=s₁.os∧AllBare s'.gens) s₁:=by
  intro H hO hS hok hA hK
  have base_of:∀{b:Addr} {o:Obj},s₁.heap.get? b=some o→H b=none→(Ji s₁.heap H).get? b=some o:=fun e n=>Tr e n
  have noA:∀{b:Addr} {o:Obj} {es:Array DictEntry} {ep:Nat},s₁.heap.get? b=some o→o.data=.dict es ep→H b=none:=fun {b o es ep} e d=>by
   cases q:H b with
   |none=>rfl
   |some u=>
    have e':b=a:=hA b (by rw[q];simp)
    subst e'
    rw[ha] at e;cases e
    have d':Data.seq vs.toArray _=Data.dict es ep:=d
    cases d'
  have nsK:∀{b:Addr} {m:Str→Option Value},s₁.heap.Ns b m→(Ji s₁.heap H).Ns b m:=fun {b m} ⟨o,es,ep,e,d,r⟩=>⟨o,es,ep,base_of e (noA e d),d,r⟩
  have hKb:K.In (Ji s₁.heap H):=fun b o e=>base_of (KX b o e) (by
   cases q:H b with
   |none=>rfl
   |some u=>
    have e':b=a:=hA b (by rw[q];simp)
    subst e'
    rw[hK (by rw[q];simp)] at e;cases e)
  have hM:Mod K mg (Ji s₁.heap H):=⟨hKb,nsK hns,let ⟨mm,h1⟩:=hsm;⟨mm,nsK h1⟩,(let ⟨bm,ob,b1,b2,b3,b4,b5⟩:=hbm;⟨bm,ob,b1,b2,base_of b3 (Classical.byContradiction fun q=>by have e':bm=a:=hA bm q;rw[e',ha] at b3;cases b3;exact absurd (Value.type.inj b4) (by decide)),b4,b5⟩),⟨mb,nsK hb,hbb⟩,let ⟨mc,h1,h2⟩:=hlim;⟨mc,nsK h1,h2⟩⟩
  have e0:Env0 P w K mg (Ji s₁.heap H) callerA [] s₁ H:=⟨rfl,hM,fun b o e=>Va e,Nat.le_of_eq (Qb _ _),trivial,fun b hb=>absurd (show b∈([]:List Addr) from hb) (by simp),hok,.of_eq hg⟩
  refine codeAny_mono ((F _ hKb (nsK hns)).run callerA [] s₁ H ⟨[.ref a],[]⟩ [.ref a] [.ref a] _ _ hr e0 (hbind s₁ (.ref a)) (.cons rfl .nil) (hsp H hO hS)) fun r s' h=>?_
  cases r with
  |error e=>exact(hCX H e s' h).elim
  |ok fl=>
   cases fl with
   |next=>exact False.elim h
   |brk=>exact False.elim h
   |cont=>exact False.elim h
   |ret u=>
    obtain⟨v,H',os,bare,un,hok',r',q⟩:=h
    have q':v=.bl true:=q
    subst q'
    obtain rfl:u=Value.bool true:=r'
    refine⟨rfl,OldK.of_keep fun b o e=>?_,os,bare⟩
    cases q:H b with
    |none=>exact un.keep b o e q (by intro z;exact absurd (show b∈([]:List Addr) from z) (by simp)) (by simp)
    |some u=>
     rcases hO b with z|⟨ob,xs,z⟩
     ·rw[q] at z;cases z
     ·have z2:=un.frzs b ob _ z
      obtain⟨e1,_⟩:=hok b _ z
      obtain⟨e2,_⟩:=hok' b _ z2
      rw[e] at e1;cases e1
      exact e2
 cases hk:K.lookup a with
 |some o=>
  -- the script is one of the module's own objects
  have e:=KX a o hk
  rw[ha] at e
  cases e
  refine core (fun _=>none) (fun _=>.inl rfl) (.inr ⟨_,vs.toArray,_,hk,rfl,rfl,rfl,by rw[List.size_toArray,lenV];exact hl,by simpa using rv⟩) (fun b u z=>by have z':(none:Option HO)=some u:=z;cases z') (fun b z=>absurd rfl z) fun z=>absurd rfl z
 |none=>
  refine core (fun b=>if b=a then some (.frz { cls:=.type "list",data:=.seq vs.toArray } (.lst (ns.map V.int))) else none) (fun b=>?_) (.inl (.inr ⟨{ cls:=.type "list",data:=.seq vs.toArray },if_pos rfl⟩)) (fun b u z=>?_) (fun b z=>?_) fun _=>hk
  ·by_cases hb:b=a
   ·exact .inr ⟨_,_,if_pos hb⟩
   ·exact .inl (if_neg hb)
  ·by_cases hb:b=a
   ·have z':=(if_pos hb).symm.trans z
    cases z'
    subst hb
    exact⟨ha,by rw[List.length_map];exact hl,vs,_,rv,ha⟩
   ·have z':=(if_neg hb).symm.trans z
    cases z'
  ·by_cases hb:b=a
   ·exact hb
   ·exact absurd (if_neg hb) z
end L2
namespace L2
open PySem PySem.Spec PyProof.Rows
abbrev KOf{K:W.Frag}{h:Heap}(_:K.In h):PySem.W.Frag:=K

theorem T9{l:PySem.W.OpenLaw}{n k:Nat}{q:Program}{loose:List Str}{XP:(Str→Option Value)→Heap→Prop}{YP:World→Heap→Prop}{d:DefRec}{K:Params→PySem.W.Frag}{CX:World→CXT}{sp:World→Sp}{x:Str}(hi:importsNone q=true)(hn:l.most=some n)(hn2:n≤sizeLine)(hdf:d.params.defaults=[])(hr:Room k callerA)(hY:∀(w:World) (h:Heap),YP w h→(K w.params).In h)(F:∀(w:World) (mg:Str→Option Value) (fa:Addr) (h:Heap),(K w.params).In h→h.Ns mainGlobals mg→mg d.name=some (.ref fa)→
   ∃fd:FuncData,(∀(s:Shared) (u:Value),BindsTo s fd ⟨[u],[]⟩ [(x,u)])∧
    ∀base:Heap,(K w.params).In base→base.Ns mainGlobals mg→FnOk l.prog w (K w.params) mg base (CX w) k fa fd [x] (sp w))(hsp:∀(w:World) (H:Hp) (a:Addr) (ns:List Int),ns.length≤n→Q1 H→SqL (K w.params) H a (ns.map V.int)→sp w [.ref a] H (fun v _=>v=.bl true) fun _ _ _=>False)(hCX:∀(w:World) (H:Hp) (s:Shared) (e:Value) (s':Shared),CX w [] H s (fun _ _ _=>False) e s'→False) :
  PySem.W.WalkO q loose XP YP l.row.toRowW d [] (fun f vs=>PySem.call f vs):=by
 refine Att.attach_call hn hdf fun w s₀ s₁ mg mb fa o pm cd doc a vs ns G Y ho hd hcd hmg hobj hints hlen hg=>?_
 have KX:=hY w _ Y
 obtain⟨fd,hb,hF⟩:=F w mg fa _ KX G.T.g hmg
 exact Te KX G.T.g G.T.b G.T.builtins G.T.nolimit (let ⟨mm,h1,_⟩:=(G.T.seer hi).mods;⟨mm,h1⟩) G.T.bmain hg hobj hints (Nat.le_trans hlen hn2) hr hF hb (fun H hO hS=>hsp w H a ns hlen hO hS) fun H e s'=>hCX w H s₁ e s'
theorem Sa{l:PySem.W.OpenLaw}{n k:Nat}{q:Program}{loose:List Str}{XP:(Str→Option Value)→Heap→Prop}{YP:World→Heap→Prop}{d:DefRec}{K:Params→PySem.W.Frag}{CX:CXT}{sp:PySem.W.Frag→Sp}{x:Str}(hi:importsNone q=true)(hn:l.most=some n)(hn2:n≤sizeLine)(hdf:d.params.defaults=[])(hr:Room k callerA)(hY:∀(w:World) (h:Heap),YP w h→(K w.params).In h)(F:∀(w:World) (mg:Str→Option Value) (fa:Addr) (h:Heap),(K w.params).In h→h.Ns mainGlobals mg→mg d.name=some (.ref fa)→
   ∃fd:FuncData,(∀(s:Shared) (u:Value),BindsTo s fd ⟨[u],[]⟩ [(x,u)])∧
    ∀base:Heap,(K w.params).In base→base.Ns mainGlobals mg→FnOk l.prog w (K w.params) mg base CX k fa fd [x] (sp (K w.params)))(hsp:∀(K:PySem.W.Frag) (H:Hp) (a:Addr) (ns:List Int),ns.length≤n→Q1 H→SqL K H a (ns.map V.int)→sp K [.ref a] H (fun v _=>v=.bl true) fun _ _ _=>False)(hCX:∀(H:Hp) (s:Shared) (e:Value) (s':Shared),CX [] H s (fun _ _ _=>False) e s'→False) :
  PySem.W.WalkO q loose XP YP l.row.toRowW d [] (fun f vs=>PySem.call f vs):=
 T9 (K:=K) (CX:=fun _=>CX) (sp:=fun w=>sp (K w.params)) hi hn hn2 hdf hr hY F (fun w H a ns h1 h2 h3=>hsp (K w.params) H a ns h1 h2 h3) fun _ H s e s'=>hCX H s e s'
end L2
namespace L2
open PySem PySem.Spec PyProof.Rows
def Ei(s:Stmt):Arguments:=match s with
 |.FunctionDef _ a _ _ _ _ _ _ _ _=>a
 |_=>{ posonlyargs:=[],args:=[],vararg:=none,kwonlyargs:=[],kw_defaults:=[],kwarg:=none,defaults:=[] }
def C7(s:Stmt):List Stmt:=match s with
 |.FunctionDef _ _ b _ _ _ _ _ _ _=>b
 |_=>[]
def Ag(s:Stmt):Scope:=match s with
 |.FunctionDef _ _ _ _ _ _ sc _ _ _=>sc
 |_=>{ kind:=.function,names:=[],isGenerator:=false,isCoroutine:=false }

abbrev CX0:CXT:=fun _ _ _ _ _ _=>False
structure Fun(K:PySem.W.Frag)(x qual:Str)(st:Stmt)(f:Addr)(fd:FuncData):Prop where
 ex:∃(oc:Value) (od:Option Addr) (kV doc pm:Value) (an:Option Addr) (cdv ct:Value) (osl:Array (Option Value)),
  fd=PySem.W.fnOf x qual (Ei st) (C7 st) (Ag st) .none kV doc pm an cdv ct∧K.lookup f=some ⟨oc,od,.func fd,osl⟩∧PySem.W.codeIn K cdv qual=true
 kp:PySem.W.keepIn K (.ref f)=true
section
variable{P:Program}{w:World}{K:W.Frag}{mg:Str→Option Value}{base:Heap}
theorem Fun.ok{x qual:Str}{st:Stmt}{f:Addr}{fd:FuncData}{N ps:List Str}{k:Nat}{sp:Sp}(F:Fun K x qual st f fd)(S:FnScope N ps (Ag st))(len:∀vs H Q E,sp vs H Q E→vs.length=ps.length)(hbody:∀(cdv:Value) (A:Around) (outer:List Env) (s:Shared) (H:Hp) (vs:List V) (Q:VK) (E:XK),Room k (A.deeper (envOfC qual (Ag st) s.heap.objs.size f cdv))→sp vs H Q E→
   ∃t,PSs (Mn CX0 P w K mg base N qual (Ag st) f cdv A outer s H E).nox (C7 st) t∧t { nx:=fun _ H'=>Q .non H',rt:=Q } (start N vs) H):FnOk P w K mg base CX0 (k+1) f fd ps sp:=by
 obtain⟨oc,od,kV,doc,pm,an,cdv,ct,osl,rfl,lk,hcd⟩:=F.ex
 refine Zz lk hcd S len fun A outer s H vs Q E hr hsp=>?_
 obtain⟨t,h,q⟩:=hbody cdv A outer s H vs Q E hr hsp
 exact⟨t,h.nox,q⟩
theorem Fun.binds{x qual:Str}{st:Stmt}{f:Addr}{fd:FuncData}{ps:List Str}(F:Fun K x qual st f fd)(h:∀(kV doc pm:Value) (an:Option Addr) (cdv ct:Value) (us:List Value),us.length=ps.length→bindArgs (PySem.W.fnOf x qual (Ei st) (C7 st) (Ag st) .none kV doc pm an cdv ct) ⟨us,[]⟩=pure (ps.zip us)):Binds K fd ps []:=by
 obtain⟨oc,od,kV,doc,pm,an,cdv,ct,osl,rfl,lk,hcd⟩:=F.ex
 exact .all (h kV doc pm an cdv ct)
theorem Yo{x qual:Str}{st:Stmt}{f:Addr}{oc:Value}{od an:Option Addr}{osl:Array (Option Value)}{kV doc pm cdv ct:Value}(l:K.lookup f=some ⟨oc,od,.func (PySem.W.fnOf x qual (Ei st) (C7 st) (Ag st) .none kV doc pm an cdv ct),osl⟩)(c:PySem.W.codeIn K cdv qual=true)(k:PySem.W.keepIn K (.ref f)=true):Fun K x qual st f (PySem.W.fnOf x qual (Ei st) (C7 st) (Ag st) .none kV doc pm an cdv ct):=⟨⟨oc,od,kV,doc,pm,an,cdv,ct,osl,rfl,l,c⟩,k⟩
end
theorem Pg{n:Nat}(h:n≤1000):n<sizeLine:=Nat.lt_of_le_of_lt h (by decide)

section
variable{X:Cx}
end
def Same(H H':Hp):Prop:=∀b o,H b=some o→H' b=some o
theorem Same.trans{H H1 H2:Hp}(a:Same H H1)(b:Same H1 H2):Same H H2:=fun c o h=>b c o (a c o h)
theorem Same.free{H H':Hp}(e:Same H H'){l:Addr}(h:H' l=Option.none):H l=Option.none:=by
 cases q:H l with
 |none=>rfl
 |some o=>
  rw[e l o q] at h
  cases h
section
variable{X:Cx}
end
section
variable{κ:Type}[DecidableEq κ]
end
end L2
namespace D3
open PySem PySem.Spec
open PyProof.Rows hiding St
open L2 hiding St
inductive D where
 |non|bl (b:Bool)|int (i:Int)|str (x:Str)|tup (ds:List D)|ref (a:Addr)|ty (n:String)|lint (ns:List Int)
 deriving Inhabited

def RdI(K:PySem.W.Frag)(H:Hp)(a:Addr)(xs:List V):Prop:=(∃o,H a=some (.frz o (.lst xs)))∨
 ∃(o:Obj) (its:Array Value) (n:Nat),K.lookup a=some o∧o.cls=.type "list"∧o.dict=none∧o.data=.seq its n∧its.size≤sizeLine∧Vals xs its.toList
theorem RdI.sq{K:W.Frag}{H:Hp}{a:Addr}{xs:List V}(h:RdI K H a xs):SqL K H a xs:=h.elim (fun⟨o,e⟩=>.inl (.inr ⟨o,e⟩)) .inr
mutual
inductive DV (K:PySem.W.Frag) (H:Hp):D→V→Prop where
 |non:DV K H .non .non
 |bl (b:Bool):DV K H (.bl b) (.bl b)
 |int (i:Int):DV K H (.int i) (.int i)
 |str (x:Str):DV K H (.str x) (.str x)
 |ref (a:Addr):DV K H (.ref a) (.ref a)
 |ty (n:String):DV K H (.ty n) (.ty n)
 |lint {ns:List Int} {a:Addr} (e:RdI K H a (ns.map V.int)):DV K H (.lint ns) (.ref a)
 |tup {ds:List D} {a:Addr} {xs:List V} (e:H a=some (.tup xs)) (r:DVs K H ds xs):DV K H (.tup ds) (.ref a)
inductive DVs (K:PySem.W.Frag) (H:Hp):List D→List V→Prop where
 |nil:DVs K H [] []
 |cons {d:D} {v:V} {ds:List D} {vs:List V} (h:DV K H d v) (t:DVs K H ds vs):DVs K H (d::ds) (v::vs)
end
structure Ext(H H':Hp):Prop where
 tup:∀b xs,H b=some (.tup xs)→H' b=some (.tup xs)
 frz:∀b o u,H b=some (.frz o u)→H' b=some (.frz o u)
theorem Ext.refl(H:Hp):Ext H H:=⟨fun _ _ h=>h,fun _ _ _ h=>h⟩
theorem Ext.trans{H H1 H2:Hp}(a:Ext H H1)(b:Ext H1 H2):Ext H H2:=⟨fun c xs h=>b.tup c xs (a.tup c xs h),fun c o u h=>b.frz c o u (a.frz c o u h)⟩
theorem Ext.fresh{H:Hp}{p:Addr}{o:HO}(h:H p=none):Ext H (upd H p o):=⟨fun b xs e=>by
 rw[Ar (A9 e h)];exact e,fun b ob u e=>by rw[Ar (A9 e h)];exact e⟩
theorem Ext.write{H:Hp}{p:Addr}{o u:HO}(h:H p=some u)(n:∀xs,u≠.tup xs)(m:∀ob w,u≠.frz ob w):Ext H (upd H p o):=⟨fun b xs e=>by
 rw[Ar (Nw e h fun z=>n xs z.symm)];exact e,fun b ob w e=>by rw[Ar (Nw e h fun z=>m ob w z.symm)];exact e⟩
theorem RdI.ext{K:W.Frag}{H H':Hp}{a:Addr}{xs:List V}(h:RdI K H a xs)(x:Ext H H'):RdI K H' a xs:=h.elim (fun⟨o,e⟩=>.inl ⟨o,x.frz _ _ _ e⟩) .inr
section
variable{K:W.Frag}
mutual
theorem DV.ext{H H':Hp}(x:Ext H H'):∀{d:D} {v:V},DV K H d v→DV K H' d v
 |_,_,.non=>.non
 |_,_,.bl b=>.bl b
 |_,_,.int i=>.int i
 |_,_,.str s=>.str s
 |_,_,.ref a=>.ref a
 |_,_,.ty n=>.ty n
 |_,_,.lint e=>.lint (e.ext x)
 |_,_,.tup e r=>.tup (x.tup _ _ e) (DVs.ext x r)
theorem DVs.ext{H H':Hp}(x:Ext H H'):∀{ds:List D} {vs:List V},DVs K H ds vs→DVs K H' ds vs
 |_,_,.nil=>.nil
 |_,_,.cons h t=>.cons (DV.ext x h) (DVs.ext x t)
end
theorem DVs.length{H:Hp}:∀{ds:List D} {vs:List V},DVs K H ds vs→ds.length=vs.length
 |_,_,.nil=>rfl
 |_,_,.cons _ t=>congrArg (· + 1) t.length
theorem DVs.get{H:Hp}:∀{ds:List D} {vs:List V} {i:Nat} {d:D},DVs K H ds vs→ds[i]? = some d→∃v,vs[i]? = some v∧DV K H d v
 |_,_,_,_,.nil,e=>by simp at e
 |_,_,0,_,.cons h _,e=>by simp at e;subst e;exact⟨_,rfl,h⟩
 |_,_,i+1,d,.cons _ t,e=>by
  obtain⟨v,h1,h2⟩:=DVs.get (i:=i) (d:=d) t (by simpa using e)
  exact⟨v,by simpa using h1,h2⟩
theorem DVs.get'{H:Hp}:∀{ds:List D} {vs:List V} {i:Nat} {v:V},DVs K H ds vs→vs[i]? = some v→∃d,ds[i]? = some d∧DV K H d v
 |_,_,_,_,.nil,e=>by simp at e
 |_,_,0,_,.cons h _,e=>by simp at e;subst e;exact⟨_,rfl,h⟩
 |_,_,i+1,d,.cons _ t,e=>by
  obtain⟨v,h1,h2⟩:=DVs.get' (i:=i) (v:=d) t (by simpa using e)
  exact⟨v,by simpa using h1,h2⟩
theorem DVs.append{H:Hp}:∀{ds es:List D} {vs ws:List V},DVs K H ds vs→DVs K H es ws→DVs K H (ds++es) (vs++ws)
 |_,_,_,_,.nil,s=>s
 |_,_,_,_,.cons h t,s=>.cons h (t.append s)
theorem DVs.set{H:Hp}{d:D}{v:V}(r:DV K H d v):∀{ds:List D} {vs:List V} (i:Nat),DVs K H ds vs→DVs K H (ds.set i d) (vs.set i v)
 |_,_,_,.nil=>.nil
 |_,_,0,.cons _ t=>.cons r t
 |_,_,i+1,.cons h t=>.cons h (DVs.set r i t)
theorem DVs.take{H:Hp}:∀{ds:List D} {vs:List V} (n:Nat),DVs K H ds vs→DVs K H (ds.take n) (vs.take n)
 |_,_,0,_=>.nil
 |_,_,_+1,.nil=>.nil
 |_,_,n+1,.cons h t=>.cons h (t.take n)
theorem DVs.drop{H:Hp}:∀{ds:List D} {vs:List V} (n:Nat),DVs K H ds vs→DVs K H (ds.drop n) (vs.drop n)
 |_,_,0,r=>r
 |_,_,_+1,.nil=>.nil
 |_,_,n+1,.cons _ t=>t.drop n
theorem DVs.ints{H:Hp}:∀{ns:List Int},DVs K H (ns.map D.int) (ns.map V.int)
 |[]=>.nil
 |_::_=>.cons (.int _) DVs.ints
theorem DVs.one{H:Hp}{d:D}{vs:List V}(r:DVs K H [d] vs):∃v,vs=[v]∧DV K H d v:=by
 cases r with|cons h t=>cases t;exact⟨_,rfl,h⟩
theorem DVs.two{H:Hp}{d e:D}{vs:List V}(r:DVs K H [d,e] vs):∃v w,vs=[v,w]∧DV K H d v∧DV K H e w:=by
 cases r with|cons h t=>cases t with|cons h' t'=>cases t';exact⟨_,_,rfl,h,h'⟩

end
inductive GO where
 |lst (ds:List D)
 |dct (kvs:List (List Key×D))
 |dkk (kvs:List (Key×D))
 /-- an instance of the class at C,its attributes -/
 |ins (C:Addr) (fs:List (Str×D))
 /-- the codes that were made within a def;q: how they are called -/
 |tbl (q:Str)
 /-- a thing that never changes,of which ok holds (a function,an exception) -/
 |any (ok:Hp→Addr→Prop)
abbrev Gp:=Addr→Option GO
def Ad(G:Gp)(a:Addr)(o:GO):Gp:=fun b=>if b=a then some o else G b
theorem Aa{G:Gp}{a:Addr}{o:GO}:Ad G a o a=some o:=if_pos rfl
theorem Ao{G:Gp}{a b:Addr}{o:GO}(h:b≠a):Ad G a o b=G b:=if_neg h
theorem Aw{G:Gp}{a:Addr}{o u:GO}:Ad (Ad G a o) a u=Ad G a u:=by
 funext b;unfold Ad;split<;>rfl
theorem E6{G:Gp}{a b:Addr}{o u:GO}(h:a≠b):Ad (Ad G a o) b u=Ad (Ad G b u) a o:=by
 funext c;unfold Ad
 by_cases h1:c=b
 ·by_cases h2:c=a
  ·exact absurd (h2.symm.trans h1) h
  ·simp[h1,Ne.symm h]
 ·by_cases h2:c=a<;>simp[h1,h2,h]
theorem Hy{G:Gp}{a:Addr}{o:GO}(h:G a=some o):Ad G a o=G:=by
 funext b;unfold Ad
 by_cases h1:b=a
 ·subst h1;rw[if_pos rfl,h]
 ·rw[if_neg h1]
theorem gne{G:Gp}{a b:Addr}{o:GO}(h:G a=some o)(h':G b=none):a≠b:=by
 intro e;subst e;rw[h] at h';cases h'

def Yv(o:Obj)(q:Str):Prop:=∃vs t,o.data=.fields vs∧vs[1]? = some (.str q t)
def GOk(K:PySem.W.Frag)(H:Hp)(a:Addr):GO→Prop
 |.lst ds=>∃xs,H a=some (.lst xs)∧DVs K H ds xs
 |.dct kvs=>∃ks,H a=some (.dT ks)∧Paired (fun(p:List Key×D) (q:List Key×V)=>p.1=q.1∧DV K H p.2 q.2) kvs ks
 |.dkk kvs=>∃ks,H a=some (.dK ks)∧Paired (fun(p:Key×D) (q:Key×V)=>p.1=q.1∧DV K H p.2 q.2) kvs ks
 |.ins C fs=>∃dx ks,H a=some (.ins C dx ks)∧Paired (fun(p:Str×D) (q:Str×V)=>p.1=q.1∧DV K H p.2 q.2) fs ks
 |.tbl q=>∃ps,H a=some (.tbl ps)∧TriplesOk ps.toList∧∀pos cv,codeAmong pos ps.toList=some cv→∃c o u,cv=.ref c∧H c=some (.frz o u)∧Yv o q
 |.any ok=>(∃o u,H a=some (.frz o u))∧∀H',Ext H H'→ok H' a
def RelG(K:PySem.W.Frag)(H:Hp)(G:Gp):Prop:=∀a o,G a=some o→GOk K H a o

theorem GOk.upd{K:W.Frag}{H:Hp}{a p:Addr}{o:GO}{u:HO}(h:GOk K H a o)(x:Ext H (L2.upd H p u))(n:H p=none∨a≠p):GOk K (L2.upd H p u) a o:=by
 have ne:∀u,H a=some u→a≠p:=fun u e=>n.elim (fun z=>A9 e z) id
 cases o with
 |lst ds=>obtain⟨xs,e,r⟩:=h;exact⟨xs,by rw[Ar (ne _ e)];exact e,r.ext x⟩
 |dct kvs=>obtain⟨ks,e,r⟩:=h;exact⟨ks,by rw[Ar (ne _ e)];exact e,L2.Paired.mapP r fun _ _ z=>⟨z.1,z.2.ext x⟩⟩
 |dkk kvs=>obtain⟨ks,e,r⟩:=h;exact⟨ks,by rw[Ar (ne _ e)];exact e,L2.Paired.mapP r fun _ _ z=>⟨z.1,z.2.ext x⟩⟩
 |ins C fs=>obtain⟨dx,ks,e,r⟩:=h;exact⟨dx,ks,by rw[Ar (ne _ e)];exact e,L2.Paired.mapP r fun _ _ z=>⟨z.1,z.2.ext x⟩⟩
 |tbl q=>obtain⟨ps,e,t,r⟩:=h;exact⟨ps,by rw[Ar (ne _ e)];exact e,t,fun pos cv h1=>let ⟨c,o,u,a1,a2,a3⟩:=r pos cv h1;⟨c,o,u,a1,x.frz _ _ _ a2,a3⟩⟩
 |any ok=>obtain⟨⟨o,u,e⟩,r⟩:=h;exact⟨⟨o,u,x.frz _ _ _ e⟩,fun H' y=>r H' (x.trans y)⟩
theorem RelG.free{K:W.Frag}{H:Hp}{G:Gp}(r:RelG K H G){p:Addr}(h:H p=none):G p=none:=by
 cases q:G p with
 |none=>rfl
 |some o=>
  have z:=r p o q
  cases o with
  |lst ds=>obtain⟨_,e,_⟩:=z;rw[h] at e;cases e
  |dct ds=>obtain⟨_,e,_⟩:=z;rw[h] at e;cases e
  |dkk ds=>obtain⟨_,e,_⟩:=z;rw[h] at e;cases e
  |ins C fs=>obtain⟨_,_,e,_⟩:=z;rw[h] at e;cases e
  |tbl q=>obtain⟨_,e,_⟩:=z;rw[h] at e;cases e
  |any ok=>obtain⟨⟨_,_,e⟩,_⟩:=z;rw[h] at e;cases e
theorem RelG.tup{K:W.Frag}{H:Hp}{G:Gp}(r:RelG K H G){p:Addr}{u:HO}(h:H p=none):RelG K (upd H p u) G:=fun a o e=>(r a o e).upd (Ext.fresh h) (.inl h)
theorem RelG.ext'{K:W.Frag}{H:Hp}{G G':Gp}(r:RelG K H G)(s:∀a o,G' a=some o→G a=some o):RelG K H G':=fun a o e=>r a o (s a o e)

abbrev DSt:=List (Option D)
abbrev St:=L2.St
def RelS(K:PySem.W.Frag)(H:Hp)(σD:DSt)(σ:St):Prop:=σD.length=σ.length∧∀(i:Nat) d,σD[i]? = some (some d)→∃v,σ[i]? = some (some v)∧DV K H d v
theorem RelS.ext{K:W.Frag}{H H':Hp}{σD:DSt}{σ:St}(r:RelS K H σD σ)(x:Ext H H'):RelS K H' σD σ:=⟨r.1,fun i d e=>let ⟨v,h1,h2⟩:=r.2 i d e;⟨v,h1,h2.ext x⟩⟩
theorem RelS.set{K:W.Frag}{H:Hp}{σD:DSt}{σ:St}(r:RelS K H σD σ){d:D}{v:V}(h:DV K H d v)(i:Nat):RelS K H (σD.set i (some d)) (σ.set i (some v)):=by
 refine⟨by rw[List.length_set,List.length_set];exact r.1,fun j e q=>?_⟩
 by_cases hj:i=j
 ·subst hj
  rw[List.getElem?_set] at q ⊢
  rw[if_pos rfl] at q ⊢
  have hl:=r.1
  split at q
  ·rename_i hi
   cases q
   exact⟨v,by rw[if_pos (by omega)],h⟩
  ·cases q
 ·rw[List.getElem?_set_ne hj] at q ⊢
  exact r.2 j e q

abbrev DK:=D→Gp→Prop
abbrev DTE:=DSt→Gp→DK→Prop
abbrev DTT:=DSt→Gp→(Bool→Gp→Prop)→Prop
abbrev DTA:=DSt→Gp→(List D→Gp→Prop)→Prop
structure DEnds where
 nx:DSt→Gp→Prop
 rt:DK
 bk:DSt→Gp→Prop:=fun _ _=>False
 ct:DSt→Gp→Prop:=fun _ _=>False
abbrev DTS:=DEnds→DSt→Gp→Prop

def Fwd(K:PySem.W.Frag)(H:Hp)(G':Gp)(Q:Hp→Prop):Prop:=∀H',Ext H H'→RelG K H' G'→Q H'
theorem Fwd.go{K:W.Frag}{H H1:Hp}{G':Gp}{Q:Hp→Prop}(f:Fwd K H G' Q)(x:Ext H H1):Fwd K H1 G' Q:=fun H' y r=>f H' (x.trans y) r

def Ct(K:PySem.W.Frag)(t:DTE):TE:=fun σ H Q=>∃σD G Q',RelS K H σD σ∧RelG K H G∧t σD G Q'∧∀d G',Q' d G'→Fwd K H G' fun H'=>∀v,DV K H' d v→Q v H'
def Hr(K:PySem.W.Frag)(t:DTT):TT:=fun σ H Q=>∃σD G Q',RelS K H σD σ∧RelG K H G∧t σD G Q'∧∀b G',Q' b G'→Fwd K H G' fun H'=>Q b H'
def Wa(K:PySem.W.Frag)(t:DTA):TA:=fun σ H Q=>∃σD G Q',RelS K H σD σ∧RelG K H G∧t σD G Q'∧∀ds G',Q' ds G'→Fwd K H G' fun H'=>∀vs,DVs K H' ds vs→Q vs H'
structure DEnds.Reach(K:PySem.W.Frag)(H:Hp)(D:DEnds)(E:Ends):Prop where
 nx:∀σD G',D.nx σD G'→Fwd K H G' fun H'=>∀σ,RelS K H' σD σ→E.nx σ H'
 rt:∀d G',D.rt d G'→Fwd K H G' fun H'=>∀v,DV K H' d v→E.rt v H'
 bk:∀σD G',D.bk σD G'→Fwd K H G' fun H'=>∀σ,RelS K H' σD σ→E.bk σ H'
 ct:∀σD G',D.ct σD G'→Fwd K H G' fun H'=>∀σ,RelS K H' σD σ→E.ct σ H'
theorem DEnds.Reach.go{K:W.Frag}{H H1:Hp}{D:DEnds}{E:Ends}(r:D.Reach K H E)(x:Ext H H1):D.Reach K H1 E:=
 ⟨fun σ G h=>(r.nx σ G h).go x,fun d G h=>(r.rt d G h).go x,fun σ G h=>(r.bk σ G h).go x,fun σ G h=>(r.ct σ G h).go x⟩
def F6(K:PySem.W.Frag)(t:DTS):TS:=fun E σ H=>∃σD G D,RelS K H σD σ∧RelG K H G∧t D σD G∧D.Reach K H E

def QE(X:Cx)(e:Expr)(t:DTE):Prop:=PE X e (Ct X.K t)
def QT(X:Cx)(e:Expr)(t:DTT):Prop:=PT X e (Hr X.K t)
def QW(X:Cx)(e:Expr)(t:DTT):Prop:=PW X e (Hr X.K t)
def QA(X:Cx)(es:List Expr)(t:DTA):Prop:=PA X es (Wa X.K t)
def QS(X:Cx)(s:Stmt)(t:DTS):Prop:=PS X s (F6 X.K t)
def QSs(X:Cx)(s:List Stmt)(t:DTS):Prop:=PSs X s (F6 X.K t)

theorem _root_.L2.PE.imp{X:Cx}{e:Expr}{t t':TE}(h:PE X e t)(f:∀σ H Q,t' σ H Q→t σ H Q):PE X e t':=fun pins s σ H Q I q=>h pins s σ H Q I (f σ H Q q)
theorem _root_.L2.PT.imp{X:Cx}{e:Expr}{t t':TT}(h:PT X e t)(f:∀σ H Q,t' σ H Q→t σ H Q):PT X e t':=fun pins s σ H Q I q=>h pins s σ H Q I (f σ H Q q)
theorem _root_.L2.PW.imp{X:Cx}{e:Expr}{t t':TT}(h:PW X e t)(f:∀σ H Q,t' σ H Q→t σ H Q):PW X e t':=fun w pins s σ H Q I q=>h w pins s σ H Q I (f σ H Q q)
theorem _root_.L2.PA.imp{X:Cx}{e:List Expr}{t t':TA}(h:PA X e t)(f:∀σ H Q,t' σ H Q→t σ H Q):PA X e t':=fun p pins s σ H Q I q=>h p pins s σ H Q I (f σ H Q q)
theorem _root_.L2.PS.imp{X:Cx}{e:Stmt}{t t':TS}(h:PS X e t)(f:∀D σ H,t' D σ H→t D σ H):PS X e t':=fun pins s σ H D I q=>h pins s σ H D I (f D σ H q)
theorem _root_.L2.PSs.imp{X:Cx}{e:List Stmt}{t t':TS}(h:PSs X e t)(f:∀D σ H,t' D σ H→t D σ H):PSs X e t':=fun pins s σ H D I q=>h pins s σ H D I (f D σ H q)

section
variable{X:Cx}{a b c e:Expr}{ta tb tc te:DTE}{pos:Pos}
def Aq(i:Nat):DTE:=fun σ G Q=>∃d,σ[i]? = some (some d)∧Q d G
def nC(d:D):DTE:=fun _ G Q=>Q d G
theorem V3{i:Nat}{x:Str}(hN:X.N[i]? = some x:=by rfl)(hv:Vis X.env.scope x:=by first|exact Or.inl rfl|exact Or.inr (Or.inl rfl)|exact Or.inr (Or.inr rfl))(hd:(x == ("__debug__" : Str))=false:=by decide)(hcd:(x == ("__classdict__" : Str))=false:=by decide):QE X (.Name x pos) (Aq i):=(Xu hN hv hd hcd).imp fun σ H Q ⟨σD,G,Q',rs,rg,⟨d,e,q⟩,cl⟩=>by
 obtain⟨v,e1,r⟩:=rs.2 i d e
 exact⟨v,e1,cl d G q H (Ext.refl H) rg v r⟩
theorem Nv{v:V}{d:D}(h:PE X e (tC v))(r:∀H,DV X.K H d v):QE X e (nC d):=h.imp fun σ H Q ⟨σD,G,Q',rs,rg,q,cl⟩=>cl d G q H (Ext.refl H) rg v (r H)
theorem q_int{i j pos}:QE X (.Constant (.int i) j pos) (nC (.int i)):=Nv Xz fun _=>.int i
theorem q_bl{b j pos}:QE X (.Constant (.bool b) j pos) (nC (.bl b)):=Nv Zp fun _=>.bl b
theorem Xh{x:Str}{i:Int}{t:Tok}(hm:X.mg x=some (.int i t))(hg:Gl X x:=by rfl)(hd:(x == ("__debug__" : Str))=false:=by decide):QE X (.Name x pos) (nC (.int i)):=Nv (v:=.int i) (Uz hg hm ⟨t,rfl⟩ hd) fun _=>.int i
theorem q_globty{x:Str}{n:String}(hm:X.mg x=none)(hv:bootBuiltins x=some (.type n))(hg:Gl X x:=by rfl)(hn:x≠"__name__":=by decide)(hd:(x == ("__debug__" : Str))=false:=by decide):QE X (.Name x pos) (nC (.ty n)):=
 Nv (v:=.ty n) (U2 hg hm hv rfl hn hd) fun _=>.ty n

abbrev DR2:=D→D→Gp→DK→Prop
def Hs(K:PySem.W.Frag)(r:DR2):R2:=fun x y H Q=>∃dx dy G Q',DV K H dx x∧DV K H dy y∧RelG K H G∧r dx dy G Q'∧∀d G',Q' d G'→Fwd K H G' fun H'=>∀v,DV K H' d v→Q v H'
def QOp(X:Cx)(f:Value→Value→Sem Value)(r:DR2):Prop:=OpR X f (Hs X.K r)
theorem _root_.L2.OpR.imp{f:Value→Value→Sem Value}{r r':R2}(h:OpR X f r)(g:∀x y H Q,r' x y H Q→r x y H Q):OpR X f r':=fun pins s σ H x y v u Q I rx ry q=>h pins s σ H x y v u Q I rx ry (g x y H Q q)
def nOp(r:DR2)(ta tb:DTE):DTE:=fun σ G Q=>ta σ G fun x G1=>tb σ G1 fun y G2=>r x y G2 Q
theorem F1{K:W.Frag}{r:DR2}{σ:St}{H:Hp}{Q:VK}(h:Ct K (nOp r ta tb) σ H Q):tOp (Hs K r) (Ct K ta) (Ct K tb) σ H Q:=by
 obtain⟨σD,G,Q',rs,rg,h,cl⟩:=h
 refine⟨σD,G,_,rs,rg,h,fun x G1 h1 H1 x1 rg1 v1 d1=>?_⟩
 refine⟨σD,G1,_,rs.ext x1,rg1,h1,fun y G2 h2 H2 x2 rg2 v2 d2=>?_⟩
 exact⟨x,y,G2,Q',d1.ext x2,d2,rg2,h2,fun d G' q=>(cl d G' q).go (x1.trans x2)⟩
theorem q_op{op:Operator}{r:DR2}(ho:QOp X (binaryOp op) r)(ha:QE X a ta)(hb:QE X b tb):QE X (.BinOp a op b pos) (nOp r ta tb):=(Zm ho ha hb).imp fun _ _ _ h=>F1 h
def dI(C:Int→Int→Prop)(g:Int→Int→D):DR2:=fun x y G Q=>∃i,x=.int i∧∃j,y=.int j∧C i j∧Q (g i j) G
def dI0(g:Int→Int→D):DR2:=fun x y G Q=>∃i,x=.int i∧∃j,y=.int j∧Q (g i j) G
theorem Q3{f:Value→Value→Sem Value}{C:Int→Int→Prop}{g:Int→Int→V}{g':Int→Int→D}(h:OpR X f (rI C g))(e:∀H i j,DV X.K H (g' i j) (g i j)):QOp X f (dI C g'):=L2.OpR.imp h fun x y H Q ⟨dx,dy,G,Q',hx,hy,rg,⟨i,ei,j,ej,c,q⟩,cl⟩=>by
 subst ei ej
 cases hx;cases hy
 exact⟨i,j,rfl,rfl,c,cl _ G q H (Ext.refl H) rg _ (e H i j)⟩
theorem Jm{f:Value→Value→Sem Value}{g:Int→Int→V}{g':Int→Int→D}(h:OpR X f (rI0 g))(e:∀H i j,DV X.K H (g' i j) (g i j)):QOp X f (dI0 g'):=L2.OpR.imp h fun x y H Q ⟨dx,dy,G,Q',hx,hy,rg,⟨i,ei,j,ej,q⟩,cl⟩=>by
 subst ei ej
 cases hx;cases hy
 exact⟨i,j,rfl,rfl,cl _ G q H (Ext.refl H) rg _ (e H i j)⟩
theorem o_sub:QOp X (binaryOp .Sub) (dI0 fun i j=>.int (i-j)):=Jm X1 fun _ _ _=>.int _
theorem Ed:QOp X (binaryOp .Mult) (dI CMul fun i j=>.int (i*j)):=Q3 X2 fun _ _ _=>.int _
theorem Rs:QOp X (binaryOp .FloorDiv) (dI Mo fun i j=>.int (i / j)):=Q3 U4 fun _ _ _=>.int _
theorem Ee:QOp X (binaryOp .Mod) (dI (fun _ j=>0<j) fun i j=>.int (i % j)):=Q3 X3 fun _ _ _=>.int _
theorem Y4:QOp X (compareOp .Lt) (dI0 fun i j=>.bl (decide (i<j))):=Jm Zr fun _ _ _=>.bl _
theorem o_le:QOp X (compareOp .LtE) (dI0 fun i j=>.bl (decide (i≤j))):=Jm Zs fun _ _ _=>.bl _
theorem o_gt:QOp X (compareOp .Gt) (dI0 fun i j=>.bl (decide (j<i))):=Jm Zt fun _ _ _=>.bl _
end
end D3
namespace D3
open PySem PySem.Spec
open PyProof.Rows hiding St
open L2 hiding St
section
variable{K:W.Frag}
theorem RelG.lst{H:Hp}{G:Gp}(r:RelG K H G){p:Addr}{ds:List D}{xs:List V}(hp:H p=none)(rv:DVs K H ds xs):RelG K (upd H p (.lst xs)) (Ad G p (.lst ds)):=fun a o e=>by
 by_cases h:a=p
 ·subst h
  rw[Aa] at e;cases e
  exact⟨xs,A4,rv.ext (Ext.fresh hp)⟩
 ·rw[Ao h] at e
  exact(r a o e).upd (Ext.fresh hp) (.inl hp)
theorem Do{H:Hp}{p:Addr}{xs:List V}{o:HO}(h:H p=some (.lst xs)):Ext H (upd H p o):=Ext.write h (fun _ z=>nomatch z) fun _ _ z=>nomatch z
theorem RelG.lstw{H:Hp}{G:Gp}(r:RelG K H G){p:Addr}{ds:List D}{xs ys:List V}(hp:H p=some (.lst ys))(rv:DVs K H ds xs):RelG K (upd H p (.lst xs)) (Ad G p (.lst ds)):=fun a o e=>by
 by_cases h:a=p
 ·subst h
  rw[Aa] at e;cases e
  exact⟨xs,A4,rv.ext (Do hp)⟩
 ·rw[Ao h] at e
  exact(r a o e).upd (Do hp) (.inr h)
end
section
variable{X:Cx}{a b c e:Expr}{ta tb tc te:DTE}{pos:Pos}
def By(t:DTE):DTT:=fun σ G Q=>t σ G fun x G'=>∃k,x=.bl k∧Q k G'
theorem Ik{K:W.Frag}{t:DTE}{σ:St}{H:Hp}{Q:Bool→Hp→Prop}(h:Hr K (By t) σ H Q):Ct K t σ H fun x H'=>∃k,x=.bl k∧Q k H':=by
 obtain⟨σD,G,Q',rs,rg,h,cl⟩:=h
 refine⟨σD,G,_,rs,rg,h,fun d G' ⟨k,ek,q⟩ H' x r v dv=>?_⟩
 subst ek;cases dv
 exact⟨k,rfl,cl k G' q H' x r⟩
theorem q_cmp{op:CmpOp}{r:DR2}(ho:QOp X (compareOp op) r)(ha:QE X a ta)(hb:QE X b tb)(hm:behindInMarks op b=false):QE X (.Compare a [op] [b] pos) (nOp r ta tb):=(U0 ho ha hb hm).imp fun _ _ _ h=>F1 h
theorem qt_cmp{op:CmpOp}{r:DR2}(ho:QOp X (compareOp op) r)(ha:QE X a ta)(hb:QE X b tb)(hm:behindInMarks op b=false):QT X (.Compare a [op] [b] pos) (By (nOp r ta tb)):=
 (Uu ho ha hb hm).imp fun _ _ _ h=>F1 (Ik h)
def D1(r r':DR2)(ta tb tc:DTE):DTE:=fun σ G Q=>ta σ G fun x G1=>tb σ G1 fun y G2=>r x y G2 fun z G3=>∃k,z=.bl k∧
 (if k=true then tc σ G3 fun w' G4=>r' y w' G4 Q else Q (.bl false) G3)
theorem Gz{K:W.Frag}{r r':DR2}{σ:St}{H:Hp}{Q:VK}(h:Ct K (D1 r r' ta tb tc) σ H Q):Mq (Hs K r) (Hs K r') (Ct K ta) (Ct K tb) (Ct K tc) σ H Q:=by
 obtain⟨σD,G,Q',rs,rg,h,cl⟩:=h
 refine⟨σD,G,_,rs,rg,h,fun x G1 h1 H1 x1 rg1 v1 d1=>?_⟩
 refine⟨σD,G1,_,rs.ext x1,rg1,h1,fun y G2 h2 H2 x2 rg2 v2 d2=>?_⟩
 refine⟨x,y,G2,_,d1.ext x2,d2,rg2,h2,fun z G3 h3 H3 x3 rg3 v3 d3=>?_⟩
 obtain⟨k,ek,h3⟩:=h3
 subst ek;cases d3
 refine⟨k,rfl,?_⟩
 cases k with
 |true=>
  rw[if_pos rfl] at h3 ⊢
  refine⟨σD,G3,_,rs.ext (x1.trans (x2.trans x3)),rg3,h3,fun w4 G4 h4 H4 x4 rg4 v4 d4=>?_⟩
  exact⟨y,w4,G4,Q',d2.ext (x3.trans x4),d4,rg4,h4,fun d G' q=>(cl d G' q).go (x1.trans (x2.trans (x3.trans x4)))⟩
 |false=>
  rw[if_neg Bool.false_ne_true] at h3 ⊢
  exact cl _ G3 h3 H3 (x1.trans (x2.trans x3)) rg3 _ (.bl false)
theorem Ur{op op':CmpOp}{r r':DR2}(ho:QOp X (compareOp op) r)(ho':QOp X (compareOp op') r')(ha:QE X a ta)(hb:QE X b tb)(hc:QE X c tc)(hm:lastMarks [op,op'] [b,c]=false:=by with_unfolding_all rfl):QE X (.Compare a [op,op'] [b,c] pos) (D1 r r' ta tb tc):=(Sw ho ho' ha hb hc hm).imp fun _ _ _ h=>Gz h
theorem qt_chain{op op':CmpOp}{r r':DR2}(ho:QOp X (compareOp op) r)(ho':QOp X (compareOp op') r')(ha:QE X a ta)(hb:QE X b tb)(hc:QE X c tc)(hm:lastMarks [op,op'] [b,c]=false:=by with_unfolding_all rfl):QT X (.Compare a [op,op'] [b,c] pos) (By (D1 r r' ta tb tc)):=(Sk ho ho' ha hb hc hm).imp fun _ _ _ h=>Gz (Ik h)

def eqS:D→D→Option Bool
 |.int i,.int j=>some (decide (i=j))
 |.bl i,.bl j=>some (decide (i=j))
 |.str i,.str j=>some (decide (i=j))
 |.non,.non=>some true
 |.non,.int _=>some false|.int _,.non=>some false|.non,.bl _=>some false|.bl _,.non=>some false|.non,.str _=>some false|.str _,.non=>some false
 |.int _,.str _=>some false|.str _,.int _=>some false|.bl _,.str _=>some false|.str _,.bl _=>some false
 |_,_=>none
theorem Lk{H:Hp}{K:W.Frag}{x y:D}{v u:V}{k:Bool}(h:eqS x y=some k)(hx:DV K H x v)(hy:DV K H y u):Wk v u=true∧decide (v=u)=k:=by
 cases hx<;>cases hy<;>simp only[eqS,Option.some.injEq,reduceCtorEq] at h<;>subst h<;>refine⟨rfl,?_⟩<;>simp
def dEq:DR2:=fun x y G Q=>∃k,eqS x y=some k∧Q (.bl k) G
def dNe:DR2:=fun x y G Q=>∃k,eqS x y=some k∧Q (.bl (!k)) G
theorem o_eq:QOp X (compareOp .Eq) dEq:=L2.OpR.imp Zu fun x y H Q ⟨dx,dy,G,Q',hx,hy,rg,⟨k,ek,q⟩,cl⟩=>by
 obtain⟨h1,h2⟩:=Lk ek hx hy
 refine⟨h1,?_⟩
 rw[h2]
 exact cl _ G q H (Ext.refl H) rg _ (.bl k)
theorem Y3:QOp X (compareOp .NotEq) dNe:=L2.OpR.imp Zq fun x y H Q ⟨dx,dy,G,Q',hx,hy,rg,⟨k,ek,q⟩,cl⟩=>by
 obtain⟨h1,h2⟩:=Lk ek hx hy
 refine⟨h1,?_⟩
 rw[h2]
 exact cl _ G q H (Ext.refl H) rg _ (.bl (!k))
variable{t u:DTT}{B7:List Expr}
def Qy(t u:DTT):DTT:=fun σ G Q=>t σ G fun c G1=>if c=true then u σ G1 Q else Q false G1
def nOr(t u:DTT):DTT:=fun σ G Q=>t σ G fun c G1=>if c=true then Q true G1 else u σ G1 Q
def Je(t:DTT):DTT:=fun σ G Q=>t σ G fun c G1=>Q (!c) G1
theorem qw_and1(ha:QT X a t):QW X (.BoolOp .And [a] pos) t:=Us ha
theorem qw_or1(ha:QT X a t):QW X (.BoolOp .Or [a] pos) t:=Xi ha
theorem qw_and(ha:QT X a t)(hb:QW X (.BoolOp .And (b::B7) pos) u):QW X (.BoolOp .And (a::b::B7) pos) (Qy t u):=(Xj ha hb).imp fun σ H Q ⟨σD,G,Q',rs,rg,h,cl⟩=>by
 refine⟨σD,G,_,rs,rg,h,fun k G1 h1 H1 x1 rg1=>?_⟩
 cases k with
 |true=>rw[if_pos rfl] at h1 ⊢;exact⟨σD,G1,Q',rs.ext x1,rg1,h1,fun b G' q=>(cl b G' q).go x1⟩
 |false=>rw[if_neg Bool.false_ne_true] at h1 ⊢;exact cl _ G1 h1 H1 x1 rg1
theorem Ks(ha:QT X a t)(hb:QW X (.BoolOp .Or (b::B7) pos) u):QW X (.BoolOp .Or (a::b::B7) pos) (nOr t u):=(Zk ha hb).imp fun σ H Q ⟨σD,G,Q',rs,rg,h,cl⟩=>by
 refine⟨σD,G,_,rs,rg,h,fun k G1 h1 H1 x1 rg1=>?_⟩
 cases k with
 |true=>rw[if_pos rfl] at h1 ⊢;exact cl _ G1 h1 H1 x1 rg1
 |false=>rw[if_neg Bool.false_ne_true] at h1 ⊢;exact⟨σD,G1,Q',rs.ext x1,rg1,h1,fun b G' q=>(cl b G' q).go x1⟩
theorem qt_of(h:QW X e t):QT X e t:=h.pt
theorem qt_not(ha:QT X a t):QT X (.UnaryOp .Not a pos) (Je t):=(Xk ha).imp fun σ H Q ⟨σD,G,Q',rs,rg,h,cl⟩=>
 ⟨σD,G,_,rs,rg,h,fun k G1 h1 H1 x1 rg1=>cl _ G1 h1 H1 x1 rg1⟩
def Q6(ta tb:DTE):DTE:=fun σ G Q=>ta σ G fun x G1=>∃c,x=.bl c∧if c=true then tb σ G1 Q else Q (.bl false) G1
def V7(ta:DTE):DTE:=fun σ G Q=>ta σ G fun x G1=>∃c,x=.bl c∧Q (.bl (!c)) G1
theorem V4{op}(h:QE X a ta):QE X (.BoolOp op [a] pos) ta:=Xw h
theorem q_and(ha:QE X a ta)(hb:QE X (.BoolOp .And (b::B7) pos) tb):QE X (.BoolOp .And (a::b::B7) pos) (Q6 ta tb):=(X0 ha hb).imp fun σ H Q ⟨σD,G,Q',rs,rg,h,cl⟩=>by
 refine⟨σD,G,_,rs,rg,h,fun d G1 ⟨k,ek,h1⟩ H1 x1 rg1 v dv=>?_⟩
 subst ek;cases dv
 refine⟨k,rfl,?_⟩
 cases k with
 |true=>rw[if_pos rfl] at h1 ⊢;exact⟨σD,G1,Q',rs.ext x1,rg1,h1,fun b G' q=>(cl b G' q).go x1⟩
 |false=>rw[if_neg Bool.false_ne_true] at h1 ⊢;exact cl _ G1 h1 H1 x1 rg1 _ (.bl false)
theorem q_not(ha:QE X a ta):QE X (.UnaryOp .Not a pos) (V7 ta):=(Xx ha).imp fun σ H Q ⟨σD,G,Q',rs,rg,h,cl⟩=>by
 refine⟨σD,G,_,rs,rg,h,fun d G1 ⟨k,ek,h1⟩ H1 x1 rg1 v dv=>?_⟩
 subst ek;cases dv
 exact⟨k,rfl,cl _ G1 h1 H1 x1 rg1 _ (.bl _)⟩
def O3(G:Gp):D→Option Bool
 |.non=>some false
 |.bl b=>some b
 |.int i=>some (i != 0)
 |.str y=>if y.length≤sizeLine then some ((y.length:Int) != 0) else none
 |.tup ds=>some (!ds.isEmpty)
 |.lint ns=>some (!ns.isEmpty)
 |.ref a=>match G a with
  |some (.lst ds)=>some (!ds.isEmpty)
  |some (.dkk kvs)=>some (!kvs.isEmpty)
  |_=>none
 |_=>none
theorem isE{K:W.Frag}{H:Hp}{ds:List D}{vs:List V}(r:DVs K H ds vs):ds.isEmpty=vs.isEmpty:=by cases r<;>rfl
theorem Uc{K:W.Frag}{H:Hp}{G:Gp}{d:D}{v:V}{k:Bool}(rg:RelG K H G)(h:O3 G d=some k)(r:DV K H d v):Wv K v H k:=by
 cases r with
 |non=>cases h;rfl
 |bl b=>cases h;rfl
 |int i=>cases h;rfl
 |str y=>
  simp only[O3] at h
  split at h
  ·rename_i hy;cases h;exact⟨hy,rfl⟩
  ·cases h
 |tup e r=>
  cases h
  exact .inr (.inl ⟨_,.inl (.inl e),by rw[isE r]⟩)
 |@lint ns a e=>
  cases h
  exact .inl ⟨_,e.sq,by cases ns<;>rfl⟩
 |ref a=>
  simp only[O3] at h
  split at h
  ·rename_i ds q
   obtain⟨xs,e,r⟩:=rg a _ q
   cases h
   exact .inl ⟨xs,.inl (.inl e),by rw[isE r]⟩
  ·rename_i kvs q
   obtain⟨xs,e,r⟩:=rg a _ q
   cases h
   exact .inr (.inr ⟨xs,e,by cases r<;>rfl⟩)
  ·cases h
 |ty n=>cases h
def F3(t:DTE):DTT:=fun σ G Q=>t σ G fun x G'=>∃k,O3 G' x=some k∧Q k G'
theorem qt_tru(ha:QE X a ta)(he:∀whole,isTrue a X.env whole=(do let v ←whole;standAt a.pos;holding [v] (truthy v)):=by intro _;rfl):QT X a (F3 ta):=(Sj ha he).imp fun σ H Q ⟨σD,G,Q',rs,rg,h,cl⟩=>by
 refine⟨σD,G,_,rs,rg,h,fun d G1 ⟨k,ek,h1⟩ H1 x1 rg1 v dv=>?_⟩
 exact⟨k,Uc rg1 ek dv,cl _ G1 h1 H1 x1 rg1⟩

variable{es:List Expr}{tA:DTA}
def A1:DTA:=fun _ G Q=>Q [] G
def Ai(ta:DTE)(tr:DTA):DTA:=fun σ G Q=>ta σ G fun x G1=>tr σ G1 fun xs G2=>Q (x::xs) G2
theorem qa_nil:QA X [] A1:=pa_nil.imp fun σ H Q ⟨σD,G,Q',rs,rg,h,cl⟩=>cl _ G h H (Ext.refl H) rg _ .nil
theorem N6(ha:QE X e te)(hr:QA X es tA)(hs:starEach (e::es) X.env=(false,eval e X.env)::starEach es X.env:=by rfl):QA X (e::es) (Ai te tA):=(Ju ha hr hs).imp fun σ H Q ⟨σD,G,Q',rs,rg,h,cl⟩=>by
 refine⟨σD,G,_,rs,rg,h,fun x G1 h1 H1 x1 rg1 v1 d1=>?_⟩
 refine⟨σD,G1,_,rs.ext x1,rg1,h1,fun ys G2 h2 H2 x2 rg2 v2 d2=>?_⟩
 exact cl _ G2 h2 H2 (x1.trans x2) rg2 _ (.cons (d1.ext x2) d2)
def Jd(t:DTA):DTE:=fun σ G Q=>t σ G fun xs G1=>xs.length≤sizeLine∧Q (.tup xs) G1
def F4(t:DTA):DTE:=fun σ G Q=>t σ G fun xs G1=>xs.length≤sizeLine∧∀p,G1 p=none→Q (.ref p) (Ad G1 p (.lst xs))
theorem q_tup{x1}(h:QA X es tA):QE X (.Tuple es x1 pos) (Jd tA):=(Xv h).imp fun σ H Q ⟨σD,G,Q',rs,rg,h,cl⟩=>by
 refine⟨σD,G,_,rs,rg,h,fun ds G1 ⟨hl,q⟩ H1 x1 rg1 vs dv=>⟨by rw[←dv.length];exact hl,fun p hp=>?_⟩⟩
 exact cl _ G1 q _ (x1.trans (Ext.fresh hp)) (rg1.tup hp) _ (.tup A4 (dv.ext (Ext.fresh hp)))
theorem q_lst(h:QA X es tA):QE X (.List es pos) (F4 tA):=(Xy h).imp fun σ H Q ⟨σD,G,Q',rs,rg,h,cl⟩=>by
 refine⟨σD,G,_,rs,rg,h,fun ds G1 ⟨hl,q⟩ H1 x1 rg1 vs dv=>⟨by rw[←dv.length];exact hl,fun p hp=>?_⟩⟩
 exact cl _ _ (q p (rg1.free hp)) _ (x1.trans (Ext.fresh hp)) (rg1.lst hp dv) _ (.ref p)

def Dw(G:Gp)(x:D)(i:Int):Option D:=match x with
 |.tup ds=>atI ds i
 |.lint ns=>atI (ns.map D.int) i
 |.ref a=>match G a with
  |some (.lst ds)=>atI ds i
  |_=>none
 |_=>none
theorem J2{K:W.Frag}{H:Hp}{ds:List D}{vs:List V}{i:Int}{d:D}(r:DVs K H ds vs)(h:atI ds i=some d):∃v,atI vs i=some v∧DV K H d v:=by
 unfold atI at h ⊢
 rw[←r.length]
 cases e:ixN ds.length i with
 |none=>rw[e] at h;cases h
 |some j=>rw[e] at h;exact r.get h
def dIx:DR2:=fun x y G Q=>∃i,y=.int i∧∃d,Dw G x i=some d∧Q d G
theorem _root_.L2.IxR.imp{r r':R2}(h:IxR X r)(g:∀x y H Q,r' x y H Q→r x y H Q):IxR X r':=fun va sl pins s σ H x y v u Q I rx ry q hs=>h va sl pins s σ H x y v u Q I rx ry (g x y H Q q) hs
theorem o_ix:IxR X (Hs X.K dIx):=ix_seq.imp fun x y H Q ⟨dx,dy,G,Q',hx,hy,rg,⟨i,ei,d,ed,q⟩,cl⟩=>by
 subst ei;cases hy
 cases hx with
 |@tup ds a xs e r=>
  obtain⟨v,ev,dv⟩:=J2 r (show atI ds i=some d from ed)
  exact .inr (.inl ⟨a,xs,i,v,rfl,rfl,.inl (.inl e),ev,cl _ G q H (Ext.refl H) rg _ dv⟩)
 |@lint ns a e=>
  obtain⟨v,ev,dv⟩:=J2 (K:=X.K) (H:=H) DVs.ints (show atI (ns.map D.int) i=some d from ed)
  exact .inl ⟨a,_,i,v,rfl,rfl,e.sq,ev,cl _ G q H (Ext.refl H) rg _ dv⟩
 |ref a=>
  simp only[Dw] at ed
  split at ed
  ·rename_i ds g
   obtain⟨xs,e,r⟩:=rg a _ g
   obtain⟨v,ev,dv⟩:=J2 r ed
   exact .inl ⟨a,xs,i,v,rfl,rfl,.inl (.inl e),ev,cl _ G q H (Ext.refl H) rg _ dv⟩
  ·cases ed
 |_=>cases ed
theorem q_ix(ha:QE X a ta)(hb:QE X b tb)(hs:O1 b:=by intro _ _;rfl):QE X (.Subscript a b pos) (nOp dIx ta tb):=(Zn o_ix ha hb hs).imp fun _ _ _ h=>F1 h
end
end D3
namespace D3
open PySem PySem.Spec
open PyProof.Rows hiding St
open L2 hiding St
section
variable{X:Cx}{a b c e:Expr}{ta tb tc te:DTE}{pos:Pos}{st:Stmt}{B7 body orelse:List Stmt}{t u:DTS}
def Cg:DTS:=fun D σ G=>D.nx σ G
def B2(t u:DTS):DTS:=fun D σ G=>t { D with nx:=u D } σ G
theorem qss_nil:QSs X [] Cg:=pss_nil.imp fun E σ H ⟨σD,G,D,rs,rg,h,cl⟩=>cl.nx σD G h H (Ext.refl H) rg σ rs
theorem Ta{K:W.Frag}{E:Ends}{σ:St}{H:Hp}(h:F6 K (B2 t u) E σ H):Yx (F6 K t) (F6 K u) E σ H:=by
 obtain⟨σD,G,D,rs,rg,h,cl⟩:=h
 refine⟨σD,G,_,rs,rg,h,⟨fun σ1 G1 h1 H1 x1 rg1 σ' rs1=>⟨σ1,G1,D,rs1,rg1,h1,cl.go x1⟩,cl.rt,cl.bk,cl.ct⟩⟩
theorem qss_cons(h1:QS X st t)(h2:QSs X B7 u):QSs X (st::B7) (B2 t u):=(Sl h1 h2).imp fun _ _ _ h=>Ta h
theorem qss_one(h1:QS X st t):QSs X [st] t:=Uv h1
def Kt(te:DTE):DTS:=fun D σ G=>te σ G fun _ G1=>D.nx σ G1
theorem Dl(he:QE X e te)(hs:swapsWith e none pos.line X.env=pure false:=by rfl):QS X (.Expr e pos) (Kt te):=(Uw he hs).imp fun E σ H ⟨σD,G,D,rs,rg,h,cl⟩=>
 ⟨σD,G,_,rs,rg,h,fun d G1 h1 H1 x1 rg1 v dv=>cl.nx σD G1 h1 H1 x1 rg1 σ (rs.ext x1)⟩
def B3(te:DTE):DTS:=fun D σ G=>te σ G D.rt
theorem qs_ret(he:QE X e te):QS X (.Return (some e) pos) (B3 te):=(Xm he).imp fun E σ H ⟨σD,G,D,rs,rg,h,cl⟩=>⟨σD,G,_,rs,rg,h,cl.rt⟩
def Eb(c:DTT)(t u:DTS):DTS:=fun D σ G=>c σ G fun b G1=>if b=true then t D σ G1 else u D σ G1
theorem qs_if{tc:DTT}(hc:QT X c tc)(ha:QSs X body t)(hb:QSs X orelse u):QS X (.If c body orelse pos) (Eb tc t u):=(V5 hc ha hb).imp fun E σ H ⟨σD,G,D,rs,rg,h,cl⟩=>by
 refine⟨σD,G,_,rs,rg,h,fun k G1 h1 H1 x1 rg1=>?_⟩
 cases k with
 |true=>rw[if_pos rfl] at h1 ⊢;exact⟨σD,G1,D,rs.ext x1,rg1,h1,cl.go x1⟩
 |false=>rw[if_neg Bool.false_ne_true] at h1 ⊢;exact⟨σD,G1,D,rs.ext x1,rg1,h1,cl.go x1⟩
def Yc:DTS:=fun _ _ _=>False
theorem Gd:QS X st Yc:=ps_never.imp fun E σ H ⟨σD,G,D,rs,rg,h,cl⟩=>h
abbrev DTG:=D→DSt→Gp→(DSt→Gp→Prop)→Prop
abbrev Kr:=List D→DSt→Gp→(DSt→Gp→Prop)→Prop
def Ku(K:PySem.W.Frag)(t:DTG):TG:=fun v σ H Q=>∃d σD G Q',DV K H d v∧RelS K H σD σ∧RelG K H G∧t d σD G Q'∧∀σD' G',Q' σD' G'→Fwd K H G' fun H'=>∀σ',RelS K H' σD' σ'→Q σ' H'
def Yd(K:PySem.W.Frag)(t:Kr):TGs:=fun vs σ H Q=>∃ds σD G Q',DVs K H ds vs∧RelS K H σD σ∧RelG K H G∧t ds σD G Q'∧∀σD' G',Q' σD' G'→Fwd K H G' fun H'=>∀σ',RelS K H' σD' σ'→Q σ' H'
def QG(X:Cx)(e:Expr)(g:DTG):Prop:=PG X e (Ku X.K g)
def QGs(X:Cx)(es:List Expr)(g:Kr):Prop:=PGs X es (Yd X.K g)
theorem _root_.L2.PG.imp{X:Cx}{e:Expr}{t t':TG}(h:PG X e t)(f:∀v σ H Q,t' v σ H Q→t v σ H Q):PG X e t':=fun pins s σ H v u Q I r q=>h pins s σ H v u Q I r (f v σ H Q q)
theorem _root_.L2.PGs.imp{X:Cx}{e:List Expr}{t t':TGs}(h:PGs X e t)(f:∀v σ H Q,t' v σ H Q→t v σ H Q):PGs X e t':=fun pins s σ H v u Q I r q=>h pins s σ H v u Q I r (f v σ H Q q)
def As(i:Nat):DTG:=fun d σ G Q=>Q (σ.set i (some d)) G
theorem qg_name{i:Nat}{x:Str}(hN:X.N.Nodup)(hi:X.N[i]? = some x:=by rfl)(hx:Loc X.env.scope x:=by first|exact Or.inl rfl|exact Or.inr rfl)(hf:X.fn x=true∨X.env.scope.names.lookup x=some .local:=by first|exact .inl rfl|exact .inr rfl|assumption):QG X (.Name x pos) (As i):=
 (Uy hN hi hx hf).imp fun v σ H Q ⟨d,σD,G,Q',dv,rs,rg,h,cl⟩=>cl _ G h H (Ext.refl H) rg _ (rs.set dv i)
def Jg:Kr:=fun ds σ G Q=>ds=[]∧Q σ G
def Eg(t:DTG)(u:Kr):Kr:=fun ds σ G Q=>∃v r,ds=v::r∧t v σ G fun σ' G'=>u r σ' G' Q
theorem qgs_nil:QGs X [] Jg:=pgs_nil.imp fun v σ H Q ⟨d,σD,G,Q',dv,rs,rg,⟨e,h⟩,cl⟩=>by
 subst e;cases dv
 exact⟨rfl,cl _ G h H (Ext.refl H) rg _ rs⟩
theorem qgs_cons{es:List Expr}{t:DTG}{u:Kr}(h1:QG X e t)(h2:QGs X es u)(hs:(assignEach (e::es) X.env).map (·.2)=assign e X.env::(assignEach es X.env).map (·.2):=by rfl):QGs X (e::es) (Eg t u):=(Sr h1 h2 hs).imp fun v σ H Q ⟨d,σD,G,Q',dv,rs,rg,⟨d1,r,e,h⟩,cl⟩=>by
 subst e
 cases dv with
 |@cons _ v1 _ vs h1 t1=>
  refine⟨v1,vs,rfl,d1,σD,G,_,h1,rs,rg,h,fun σ1 G1 q1 H1 x1 rg1 σ' rs1=>?_⟩
  exact⟨r,σ1,G1,Q',t1.ext x1,rs1,rg1,q1,fun σ2 G2 q=>(cl σ2 G2 q).go x1⟩
def Jf(n:Nat)(t:Kr):DTG:=fun d σ G Q=>∃ds,d=.tup ds∧ds.length=n∧t ds σ G Q
theorem qg_tup{es:List Expr}{k:Nat}{t:Kr}{n:Nat}(hc:X.calm=true)(h:QGs X es t)(hn:(assignEach es X.env).length=n:=by rfl)(hst:(assignEach es X.env).findIdx? (·.1)=none:=by rfl):QG X (.Tuple es k pos) (Jf n t):=(Xq hc h hn hst).imp fun v σ H Q ⟨d,σD,G,Q',dv,rs,rg,⟨ds,e,hl,h⟩,cl⟩=>by
 subst e
 cases dv with
 |@tup _ a xs e r=>exact⟨a,xs,rfl,.inl (.inl e),by rw[←r.length];exact hl,ds,σD,G,Q',r,rs,rg,h,cl⟩
abbrev Hw:=D→D→D→Gp→(Gp→Prop)→Prop
def Vc(K:PySem.W.Frag)(t:Hw):Q0:=fun o i v H Q=>∃d1 d2 d3 G Q',DV K H d1 o∧DV K H d2 i∧DV K H d3 v∧RelG K H G∧t d1 d2 d3 G Q'∧∀G',Q' G'→Fwd K H G' Q
def Ww(X:Cx)(t:Hw):Prop:=PSet X (Vc X.K t)
theorem _root_.L2.PSet.imp{X:Cx}{t t':Q0}(h:PSet X t)(f:∀o i v H Q,t' o i v H Q→t o i v H Q):PSet X t':=fun pins s σ H o i v ov iv u Q I r1 r2 r3 q=>h pins s σ H o i v ov iv u Q I r1 r2 r3 (f o i v H Q q)
def Rc:Hw:=fun o i v G Q=>∃p,o=.ref p∧∃k,i=.int k∧∃ds,G p=some (.lst ds)∧∃j,ixN ds.length k=some j∧Q (Ad G p (.lst (ds.set j v)))
theorem Ms:Ww X Rc:=set_list.imp fun o i v H Q ⟨d1,d2,d3,G,Q',h1,h2,h3,rg,⟨p,e1,k,e2,ds,eg,j,ej,q⟩,cl⟩=>by
 subst e1 e2
 cases h1;cases h2
 obtain⟨xs,ex,r⟩:=rg p _ eg
 exact⟨p,xs,k,j,rfl,rfl,ex,by rw[←r.length];exact ej,cl _ q _ (Do ex) (rg.lstw ex (r.set h3 j))⟩
def Qz(to ti:DTE)(t:Hw):DTG:=fun v σ G Q=>to σ G fun o G1=>ti σ G1 fun i G2=>t o i v G2 fun G3=>Q σ G3
theorem F8{o i:Expr}{to ti:DTE}{t:Hw}(ho:QE X o to)(hi:QE X i ti)(hs:Ww X t)(ha:∀v,assign (.Subscript o i pos) X.env v=(do
   let ov ←holding [v] (eval o X.env)
   let iv ←holding [v,ov] (eval i X.env)
   standAt pos
   holding [v,ov,iv] (setItem ov iv v)
   release [v,ov,iv] []):=by intro _;rfl):QG X (.Subscript o i pos) (Qz to ti t):=(Xr ho hi hs ha).imp fun v σ H Q ⟨d,σD,G,Q',dv,rs,rg,h,cl⟩=>by
 refine⟨σD,G,_,rs,rg,h,fun x G1 h1 H1 x1 rg1 v1 d1=>?_⟩
 refine⟨σD,G1,_,rs.ext x1,rg1,h1,fun y G2 h2 H2 x2 rg2 v2 d2=>?_⟩
 exact⟨x,y,d,G2,_,d1.ext x2,d2,dv.ext (x1.trans x2),rg2,h2,fun G3 q H3 x3 rg3=>cl σD G3 q H3 (x1.trans (x2.trans x3)) rg3 σ (rs.ext (x1.trans (x2.trans x3)))⟩
def Cd(te:DTE)(g:DTG):DTS:=fun D σ G=>te σ G fun x G1=>g x σ G1 D.nx
theorem Tb{K:W.Frag}{g:DTG}{E:Ends}{σ:St}{H:Hp}(h:F6 K (Cd te g) E σ H):Wj (Ct K te) (Ku K g) E σ H:=by
 obtain⟨σD,G,D,rs,rg,h,cl⟩:=h
 refine⟨σD,G,_,rs,rg,h,fun d G1 h1 H1 x1 rg1 v dv=>?_⟩
 exact⟨d,σD,G1,_,dv,rs.ext x1,rg1,h1,fun σ2 G2 q=>(cl.go x1).nx σ2 G2 q⟩
theorem qs_asg{tg:Expr}{g:DTG}(he:QE X e te)(hg:QG X tg g)(hs:swapsWithSole [tg] e pos.line X.env=pure false:=by rfl)(hw:swappedStores [tg] e X.env=pure none:=by rfl)(h1:(assignEach [tg] X.env).map (·.2)=[assign tg X.env]:=by rfl):QS X (.Assign [tg] e pos) (Cd te g):=(Xp he hg hs hw h1).imp fun _ _ _ h=>Tb h
theorem qs_set{i:Nat}{x:Str}{pos':Pos}(hN:X.N.Nodup)(he:QE X e te)(hi:X.N[i]? = some x:=by rfl)(hx:Loc X.env.scope x:=by first|exact Or.inl rfl|exact Or.inr rfl)(hs:swapsWith e (some (.Name x pos')) pos.line X.env=pure false:=by rfl)(hf:X.fn x=true∨X.env.scope.names.lookup x=some .local:=by first|exact .inl rfl|exact .inr rfl|assumption) :
  QS X (.Assign [.Name x pos'] e pos) (Cd te (As i)):=(Xl hN hi hx he hs hf).imp fun E σ H ⟨σD,G,D,rs,rg,h,cl⟩=>
 ⟨σD,G,_,rs,rg,h,fun d G1 h1 H1 x1 rg1 v dv=>cl.nx _ G1 h1 H1 x1 rg1 _ ((rs.ext x1).set dv i)⟩
def Y5(i j:Nat)(ta:DTA):DTS:=fun D σ G=>ta σ G fun vs G1=>∃v w,vs=[v,w]∧D.nx ((σ.set i (some v)).set j (some w)) G1
theorem Rm{i j:Nat}{x y:Str}{tA:DTA}{px py pt:Pos}{kt k2 pt2}(hc:X.calm=true)(hN:X.N.Nodup)(ha:QA X [a,b] tA)(hi:X.N[i]? = some x:=by rfl)(hj:X.N[j]? = some y:=by rfl)(hij:i≠j:=by decide)(hx:X.env.scope.names.lookup x=some .local:=by rfl)(hy:X.env.scope.names.lookup y=some .local:=by rfl)(hw:swappedStores [.Tuple [.Name x px,.Name y py] kt pt] (.Tuple [a,b] k2 pt2) X.env=pure (some [x,y]):=by rfl)(hs:swapsWithSole [.Tuple [.Name x px,.Name y py] kt pt] (.Tuple [a,b] k2 pt2) pos.line X.env=pure false:=by rfl) :
  QS X (.Assign [.Tuple [.Name x px,.Name y py] kt pt] (.Tuple [a,b] k2 pt2) pos) (Y5 i j tA):=(Xn hc hN hi hj hij hx hy ha hw hs).imp fun E σ H ⟨σD,G,D,rs,rg,h,cl⟩=>by
 refine⟨σD,G,_,rs,rg,h,fun ds G1 ⟨d1,d2,e,h1⟩ H1 x1 rg1 vs dv=>?_⟩
 subst e
 obtain⟨v,w,rfl,r1,r2⟩:=dv.two
 exact⟨v,w,rfl,cl.nx _ G1 h1 H1 x1 rg1 _ (((rs.ext x1).set r1 i).set r2 j)⟩
def Y6(i:Nat)(te:DTE)(r:DR2):DTS:=fun D σ G=>∃x,σ[i]? = some (some x)∧te σ G fun y G1=>r x y G1 fun z G2=>D.nx (σ.set i (some z)) G2
def QIp(X:Cx)(op:Operator)(r:DR2):Prop:=PIp X op (Hs X.K r)
theorem Ym{op:Operator}{f:Int→Int→Int}(h:PIp X op (ipI f)):QIp X op (dI0 fun i j=>.int (f i j)):=fun pins s σ H x y v u Q I rx ry ⟨dx,dy,G,Q',hx,hy,rg,⟨i,ei,j,ej,q⟩,cl⟩=>by
 subst ei ej;cases hx;cases hy
 exact h pins s σ H _ _ v u Q I rx ry ⟨i,j,rfl,rfl,cl _ G q H (Ext.refl H) rg _ (.int _)⟩
theorem Yn:QIp X .Sub (dI0 fun i j=>.int (i-j)):=Ym Yl
theorem Xg{i:Nat}{x:Str}{op:Operator}{r:DR2}{pos':Pos}(hN:X.N.Nodup)(ho:QIp X op r)(he:QE X e te)(hi:X.N[i]? = some x:=by rfl)(hx:Loc X.env.scope x:=by first|exact Or.inl rfl|exact Or.inr rfl)(hf:X.fn x=true∨X.env.scope.names.lookup x=some .local:=by first|exact .inl rfl|exact .inr rfl|assumption) :
  QS X (.AugAssign (.Name x pos') op e pos) (Y6 i te r):=(Xo hN hi hx he ho hf).imp fun E σ H ⟨σD,G,D,rs,rg,⟨d,ed,h⟩,cl⟩=>by
 obtain⟨v,ev,dv⟩:=rs.2 i d ed
 refine⟨v,ev,σD,G,_,rs,rg,h,fun y G1 h1 H1 x1 rg1 v1 d1=>?_⟩
 exact⟨d,y,G1,_,dv.ext x1,d1,rg1,h1,fun z G2 q H2 x2 rg2 v2 d2=>cl.nx _ G2 q H2 (x1.trans x2) rg2 _ ((rs.ext (x1.trans x2)).set d2 i)⟩

def Sub(G G':Gp):Prop:=∀a o,G a=some o→G' a=some o
theorem Sub.refl(G:Gp):Sub G G:=fun _ _ h=>h
theorem Sub.trans{G G1 G2:Gp}(a:Sub G G1)(b:Sub G1 G2):Sub G G2:=fun c o h=>b c o (a c o h)
theorem Sub.new{G:Gp}{p:Addr}{o:GO}(h:G p=none):Sub G (Ad G p o):=fun a u e=>by rw[Ao (gne e h)];exact e
theorem Sub.upd{G G':Gp}(s:Sub G G')(a:Addr)(o:GO):Sub (Ad G a o) (Ad G' a o):=fun b u e=>by
 by_cases h:b=a
 ·subst h;rw[Aa] at e ⊢;exact e
 ·rw[Ao h] at e ⊢;exact s b u e
theorem Sub.none{G G':Gp}(s:Sub G G'){p:Addr}(h:G' p=Option.none):G p=Option.none:=by
 cases e:G p with
 |none=>rfl
 |some o=>rw[s p o e] at h;cases h
theorem Sub.skip{G G':Gp}(s:Sub G G'){p:Addr}{o:GO}(h:G' p=Option.none):Sub G (Ad G' p o):=s.trans (Sub.new h)
def Fs(P:DSt→Gp→Prop)(σ:DSt)(G:Gp):Prop:=∃G',Sub G' G∧P σ G'
theorem Fs.of{P:DSt→Gp→Prop}{σ:DSt}{G:Gp}(h:P σ G):Fs P σ G:=⟨G,Sub.refl G,h⟩
def Yb(c:DTT)(tb:DTS):DTS:=fun D σ G=>∃W:Nat→DSt→Gp→Prop,(∃m,W m σ G)∧∀m σ G,W m σ G→
 c σ G fun b G1=>if b=true then ∃N:DSt→Gp→Prop,(∀σ' G',N σ' G'→∃m',m'<m∧W m' σ' G')∧tb { D with nx:=Fs N,ct:=Fs N,bk:=D.nx } σ G1 else D.nx σ G1
theorem Sh{tc:DTT}{tb:DTS}(hp:PassesOwn (model X.prog X.w) X.A X.env X.xe)(hc:QT X c tc)(hb:QSs X body tb):QS X (.While c body [] pos) (Yb tc tb):=(Sm hp hc hb).imp fun E σ H ⟨σD,G,D,rs,rg,⟨W,⟨m0,w0⟩,turn⟩,cl⟩=>by
 refine⟨fun m σ' H'=>∃σD' G',RelS X.K H' σD' σ'∧RelG X.K H' G'∧Ext H H'∧W m σD' G',⟨m0,σD,G,rs,rg,Ext.refl H,w0⟩,?_⟩
 rintro m σ1 H1 ⟨σD1,G1,rs1,rg1,x1,w1⟩
 refine⟨σD1,G1,_,rs1,rg1,turn m σD1 G1 w1,fun k G2 h2 H2 x2 rg2=>?_⟩
 cases k with
 |true=>
  rw[if_pos rfl] at h2 ⊢
  obtain⟨N,hN,h2⟩:=h2
  refine⟨fun σ' H'=>∃σD' G',RelS X.K H' σD' σ'∧RelG X.K H' G'∧Ext H H'∧N σD' G',fun σ' H' ⟨σD',G',r1,r2,r3,n⟩=>?_,?_⟩
  ·obtain⟨m',hm,w'⟩:=hN σD' G' n
   exact⟨m',hm,σD',G',r1,r2,r3,w'⟩
  ·have xx:=x1.trans x2
   exact⟨σD1,G2,_,rs1.ext x2,rg2,h2,⟨fun s3 G3 ⟨G4,sb,n⟩ H3 x3 rg3 σ3 rs3=>⟨s3,G4,rs3,rg3.ext' sb,xx.trans x3,n⟩,(cl.go xx).rt,(cl.go xx).nx,fun s3 G3 ⟨G4,sb,n⟩ H3 x3 rg3 σ3 rs3=>⟨s3,G4,rs3,rg3.ext' sb,xx.trans x3,n⟩⟩⟩
 |false=>
  rw[if_neg Bool.false_ne_true] at h2 ⊢
  exact cl.nx _ G2 h2 H2 (x1.trans x2) rg2 _ (rs1.ext x2)

def Bd(G:Gp):D→Option (List D)
 |.tup ds=>some ds
 |.lint ns=>some (ns.map .int)
 |.ref a=>match G a with
  |some (.lst ds)=>some ds
  |_=>none
 |_=>none
def iSeq(K:PySem.W.Frag)(tl:TE):TI:=fun σ H R=>tl σ H fun x H1=>∃a,x=.ref a∧(((∃xs,SqL K H1 a xs)∧R (Itl K a) H1)∨((∃xs,SqT K H1 a xs)∧R (Itt K a) H1))
theorem Rp{tg l:Expr}{tl:TE}(hl:PE X l tl):PI X tg l (iSeq X.K tl):=by
 intro pins s σ H R I h
 refine thn (hl pins s σ H _ I h) fun v s1 ⟨x,H1,I1,r1,q1⟩=>?_
 obtain⟨a,e,q1⟩:=q1
 subst e
 cases r1
 have fin:∀(b:Addr),b∈[s1.heap.objs.size]→Hk X pins H1 b:=fun b hb=>by
  have e:b=s1.heap.objs.size:=by simpa using hb
  subst e
  exact I1.fpOk (Nat.le_refl _) (I1.hok.fresh (Nat.le_refl _))
 rcases q1 with ⟨⟨xs,hq⟩,q⟩|⟨⟨xs,hq⟩,q⟩
 ·obtain⟨its,rv,p,hz⟩:=I1.list hq
  refine wpAny_pyIter_list p.isList ?_
  exact⟨s1.heap.objs.size,[s1.heap.objs.size],_,_,H1,rfl,I1.kept (t':=s1.toks) fun b o e=>Heap.get?_push_of_some _ e,Pa a _,⟨_,Heap.get?_push_size _ rfl,rfl,rfl⟩,fin,q⟩
 ·obtain⟨its,rv,p,hz⟩:=I1.tuple hq
  refine wpAny_pyIter_tuple (show s1.heap.IsTuple a its.toArray from p) ?_
  exact⟨s1.heap.objs.size,[s1.heap.objs.size],_,_,H1,rfl,I1.kept (t':=s1.toks) fun b o e=>Heap.get?_push_of_some _ e,Mz a _,⟨_,Heap.get?_push_size _ rfl,rfl,rfl⟩,fin,q⟩
structure Items(K:PySem.W.Frag)(J:It)(G:Gp)(H:Hp)(ds:List D):Prop where
 go:∀i,i<ds.length→J.go i H
 yl:∀i x H',i<ds.length→J.yld i H x H'→H'=H∧∃d,ds[i]? = some d∧DV K H d x
 st:J.stop ds.length H
theorem Il{K:W.Frag}{H:Hp}{G:Gp}{a:Addr}{ds:List D}{xs:List V}(e:SqL K H a xs)(r:DVs K H ds xs):Items K (Itl K a) G H ds:=by
 refine⟨fun i hi=>?_,fun i x H' hi y=>?_,⟨xs,e,by rw[←r.length];exact Nat.le_refl _⟩⟩
 ·rw[r.length] at hi
  exact⟨xs,xs[i],e,by simp[hi]⟩
 ·obtain⟨e1,e2⟩:=y
  exact⟨e1,r.get' (e2 xs e)⟩
theorem P5{K:W.Frag}{H:Hp}{G:Gp}{a:Addr}{ds:List D}{xs:List V}(e:H a=some (.tup xs))(r:DVs K H ds xs):Items K (Itt K a) G H ds:=by
 refine⟨fun i hi=>?_,fun i x H' hi y=>?_,⟨xs,.inl (.inl e),by rw[←r.length];exact Nat.le_refl _⟩⟩
 ·rw[r.length] at hi
  exact⟨xs,xs[i],.inl (.inl e),by simp[hi]⟩
 ·obtain⟨e1,e2⟩:=y
  exact⟨e1,r.get' (e2 xs (.inl (.inl e)))⟩
end
end D3
namespace D3
open PySem PySem.Spec
open PyProof.Rows hiding St
open L2 hiding St
section
variable{X:Cx}{a b c e:Expr}{ta tb tc te:DTE}{pos:Pos}{st:Stmt}{B7 body orelse:List Stmt}{t u:DTS}
def jOf(K:PySem.W.Frag)(d:D)(a:Addr):It:=match d with
 |.tup _=>Itt K a
 |_=>Itl K a
theorem Gi{K:W.Frag}{H:Hp}{G:Gp}{d:D}{ds:List D}{a:Addr}(rg:RelG K H G)(h:Bd G d=some ds)(dv:DV K H d (.ref a)):Items K (jOf K d a) G H ds:=by
 cases dv with
 |tup e r=>cases h;exact P5 e r
 |lint e=>cases h;exact Il e.sq DVs.ints
 |ref=>
  simp only[Bd] at h
  split at h
  ·rename_i ds' q
   cases h
   obtain⟨xs,e,r⟩:=rg a _ q
   exact Il (.inl (.inl e)) r
  ·cases h
theorem Lf{K:W.Frag}{H:Hp}{G:Gp}{d:D}{ds:List D}{v:V}(h:Bd G d=some ds)(dv:DV K H d v):∃a,v=.ref a:=by
 cases dv<;>first|exact⟨_,rfl⟩|cases h
def Q2(ds:List D)(same:Gp→Prop)(g:DTG)(tb:DTS)(D:DEnds)(σ:DSt)(G:Gp):Prop:=∃P:Nat→DSt→Gp→Prop,P 0 σ G∧(∀i σ G,i≤ds.length→P i σ G→same G)∧
 (∀i x σ G,ds[i]? = some x→P i σ G→g x σ G fun σ2 G2=>tb { D with nx:=Fs (P (i+1)),ct:=Fs (P (i+1)),bk:=D.nx } σ2 G2)∧∀σ G,P ds.length σ G→D.nx σ G
theorem Ij{K:W.Frag}{J:It}{ds:List D}{same:Gp→Prop}{g:DTG}{tb:DTS}{D:DEnds}{E:Ends}{σD:DSt}{σ:St}{G:Gp}{H:Hp}(rs:RelS K H σD σ)(rg:RelG K H G)(cl:D.Reach K H E)(hJ:∀H' G',Ext H H'→RelG K H' G'→same G'→Items K J G' H' ds)(h:Q2 ds same g tb D σD G) :
  ∃W:Nat→Nat→St→Hp→Prop,(∃m,W 0 m σ H)∧∀i m σ H,W i m σ H→
   (J.stop i H∧E.nx σ H)∨(J.go i H∧∃N:St→Hp→Prop,(∀σ' H',N σ' H'→∃m',m'<m∧W (i+1) m' σ' H')∧∀x H',J.yld i H x H'→Ku K g x σ H' fun σ2 H2=>F6 K tb { E with nx:=N,ct:=N,bk:=E.nx } σ2 H2):=by
 obtain⟨P,p0,keep,step,fin⟩:=h
 refine⟨fun i m σ' H'=>m=ds.length-i∧i≤ds.length∧∃σD' G',RelS K H' σD' σ'∧RelG K H' G'∧Ext H H'∧P i σD' G',⟨ds.length,rfl,Nat.zero_le _,σD,G,rs,rg,Ext.refl H,p0⟩,?_⟩
 rintro i m σ1 H1 ⟨rfl,hi,σD1,G1,rs1,rg1,x1,p1⟩
 have I:=hJ H1 G1 x1 rg1 (keep i σD1 G1 hi p1)
 by_cases hlt:i<ds.length
 ·refine .inr ⟨I.go i hlt,fun σ' H'=>∃σD' G',RelS K H' σD' σ'∧RelG K H' G'∧Ext H H'∧P (i+1) σD' G',fun σ' H' ⟨s2,G2,r1,r2,r3,p⟩=>⟨ds.length-(i+1),by omega,rfl,hlt,s2,G2,r1,r2,r3,p⟩,fun x H' y=>?_⟩
  obtain⟨e,d,ed,dv⟩:=I.yl i x H' hlt y
  subst e
  refine⟨d,σD1,G1,_,dv,rs1,rg1,step i d σD1 G1 ed p1,fun σ2 G2 h2 H2 x2 rg2 σ' rs2=>?_⟩
  have xx:=x1.trans x2
  exact⟨σ2,G2,_,rs2,rg2,h2,⟨fun s3 G3 ⟨G4,sb,n⟩ H3 x3 rg3 σ3 rs3=>⟨s3,G4,rs3,rg3.ext' sb,xx.trans x3,n⟩,(cl.go xx).rt,(cl.go xx).nx,fun s3 G3 ⟨G4,sb,n⟩ H3 x3 rg3 σ3 rs3=>⟨s3,G4,rs3,rg3.ext' sb,xx.trans x3,n⟩⟩⟩
 ·have e:i=ds.length:=by omega
  subst e
  exact .inl ⟨I.st,cl.nx _ G1 (fin σD1 G1 p1) H1 x1 rg1 _ rs1⟩
def Qx(te:DTE)(g:DTG)(tb:DTS):DTS:=fun D σ G=>te σ G fun d G1=>∃ds,Bd G1 d=some ds∧Q2 ds (fun G'=>Bd G' d=some ds) g tb D σ G1
theorem Jl{tg iter:Expr}{g:DTG}{tb:DTS}(hp:PassesOwn (model X.prog X.w) X.A X.env X.xe)(hc:X.calm=true)(hi:QE X iter te)(hg:QG X tg g)(hb:QSs X body tb)(hs:∀x,foldedSetIterable iter X.env x=pure x:=by intro _;rfl):QS X (.For tg iter body [] pos) (Qx te g tb):=(Ro hp hc (Rp hi) hg hb hs).imp fun E σ H ⟨σD,G,D,rs,rg,h,cl⟩=>by
 refine⟨σD,G,_,rs,rg,h,fun d G1 ⟨ds,ei,L⟩ H1 x1 rg1 v dv=>?_⟩
 obtain⟨a,rfl⟩:=Lf ei dv
 refine⟨a,rfl,?_⟩
 have lp:=Ij (J:=jOf X.K d a) (rs.ext x1) rg1 (cl.go x1) (fun H' G' x' rg' s'=>Gi rg' s' (dv.ext x')) L
 have I0:=Gi rg1 ei dv
 cases dv with
 |tup e r=>exact .inr ⟨⟨_,.inl (.inl e)⟩,lp⟩
 |lint e=>exact .inl ⟨⟨_,e.sq⟩,lp⟩
 |ref=>
  simp only[Bd] at ei
  split at ei
  ·rename_i ds' q
   obtain⟨xs,e,r⟩:=rg1 a _ q
   exact .inl ⟨⟨_,.inl (.inl e)⟩,lp⟩
  ·cases ei
def O2(n:Nat):List D:=(List.range n).map fun i=>D.int (i:Nat)
theorem Df(n:Nat):(O2 n).length=n:=by simp[O2]
theorem Kz{n i:Nat}(h:i<n):(O2 n)[i]? = some (.int (i:Nat)):=by simp[O2,h]
def F5(tA:DTA)(g:DTG)(tb:DTS):DTS:=fun D σ G=>tA σ G fun ds G1=>∃j,ds=[.int j]∧(-(2 ^ 62)≤j∧j<2 ^ 62)∧Q2 (O2 j.toNat) (fun _=>True) g tb D σ G1
theorem Dk{tg:Expr}{g:DTG}{tb:DTS}{tA:DTA}{p p2:Pos}(hp:PassesOwn (model X.prog X.w) X.A X.env X.xe)(hc:X.calm=true)(hm:X.mg "range" = none)(ha:QA X [a] tA)(hg:QG X tg g)(hb:QSs X body tb)(hgl:Gl X "range":=by rfl)(hst:starEach [a] X.env=[(false,eval a X.env)]:=by rfl)(hs:∀x,foldedSetIterable (.Call (.Name "range" p) [a] [] p2) X.env x=pure x:=by intro _;rfl) :
  QS X (.For tg (.Call (.Name "range" p) [a] [] p2) body [] pos) (F5 tA g tb):=(Ro hp hc (Pr hgl hm ha hst) hg hb hs).imp fun E σ H ⟨σD,G,D,rs,rg,h,cl⟩=>by
 refine⟨σD,G,_,rs,rg,h,fun ds G1 ⟨j,ej,⟨j1,j2⟩,L⟩ H1 x1 rg1 vs dv=>?_⟩
 subst ej
 obtain⟨v,rfl,r⟩:=dv.one
 cases r
 refine⟨j,rfl,j1,j2,Ij (J:=Itr 0 j.toNat) (rs.ext x1) rg1 (cl.go x1) (fun H' G' x' rg' _=>?_) L⟩
 refine⟨fun i hi=>by rw[Df] at hi;exact hi,fun i x H2 hi y=>?_,by show j.toNat≤_;rw[Df];exact Nat.le_refl _⟩
 rw[Df] at hi
 obtain⟨e1,e2⟩:=y
 refine⟨e1,_,Kz hi,?_⟩
 rw[e2,Int.zero_add]
 exact .int _

abbrev DX:=Value→Gp→Prop
abbrev DSp:=List D→Gp→DK→DX→Prop
def Q7(K:PySem.W.Frag)(E:DX):XK:=fun c _ H'=>∃G',RelG K H' G'∧E c G'
def Ak(K:PySem.W.Frag)(sp:DSp):Sp:=fun vs H Q E=>∃ds G Q' E',DVs K H ds vs∧RelG K H G∧sp ds G Q' E'∧(∀d G',Q' d G'→Fwd K H G' fun H'=>∀v,DV K H' d v→Q v H')∧∀c G',E' c G'→Fwd K H G' fun H'=>∀ad,E c ad H'
structure Def(P:Program)(w:World)(K:PySem.W.Frag)(mg:Str→Option Value)(base:Heap)(CX:CXT)(k:Nat)(x:Str)(ps:List Str)(sp:DSp):Prop where
 ex:∃f fd,FnOk P w K mg base CX k f fd ps (Ak K sp)∧mg x=some (.ref f)∧PySem.W.keepIn K (.ref f)=true∧Binds K fd ps []
def Ba(sp:DSp)(E:DX)(t:DTA):DTE:=fun σ G Q=>t σ G fun ds G1=>sp ds G1 Q E
abbrev noX:DX:=fun _ _=>False
theorem q_call{CX:CXT}{k:Nat}{x:Str}{ps:List Str}{sp:DSp}{E:DX}{es:List Expr}{p:Pos}{tA:DTA}(F:Def X.prog X.w X.K X.mg X.base CX k x ps sp)(hr:Room k X.A)(hx:Jq CX X (Q7 X.K E))(ha:QA X (e::es) tA)(hg:Gl X x:=by rfl)(hdb:(x == ("__debug__" : Str))=false:=by decide)(he:starEach (e::es) X.env=(false,eval e X.env)::starEach es X.env:=by rfl)(hpl:(backTo pos (starEach es X.env)).any (·.1)=false:=by rfl) :
  QE X (.Call (.Name x p) (e::es) [] pos) (Ba sp E tA):=by
 obtain⟨f,fd,F,hm,hk,hb⟩:=F.ex
 refine(U1 (ds:=[]) (dvs:=[]) F hr hg hm hk hb .nil hx ha hdb he hpl).imp fun σ H Q ⟨σD,G,Q',rs,rg,h,cl⟩=>?_
 refine⟨σD,G,_,rs,rg,h,fun ds G1 h1 H1 x1 rg1 vs dv=>?_⟩
 show Ak X.K sp (vs++[]) H1 Q (Q7 X.K E)
 rw[List.append_nil]
 exact⟨ds,G1,Q',E,dv,rg1,h1,fun d G' q=>(cl d G' q).go x1,fun c G' q H2 x2 rg2 ad=>⟨G',rg2,q⟩⟩
theorem passN{E:DX}:Jq CX0 X (Q7 X.K E):=fun _ _ _ _ _ _ _ h=>h.elim

def An(N:List Str)(ds:List D):DSt:=ds.map some++List.replicate (N.length-ds.length) none
def Fq(Q:DK)(d:D)(G:Gp):Prop:=∃G',Sub G' G∧Q d G'
theorem Fq.of{Q:DK}{d:D}{G:Gp}(h:Q d G):Fq Q d G:=⟨G,Sub.refl G,h⟩
theorem Pe{K:W.Frag}{H:Hp}{N:List Str}{ds:List D}{vs:List V}(r:DVs K H ds vs):RelS K H (An N ds) (L2.start N vs):=by
 have hl:=r.length
 refine⟨by simp[An,L2.start,hl],fun i d e=>?_⟩
 unfold An at e
 unfold L2.start
 by_cases hi:i<ds.length
 ·rw[List.getElem?_append_left (by simpa using hi),List.getElem?_map] at e
  rw[List.getElem?_append_left (by simpa[←hl] using hi),List.getElem?_map]
  cases q:ds[i]? with
  |none=>rw[q] at e;cases e
  |some d'=>
   rw[q] at e;cases e
   obtain⟨v,ev,dv⟩:=r.get q
   exact⟨v,by rw[ev];rfl,dv⟩
 ·rw[List.getElem?_append_right (by simpa using hi),List.getElem?_replicate] at e
  split at e<;>cases e
section
variable{P:Program}{w:World}{K:W.Frag}{mg:Str→Option Value}{base:Heap}
theorem okD{x qual:Str}{st:Stmt}{f:Addr}{fd:FuncData}{N ps:List Str}{k:Nat}{sp:DSp}(F:Fun K x qual st f fd)(S:FnScope N ps (Ag st))(len:∀ds G Q E,sp ds G Q E→ds.length=ps.length)(hbody:∀(cdv:Value) (A:Around) (outer:List Env) (s:Shared) (H:Hp) (XE:XK) (ds:List D) (G:Gp) (Q:DK) (E:DX),Room k (A.deeper (envOfC qual (Ag st) s.heap.objs.size f cdv))→sp ds G Q E→
   ∃t,QSs (Mn CX0 P w K mg base N qual (Ag st) f cdv A outer s H XE).nox (C7 st) t∧t { nx:=fun _ G'=>Fq Q .non G',rt:=Fq Q } (An N ds) G):FnOk P w K mg base CX0 (k+1) f fd ps (Ak K sp):=by
 refine F.ok S (fun vs H Q E ⟨ds,G,Q',E',dv,rg,h,_⟩=>by rw[←dv.length];exact len ds G Q' E' h) fun cdv A outer s H vs Q E hr ⟨ds,G,Q',E',dv,rg,h,cl,_⟩=>?_
 obtain⟨t,ht,hq⟩:=hbody cdv A outer s H E ds G Q' E' hr h
 refine⟨_,ht,An N ds,G,_,Pe dv,rg,hq,⟨fun σD G1 ⟨G2,sb,q⟩ H1 x1 rg1 σ rs=>cl _ G2 q H1 x1 (rg1.ext' sb) _ .non,fun d G1 ⟨G2,sb,q⟩ H1 x1 rg1 v dv=>cl _ G2 q H1 x1 (rg1.ext' sb) _ dv,fun _ _ z=>z.elim,fun _ _ z=>z.elim⟩⟩
end
abbrev DRC:=List D→Gp→DK→Prop
def V9(K:PySem.W.Frag)(r:DRC):List V→Hp→VK→Prop:=fun xs H Q=>∃ds G Q',DVs K H ds xs∧RelG K H G∧r ds G Q'∧∀d G',Q' d G'→Fwd K H G' fun H'=>∀v,DV K H' d v→Q v H'
def QC(X:Cx)(f:Value)(r:DRC):Prop:=CallR X f (V9 X.K r)
theorem _root_.L2.CallR.imp{f:Value}{r r':List V→Hp→VK→Prop}(h:CallR X f r)(g:∀xs H Q,r' xs H Q→r xs H Q):CallR X f r':=fun pins s σ H xs us Q I rx q=>h pins s σ H xs us Q I rx (g xs H Q q)
def nCB(r:DRC)(t:DTA):DTE:=fun σ G Q=>t σ G fun vs G1=>r vs G1 Q
theorem Og{K:W.Frag}{r:DRC}{tA:DTA}{σ:St}{H:Hp}{Q:VK}(h:Ct K (nCB r tA) σ H Q):tCB (V9 K r) (Wa K tA) σ H Q:=by
 obtain⟨σD,G,Q',rs,rg,h,cl⟩:=h
 exact⟨σD,G,_,rs,rg,h,fun ds G1 h1 H1 x1 rg1 vs dv=>⟨ds,G1,Q',dv,rg1,h1,fun d G' q=>(cl d G' q).go x1⟩⟩
theorem q_callB{x:Str}{id:String}{r:DRC}{es:List Expr}{p:Pos}{tA:DTA}(hc:QC X (.builtin id) r)(hm:X.mg x=none)(hv:bootBuiltins x=some (.builtin id))(ha:QA X (e::es) tA)(hg:Gl X x:=by rfl)(hn:x≠"__name__":=by decide)(hdb:(x == ("__debug__" : Str))=false:=by decide)(he:starEach (e::es) X.env=(false,eval e X.env)::starEach es X.env:=by rfl)(hpl:(backTo pos (starEach es X.env)).any (·.1)=false:=by rfl):QE X (.Call (.Name x p) (e::es) [] pos) (nCB r tA):=(K5 hc hg hm hv ha hn hdb he hpl).imp fun _ _ _ h=>Og h
theorem q_callTy{x:Str}{T:String}{r:DRC}{es:List Expr}{p:Pos}{tA:DTA}(hc:QC X (.type T) r)(hm:X.mg x=none)(hv:bootBuiltins x=some (.type T))(ha:QA X (e::es) tA)(hg:Gl X x:=by rfl)(hn:x≠"__name__":=by decide)(hdb:(x == ("__debug__" : Str))=false:=by decide)(he:starEach (e::es) X.env=(false,eval e X.env)::starEach es X.env:=by rfl)(hpl:(backTo pos (starEach es X.env)).any (·.1)=false:=by rfl):QE X (.Call (.Name x p) (e::es) [] pos) (nCB r tA):=(Ie hc hg hm hv ha hn hdb he hpl).imp fun _ _ _ h=>Og h
theorem Wh:QC X (.builtin "abs") (fun ds G Q=>∃i,ds=[.int i]∧Q (.int (if i<0 then -i else i)) G):=call_abs.imp fun xs H Q ⟨ds,G,Q',dv,rg,⟨i,e,q⟩,cl⟩=>by
 subst e
 obtain⟨v,rfl,r⟩:=dv.one
 cases r
 exact⟨i,rfl,cl _ G q H (Ext.refl H) rg _ (.int _)⟩
theorem Yr(hc:X.calm=true):QC X (.builtin "max") (fun ds G Q=>∃i j,ds=[.int i,.int j]∧Q (.int (if j>i then j else i)) G):=(Qn hc).imp fun xs H Q ⟨ds,G,Q',dv,rg,⟨i,j,e,q⟩,cl⟩=>by
 subst e
 obtain⟨v,w,rfl,r,r'⟩:=dv.two
 cases r;cases r'
 exact⟨i,j,rfl,cl _ G q H (Ext.refl H) rg _ (.int _)⟩
theorem c_min2(hc:X.calm=true):QC X (.builtin "min") (fun ds G Q=>∃i j,ds=[.int i,.int j]∧Q (.int (if j<i then j else i)) G):=(Qm hc).imp fun xs H Q ⟨ds,G,Q',dv,rg,⟨i,j,e,q⟩,cl⟩=>by
 subst e
 obtain⟨v,w,rfl,r,r'⟩:=dv.two
 cases r;cases r'
 exact⟨i,j,rfl,cl _ G q H (Ext.refl H) rg _ (.int _)⟩
theorem Tv:QC X (.builtin "divmod") (fun ds G Q=>∃i j,ds=[.int i,.int j]∧Mo i j∧Q (.tup [.int (i / j),.int (i % j)]) G):=call_divmod.imp fun xs H Q ⟨ds,G,Q',dv,rg,⟨i,j,e,hc,q⟩,cl⟩=>by
 subst e
 obtain⟨v,w,rfl,r,r'⟩:=dv.two
 cases r;cases r'
 refine⟨i,j,rfl,hc,fun p hp=>?_⟩
 exact cl _ G q _ (Ext.fresh hp) (rg.tup hp) _ (.tup A4 (.cons (.int _) (.cons (.int _) .nil)))
def Jh(G:Gp):D→Option Nat
 |.tup ds=>some ds.length
 |.lint ns=>some ns.length
 |.str y=>if y.length≤sizeLine then some y.length else none
 |.ref a=>match G a with
  |some (.lst ds)=>some ds.length
  |_=>none
 |_=>none
theorem c_len:QC X (.builtin "len") (fun ds G Q=>∃d,ds=[d]∧∃n,Jh G d=some n∧Q (.int (n:Nat)) G):=call_len.imp fun xs H Q ⟨ds,G,Q',dv,rg,⟨d,e,n,en,q⟩,cl⟩=>by
 subst e
 obtain⟨v,rfl,r⟩:=dv.one
 refine⟨v,n,rfl,?_,cl _ G q H (Ext.refl H) rg _ (.int _)⟩
 cases r with
 |tup e r=>cases en;exact .inr ⟨_,.inl (.inl e),r.length⟩
 |@lint ns a e=>cases en;exact .inl ⟨_,e.sq,by simp⟩
 |str y=>
  simp only[Jh] at en
  split at en
  ·rename_i hy;cases en;exact⟨hy,rfl⟩
  ·cases en
 |ref a=>
  simp only[Jh] at en
  split at en
  ·rename_i ds g
   cases en
   obtain⟨xs,e,r⟩:=rg a _ g
   exact .inl ⟨xs,.inl (.inl e),r.length⟩
  ·cases en
 |_=>cases en
theorem c_tuple:QC X (.type "tuple") (fun ds G Q=>∃d,ds=[d]∧∃es,Bd G d=some es∧Q (.tup es) G):=call_tuple_of.imp fun xs H Q ⟨ds,G,Q',dv,rg,⟨d,e,es,en,q⟩,cl⟩=>by
 subst e
 obtain⟨v,rfl,r⟩:=dv.one
 cases r with
 |tup e r=>cases en;exact⟨_,_,rfl,.inr ⟨.inl (.inl e),cl _ G q H (Ext.refl H) rg _ (.tup e r)⟩⟩
 |@lint ns a e=>cases en;exact⟨_,_,rfl,.inl ⟨e.sq,fun p hp=>cl _ G q _ (Ext.fresh hp) (rg.tup hp) _ (.tup A4 DVs.ints)⟩⟩
 |ref a=>
  simp only[Bd] at en
  split at en
  ·rename_i ds g
   cases en
   obtain⟨xs,e,r⟩:=rg a _ g
   exact⟨a,xs,rfl,.inl ⟨.inl (.inl e),fun p hp=>cl _ G q _ (Ext.fresh hp) (rg.tup hp) _ (.tup A4 (r.ext (Ext.fresh hp)))⟩⟩
  ·cases en
 |_=>cases en
theorem c_list:QC X (.type "list") (fun ds G Q=>∃d,ds=[d]∧∃es,Bd G d=some es∧∀p,G p=none→Q (.ref p) (Ad G p (.lst es))):=call_list_of.imp fun xs H Q ⟨ds,G,Q',dv,rg,⟨d,e,es,en,q⟩,cl⟩=>by
 subst e
 obtain⟨v,rfl,r⟩:=dv.one
 cases r with
 |tup e r=>cases en;exact⟨_,_,rfl,.inr (.inl (.inl e)),fun p hp=>cl _ _ (q p (rg.free hp)) _ (Ext.fresh hp) (rg.lst hp r) _ (.ref p)⟩
 |@lint ns a e=>cases en;exact⟨_,_,rfl,.inl e.sq,fun p hp=>cl _ _ (q p (rg.free hp)) _ (Ext.fresh hp) (rg.lst hp DVs.ints) _ (.ref p)⟩
 |ref a=>
  simp only[Bd] at en
  split at en
  ·rename_i ds g
   cases en
   obtain⟨xs,e,r⟩:=rg a _ g
   exact⟨a,xs,rfl,.inl (.inl (.inl e)),fun p hp=>cl _ _ (q p (rg.free hp)) _ (Ext.fresh hp) (rg.lst hp r) _ (.ref p)⟩
  ·cases en
 |_=>cases en
def T5(to:DTE)(ta:DTE):DTE:=fun σ G Q=>to σ G fun x G1=>∃p,x=.ref p∧(∃ds,G1 p=some (.lst ds))∧ta σ G1 fun y G2=>∃ds,G2 p=some (.lst ds)∧ds.length<sizeLine∧Q .non (Ad G2 p (.lst (ds++[y])))
theorem Q4{o:Expr}{to:DTE}{apos cpos:Pos}(ho:QE X o to)(ha:QE X e ta)(hbase:attributeBase o "append" X.env (eval o X.env)=eval o X.env:=by rfl)(hfew:((backTo cpos (starEach [e] X.env)).all (fun x=>!x.1)&&(backToKw cpos (keywordEach [] X.env)).all (fun x=>x.1.isSome)
   && decide (([e]:List Expr).length+([]:List Keyword).length+(if ([]:List Keyword).isEmpty then 0 else 1)<30))=true:=by rfl)(hline:(apos.endLine == cpos.line)=true:=by rfl)(hs:starEach [e] X.env=(false,eval e X.env)::starEach [] X.env:=by rfl)(hplain:(backTo cpos (starEach [] X.env)).any (·.1)=false:=by rfl) :
  QE X (.Call (.Attribute o "append" apos) [e] [] cpos) (T5 to ta):=
 (Zo PySem.F.plainAttrs_list PySem.F.slot_list_append PySem.F.type_list_append Ih ho (N6 ha qa_nil hs) hbase hfew hline hs hplain).imp fun σ H Q ⟨σD,G,Q',rs,rg,h,cl⟩=>by
 refine⟨σD,G,_,rs,rg,h,fun d G1 ⟨p,ep,⟨ds,eg⟩,h1⟩ H1 x1 rg1 v dv=>?_⟩
 subst ep;cases dv
 obtain⟨xs,ex,r⟩:=rg1 p _ eg
 refine⟨.inl ⟨rfl,xs,.inl (.inl ex)⟩,σD,G1,fun ds' G2=>∃y,ds'=[y]∧∃ds,G2 p=some (.lst ds)∧ds.length<sizeLine∧Q' .non (Ad G2 p (.lst (ds++[y]))),rs.ext x1,rg1,?_,?_⟩
 ·show ta σD G1 fun x G1=>A1 σD G1 fun xs G2=>_
  exact cast (by congr 1;funext y G2;simp[A1]) h1
 ·rintro ds' G2 ⟨y,rfl,ds2,eg2,hl,q⟩ H2 x2 rg2 vs dvs
  obtain⟨v,rfl,dv⟩:=dvs.one
  obtain⟨xs2,ex2,r2⟩:=rg2 p _ eg2
  exact⟨p,xs2,v,rfl,rfl,ex2,by rw[←r2.length];exact hl,cl _ _ q _ ((x1.trans x2).trans (Do ex2)) (rg2.lstw ex2 (r2.append (.cons dv .nil))) _ .non⟩
end
end D3
namespace D3
open PySem PySem.Spec
open PyProof.Rows hiding St
open L2 hiding St
theorem Bw{n:Nat}{g:DTG}{tb:DTS}{D:DEnds}{σ:DSt}{G:Gp}(P:Nat→DSt→Gp→Prop)(h0:P 0 σ G)(hs:∀i σ G,i<n→P i σ G→g (.int (i:Nat)) σ G fun σ2 G2=>tb { D with nx:=Fs (P (i+1)),ct:=Fs (P (i+1)),bk:=D.nx } σ2 G2)(hd:∀σ G,P n σ G→D.nx σ G):Q2 (O2 n) (fun _=>True) g tb D σ G:=by
 refine⟨P,h0,fun _ _ _ _ _=>trivial,fun i x σ G hx p=>?_,fun σ G p=>hd σ G (by rw[Df] at p;exact p)⟩
 have hi:i<n:=by
  have:=(List.getElem?_eq_some_iff.mp hx).1
  rw[Df] at this;exact this
 rw[Kz hi] at hx
 cases hx
 exact hs i σ G hi p
theorem q_globx{X:Cx}{x:Str}{i:Int}{pos:Pos}(hm:∃t,X.mg x=some (.int i t))(hg:Gl X x:=by rfl)(hd:(x == ("__debug__" : Str))=false:=by decide):QE X (.Name x pos) (nC (.int i)):=
 let ⟨_,h⟩:=hm;Xh h hg hd
theorem it0{P:Prop}[Decidable P]{A B:Prop}(h:P)(a:A):if P then A else B:=by rw[if_pos h];exact a
theorem it1{P:Prop}[Decidable P]{A B:Prop}(h:¬P)(b:B):if P then A else B:=by rw[if_neg h];exact b
theorem exI{p:Int→Prop}{j:Int}:(∃i,D.int j=D.int i∧p i)↔p j:=⟨fun⟨i,e,h⟩=>by cases e;exact h,fun h=>⟨j,rfl,h⟩⟩
theorem exB{p:Bool→Prop}{j:Bool}:(∃i,D.bl j=D.bl i∧p i)↔p j:=⟨fun⟨i,e,h⟩=>by cases e;exact h,fun h=>⟨j,rfl,h⟩⟩
theorem exR{p:Addr→Prop}{j:Addr}:(∃i,D.ref j=D.ref i∧p i)↔p j:=⟨fun⟨i,e,h⟩=>by cases e;exact h,fun h=>⟨j,rfl,h⟩⟩
theorem exT{p:List D→Prop}{j:List D}:(∃i,D.tup j=D.tup i∧p i)↔p j:=⟨fun⟨i,e,h⟩=>by cases e;exact h,fun h=>⟨j,rfl,h⟩⟩
theorem exS{α:Type}{p:α→Prop}{j:α}:(∃i,some j=some i∧p i)↔p j:=⟨fun⟨i,e,h⟩=>by cases e;exact h,fun h=>⟨j,rfl,h⟩⟩
theorem exSS{α:Type}{p:α→Prop}{j:α}:(∃i,some (some j)=some (some i)∧p i)↔p j:=⟨fun⟨i,e,h⟩=>by cases e;exact h,fun h=>⟨j,rfl,h⟩⟩
theorem ex1{p:D→Prop}{j:D}:(∃i,[j]=[i]∧p i)↔p j:=⟨fun⟨i,e,h⟩=>by cases e;exact h,fun h=>⟨j,rfl,h⟩⟩
theorem ex1I{p:Int→Prop}{j:Int}:(∃i,[D.int j]=[D.int i]∧p i)↔p j:=⟨fun⟨i,e,h⟩=>by cases e;exact h,fun h=>⟨j,rfl,h⟩⟩
theorem ex2{p:D→D→Prop}{j k:D}:(∃x y,[j,k]=[x,y]∧p x y)↔p j k:=⟨fun⟨_,_,e,h⟩=>by cases e;exact h,fun h=>⟨j,k,rfl,h⟩⟩
theorem ex2I{p:Int→Int→Prop}{j k:Int}:(∃x y,[D.int j,D.int k]=[D.int x,D.int y]∧p x y)↔p j k:=⟨fun⟨_,_,e,h⟩=>by cases e;exact h,fun h=>⟨j,k,rfl,h⟩⟩
theorem Dr{ds:List D}{same:Gp→Prop}{g:DTG}{tb:DTS}{D:DEnds}{σ:DSt}{G:Gp}(P:Nat→DSt→Gp→Prop)(h0:P 0 σ G)(hk:∀i σ G,i≤ds.length→P i σ G→same G)(hs:∀i x σ G,ds[i]? = some x→P i σ G→g x σ G fun σ2 G2=>tb { D with nx:=Fs (P (i+1)),ct:=Fs (P (i+1)),bk:=D.nx } σ2 G2)(hd:∀σ G,P ds.length σ G→D.nx σ G):Q2 ds same g tb D σ G:=⟨P,h0,hk,hs,hd⟩
theorem exCons{p:D→List D→Prop}{j:D}{r:List D}:(∃x y,j::r=x::y∧p x y)↔p j r:=⟨fun⟨_,_,e,h⟩=>by cases e;exact h,fun h=>⟨j,r,rfl,h⟩⟩
theorem Wu{α:Type}{x:α}{r:List α}:atI (x::r) 0=some x:=Cp (j:=0) rfl
theorem atI1{α:Type}{x y:α}{r:List α}:atI (x::y::r) 1=some y:=Cp (j:=1) rfl
theorem Es{G:Gp}{ds:List D}{i:Int}:Dw G (.tup ds) i=atI ds i:=rfl
theorem P7{G:Gp}{ns:List Int}{i:Int}:Dw G (.lint ns) i=atI (ns.map D.int) i:=rfl
theorem Ci{G:Gp}{a:Addr}{ds:List D}{i:Int}(h:G a=some (.lst ds)):Dw G (.ref a) i=atI ds i:=by simp only[Dw,h]
theorem F2{G:Gp}{ds:List D}:Jh G (.tup ds)=some ds.length:=rfl
theorem Lb{G:Gp}{ns:List Int}:Jh G (.lint ns)=some ns.length:=rfl
theorem Ax{G:Gp}{a:Addr}{ds:List D}(h:G a=some (.lst ds)):Bd G (.ref a)=some ds:=by simp only[Bd,h]
theorem Er{G:Gp}{ds:List D}:Bd G (.tup ds)=some ds:=rfl
theorem ix0{n:Nat}:ixN (n+1) 0=some 0:=by unfold ixN;rw[if_pos (by omega),if_pos (by omega)];rfl
theorem ix1{n:Nat}:ixN (n+2) 1=some 1:=by unfold ixN;rw[if_pos (by omega),if_pos (by omega)];rfl
def Wp(c:DTT)(t u:DTS):DTS:=fun D σ G=>∃M:DSt→Gp→Prop,(c σ G fun b G1=>if b=true then t { D with nx:=Fs M } σ G1 else u { D with nx:=Fs M } σ G1)∧∀σ' G',M σ' G'→D.nx σ' G'
theorem Rn{X:Cx}{c:Expr}{body orelse:List Stmt}{pos:Pos}{tc:DTT}{t u:DTS}(hc:QT X c tc)(ha:QSs X body t)(hb:QSs X orelse u):QS X (.If c body orelse pos) (Wp tc t u):=(V5 hc ha hb).imp fun E σ H ⟨σD,G,D,rs,rg,⟨M,h,hM⟩,cl⟩=>by
 refine⟨σD,G,_,rs,rg,h,fun k G1 h1 H1 x1 rg1=>?_⟩
 have cl':DEnds.Reach X.K H1 { D with nx:=Fs M } E:=⟨fun s2 G2 ⟨G3,sb,m⟩ H2 x2 rg2=>(cl.go x1).nx s2 G3 (hM s2 G3 m) H2 x2 (rg2.ext' sb),(cl.go x1).rt,(cl.go x1).bk,(cl.go x1).ct⟩
 dsimp only at h1 ⊢
 cases k with
 |true=>rw[if_pos rfl] at h1 ⊢;exact⟨σD,G1,_,rs.ext x1,rg1,h1,cl'⟩
 |false=>rw[if_neg Bool.false_ne_true] at h1 ⊢;exact⟨σD,G1,_,rs.ext x1,rg1,h1,cl'⟩
theorem Yt{α:Type}{xs:List α}{k:Nat}{x:α}(h:xs[k]? = some x):atI xs (k:Int)=some x:=Cp h
theorem szl{n:Nat}(h:n≤1000):n≤sizeLine:=Nat.le_of_lt (Pg h)
theorem sz2:2≤sizeLine:=szl (by decide)
theorem Ry{G:Gp}{a:Addr}{o:GO}(h:G a=some o):∃G0,G=Ad G0 a o:=⟨G,(Hy h).symm⟩
theorem F0{G:Gp}{a p:Addr}{o:GO}(h:Ad G a o p=none):a≠p∧G p=none:=by
 by_cases e:p=a
 ·subst e;rw[Aa] at h;cases h
 ·exact⟨Ne.symm e,by rw[Ao e] at h;exact h⟩
end D3
namespace D3
open PySem PySem.Spec
open PyProof.Rows hiding St
open L2 hiding St
def Wl(T:List Str)(σ:St):St:=List.replicate T.length none++σ

def Jp(ifs:List Expr)(env:Env):Sem Bool:=forIn ifs true fun c r=>if r=true then do let ok ←isTrue c env (eval c env);pure (ForInStep.yield ok) else pure (ForInStep.yield r)
def PF(X:Cx)(ifs:List Expr)(t:TT):Prop:=
 ∀(pins:List (Addr×Obj)) (s:Shared) (σ:St) (H:Hp) (Q:Bool→Hp→Prop),Inv X pins σ H s→t σ H Q→wpAny (model X.prog X.w) X.A (Jp ifs X.env) (TP X pins σ Q) X.xe s
theorem Xt{X:Cx}:PF X [] (fun _ H Q=>Q true H):=fun pins s σ H Q I h=>by
 unfold Jp
 rw[List.forIn_nil]
 exact wpAny_pure ⟨H,I,h⟩
theorem Xs{X:Cx}{c:Expr}{t:TT}(h:PT X c t):PF X [c] t:=fun pins s σ H Q I q=>by
 unfold Jp
 rw[List.forIn_cons]
 refine wpAny_bind ?_
 rw[if_pos rfl]
 refine wpAny_bind (thn (h pins s σ H Q I q) fun b s1 hb=>wpAny_pure ?_)
 show wpAny _ _ (forIn [] b _) _ _ s1
 rw[List.forIn_nil]
 exact wpAny_pure hb

def B0(cells:List (Str×Addr)):List (Str×NameKind)→List (Str×Addr)→List (Str×Addr)
 |[],cs=>cs
 |(n,k)::r,cs=>if (k == .free)=true then match cells.lookup n with
   |some c=>B0 cells r ((n,c)::cs)
   |none=>B0 cells r cs
  else B0 cells r cs
theorem Vp{env:Env}:∀(names:List (Str×NameKind)) (cs:List (Str×Addr)),(names.all fun y=>!(y.2 == .free)||(env.cells.lookup y.1).isSome)=true→
  (forIn names cs fun(x:Str×NameKind) (r:List (Str×Addr))=>(if (x.2 == NameKind.free)=true then do let __do_lift ←cellOf env x.1;pure (ForInStep.yield ((x.1,__do_lift)::r)) else pure (ForInStep.yield r):Sem (ForInStep (List (Str×Addr)))))=pure (B0 env.cells names cs):=by
 intro names
 induction names with
 |nil=>intro cs _;rw[List.forIn_nil];rfl
 |cons y r ih=>
  intro cs h
  obtain⟨n,k⟩:=y
  rw[List.all_cons,Bool.and_eq_true] at h
  rw[List.forIn_cons]
  by_cases hk:(k == NameKind.free)=true
  ·have hs:(env.cells.lookup n).isSome=true:=by
    have h1:=h.1
    simp only[hk,Bool.not_true,Bool.false_or] at h1
    exact h1
   obtain⟨c,hc⟩:=Option.isSome_iff_exists.mp hs
   simp only[hk,if_true,B0,hc,cellOf]
   exact ih _ h.2
  ·simp only[hk,B0]
   exact ih _ h.2
theorem Dv{cells:List (Str×Addr)}:∀(names:List (Str×NameKind)) (cs:List (Str×Addr)),(∀x c,cs.lookup x=some c→cells.lookup x=some c)→∀x c,(B0 cells names cs).lookup x=some c→cells.lookup x=some c
 |[],cs,h,x,c,e=>h x c e
 |(n,k)::r,cs,h,x,c,e=>by
  unfold B0 at e
  split at e
  ·split at e
   ·rename_i c' hc
    refine Dv r _ (fun y d z=>?_) x c e
    by_cases hy:y=n
    ·subst hy
     rw[List.lookup_cons_self] at z
     cases z
     exact hc
    ·rw[List.lookup_cons,beq_false_of_ne hy] at z
     exact h y d z
   ·exact Dv r _ h x c e
  ·exact Dv r _ h x c e
theorem Fb{cells:List (Str×Addr)}:∀(names:List (Str×NameKind)) (cs:List (Str×Addr)) (x:Str),(names.all fun y=>!(y.2 == .free)||(cells.lookup y.1).isSome)=true→((x,NameKind.free)∈names∨∃c,cs.lookup x=some c)→∃c,(B0 cells names cs).lookup x=some c
 |[],cs,x,_,h=>h.elim (fun z=>nomatch z) id
 |(n,k)::r,cs,x,ha,h=>by
  rw[List.all_cons,Bool.and_eq_true] at ha
  unfold B0
  by_cases hk:(k == NameKind.free)=true
  ·have hs:(cells.lookup n).isSome=true:=by
    have h1:=ha.1
    simp only[hk,Bool.not_true,Bool.false_or] at h1
    exact h1
   obtain⟨c,hc⟩:=Option.isSome_iff_exists.mp hs
   rw[if_pos hk,hc]
   refine Fb r _ x ha.2 ?_
   by_cases hx:x=n
   ·subst hx;exact .inr ⟨c,List.lookup_cons_self⟩
   ·rcases h with h|⟨d,h⟩
    ·rcases List.mem_cons.mp h with z|z
     ·cases z;exact absurd rfl hx
     ·exact .inl z
    ·exact .inr ⟨d,by rw[List.lookup_cons,beq_false_of_ne hx];exact h⟩
  ·rw[if_neg hk]
   refine Fb r _ x ha.2 (h.imp (fun z=>?_) id)
   rcases List.mem_cons.mp z with z|z
   ·cases z;exact absurd rfl hk
   ·exact z
def Fg(P:Gp→Prop)(G:Gp):Prop:=∃G',Sub G' G∧P G'
theorem Fg.of{P:Gp→Prop}{G:Gp}(h:P G):Fg P G:=⟨G,Sub.refl G,h⟩
def Wi(n:Nat)(σ σ2:DSt):Prop:=∃pre,pre.length=n∧σ2=pre++σ
def Ny(n:Nat)(p:Addr)(ds:List D)(same:Gp→Prop)(g:DTG)(tf:DTT)(te:DTE)(σ:DSt)(G:Gp)(Q:DK):Prop:=∃P:Nat→List D→Gp→Prop,P 0 [] G∧(∀i ys G,i≤ds.length→P i ys G→same G∧G p=some (.lst ys))∧
 (∀i x ys G,ds[i]? = some x→P i ys G→g x (List.replicate n none++σ) G fun σ2 G2=>Wi n σ σ2∧tf σ2 G2 fun b G3=>if b=true then te σ2 G3 fun y G4=>G4 p=some (.lst ys)∧ys.length<sizeLine∧Fg (P (i+1) (ys++[y])) (Ad G4 p (.lst (ys++[y]))) else Fg (P (i+1) ys) G3)∧
 ∀ys G,P ds.length ys G→Q (.ref p) G
theorem U3{K:W.Frag}{H:Hp}{σD:DSt}{σ:St}(n:Nat)(r:RelS K H σD σ):RelS K H (List.replicate n none++σD) (List.replicate n none++σ):=by
 refine⟨by simp[r.1],fun i d e=>?_⟩
 by_cases hi:i<n
 ·rw[List.getElem?_append_left (by simpa using hi),List.getElem?_replicate,if_pos hi] at e
  cases e
 ·rw[List.getElem?_append_right (by simpa using hi)] at e ⊢
  simp only[List.length_replicate] at e ⊢
  exact r.2 _ d e
section
variable{X:Cx}{elt iter:Expr}{x:Str}{px:Pos}{ifs:List Expr}{scope:Scope}{pos:Pos}{ti te:DTE}{tf:DTT}{T:List Str}
def QF(X:Cx)(ifs:List Expr)(t:DTT):Prop:=PF X ifs (Hr X.K t)
def Ef:DTT:=fun _ G Q=>Q true G
theorem qf_nil:QF X [] Ef:=fun pins s σ H Q I ⟨σD,G,Q',rs,rg,h,cl⟩=>Xt pins s σ H Q I (cl _ G h H (Ext.refl H) rg)
theorem qf_one{c:Expr}{t:DTT}(h:QT X c t):QF X [c] t:=Xs h
end
end D3
namespace D3
open PySem PySem.Spec
open PyProof.Rows hiding St
open L2 hiding St
def Dd(G:Gp):D→Option String
 |.non=>some "NoneType"
 |.bl _=>some "bool"
 |.int _=>some "int"
 |.str _=>some "str"
 |.tup _=>some "tuple"
 |.ref a=>match G a with
  |some (.lst _)=>some "list"
  |some (.dct _)=>some "dict"
  |some (.dkk _)=>some "dict"
  |_=>none
 |_=>none
theorem Mp{G:Gp}{i:List D}:Dd G (.tup i)=some "tuple":=rfl
def pyIs(t c:String):Bool:=t == c||(t == "bool" && c == "int")
def Wb(t c:String):Option Bool:=if (Value.type t == Value.type c)=true then some true else if PySem.W.kitMeta c=true then (fastBuiltinMro t).map (·.contains (.type c)) else none
theorem Yf(K:PySem.W.Frag)(t c:String):PySem.W.kitOne K (.type t) (.type c)=Wb t c:=rfl
abbrev tNames:List String:=["NoneType", "bool", "int", "str", "tuple", "list", "dict"]
abbrev cNames:List String:=["int", "bool", "tuple", "list", "str", "dict"]
theorem Tj:(tNames.all fun t=>cNames.all fun c=>Wb t c == some (pyIs t c))=true:=by decide +kernel
theorem My{G:Gp}{d:D}{t:String}(h:Dd G d=some t):t∈tNames:=by
 cases d<;>simp only[Dd] at h<;>first
  |(cases h;decide)
  |(split at h<;>first|(cases h;decide)|cases h)
  |cases h
theorem Ub{K:W.Frag}{H:Hp}{G:Gp}{d:D}{v:V}{t:String}(rg:RelG K H G)(h:Dd G d=some t)(dv:DV K H d v):TyOf K H v (.type t):=by
 cases dv with
 |non=>cases h;exact .non
 |bl b=>cases h;exact .bl b
 |int i=>cases h;exact .int i
 |str x=>cases h;exact .str x
 |tup e r=>cases h;exact .tup e
 |ty n=>cases h
 |lint e=>cases h
 |ref a=>
  simp only[Dd] at h
  split at h
  ·rename_i ds q;cases h;obtain⟨xs,e,_⟩:=rg a _ q;exact .lst e
  ·rename_i ds q;cases h;obtain⟨xs,e,_⟩:=rg a _ q;exact .dT e
  ·rename_i ds q;cases h;obtain⟨xs,e,_⟩:=rg a _ q;exact .dK e
  ·cases h
theorem Yq:("int"∈cNames)=True:=by decide
theorem Vo:("bool"∈cNames)=True:=by decide
theorem Gs:("tuple"∈cNames)=True:=by decide
def Kn(G:Gp)(d:D):Prop:=∃t,Dd G d=some t
section
variable{X:Cx}
theorem c_isinst:QC X (.builtin "isinstance") (fun ds G Q=>∃x c,ds=[x,.ty c]∧c∈cNames∧∃t,Dd G x=some t∧Q (.bl (pyIs t c)) G):=by
 intro pins s σ H xs us Q I r ⟨ds,G,Q',dv,rg,⟨x,c,e,hc,t,ht,q⟩,cl⟩
 subst e
 obtain⟨v,w,rfl,d1,d2⟩:=dv.two
 cases d2
 obtain⟨u1,u2,rfl,r1,r2⟩:=Nr r
 cases r2
 have hk:PySem.W.kitOne X.K (.type t) (.type c)=some (pyIs t c):=by
  rw[Yf]
  have h1:=List.all_eq_true.mp Tj t (My ht)
  have h2:=List.all_eq_true.mp h1 c hc
  exact beq_iff_eq.mp h2
 refine P8 I r1 (Ub rg ht d1) hk fun tk=>?_
 exact⟨.bl (pyIs t c),H,I.tok _,rfl,cl _ G q H (Ext.refl H) rg _ (.bl _)⟩

theorem Qo(hc:X.calm=true):CallR X (.builtin "all") (fun xs H Q=>∃(a:Addr) (bs:List Bool),xs=[.ref a]∧SqL X.K H a (bs.map V.bl)∧Q (.bl (bs.all id)) H):=by
 intro pins s σ H xs us Q I r h
 obtain⟨a,bs,rfl,hq,q⟩:=h
 obtain⟨u,rfl,ru⟩:=Dc r
 cases ru
 obtain⟨its,rv,p,hz⟩:=I.list hq
 refine call_all_walk ?_
 refine wpAny_pyIter_list p.isList ?_
 have hlt:a<s.heap.objs.size:=by obtain⟨_,_,e,_⟩:=p;exact Heap.lt_size e
 refine⟨s.heap.objs.size,_,_,_,_,_,fun i=>(bs[i]?).getD true,rfl,Walks.list (A:=X.A.in1) (I.ok.hd hc) _ _ (Nat.ne_of_lt hlt) its.toArray,⟨⟨_,Heap.get?_push_size _ rfl,rfl,rfl⟩,p.isList.push _⟩,?_,?_⟩
 ·intro i v s' Q' E' hP hQ
  have hv:its[i]? = some v:=by simpa using hP
  have hb:∃b,bs[i]? = some b∧v=Value.bool b:=by
   have key:∀(bs:List Bool) (its:List Value),Vals (bs.map V.bl) its→∀(i:Nat) (v:Value),its[i]? = some v→∃b,bs[i]? = some b∧v=Value.bool b:=by
    intro bs
    induction bs with
    |nil=>intro its r i v e;cases r;simp at e
    |cons b bs ih=>
     intro its r i v e
     rw[List.map_cons] at r
     cases r with
     |cons r1 r2=>
      cases i with
      |zero=>simp at e;subst e;cases r1;exact⟨b,rfl,rfl⟩
      |succ i=>simpa using ih _ r2 i v (by simpa using e)
   exact key bs its rv i v hv
  obtain⟨b,eb,rfl⟩:=hb
  refine wpAny_truthy_bool ?_
  have:(bs[i]?).getD true=b:=by rw[eb];rfl
  dsimp only at hQ;rw[this] at hQ;exact hQ
 ·intro h' tk hk
  have hl:=rv.length
  rw[List.length_map] at hl
  have e:((List.range its.toArray.size).all fun i=>(bs[i]?).getD true)=bs.all id:=by
   rw[List.size_toArray,←hl,Bool.eq_iff_iff,List.all_eq_true,List.all_eq_true]
   constructor
   ·intro h b hb
    obtain⟨i,hi,e⟩:=List.getElem_of_mem hb
    have:=h i (List.mem_range.mpr hi)
    rw[List.getElem?_eq_getElem hi,e] at this
    exact this
   ·intro h i hi
    have hi:=List.mem_range.mp hi
    rw[List.getElem?_eq_getElem hi]
    exact h _ (List.getElem_mem hi)
  refine⟨.bl (bs.all id),H,I.kept (t':=tk) fun b o eb=>hk b o (fun z=>?_) (Heap.get?_push_of_some _ eb),by rw[e];rfl,q⟩
  have:b=s.heap.objs.size:=by simpa using z
  subst this
  exact absurd (Heap.lt_size eb) (Nat.lt_irrefl _)
theorem R6{K:W.Frag}{H:Hp}:∀{bs:List Bool} {vs:List V},DVs K H (bs.map D.bl) vs→vs=bs.map V.bl
 |[],_,r=>by cases r;rfl
 |b::bs,_,r=>by
  cases r with
  |cons h t=>cases h;rw[R6 t];rfl
theorem c_all(hc:X.calm=true):QC X (.builtin "all") (fun ds G Q=>∃a,ds=[.ref a]∧∃bs:List Bool,G a=some (.lst (bs.map D.bl))∧Q (.bl (bs.all id)) G):=(Qo hc).imp fun xs H Q ⟨ds,G,Q',dv,rg,⟨a,e,bs,eg,q⟩,cl⟩=>by
 subst e
 obtain⟨v,rfl,r⟩:=dv.one
 cases r
 obtain⟨ys,ey,ry⟩:=rg a _ eg
 have:=R6 ry
 subst this
 exact⟨a,bs,rfl,.inl (.inl ey),cl _ G q H (Ext.refl H) rg _ (.bl _)⟩
theorem C9{n i0:Nat}{p:Addr}{ds:List D}{same:Gp→Prop}{tf:DTT}{te:DTE}{σ:DSt}{G:Gp}{Q:DK}(f:D→D)(c:D→Bool)(hz:ds.length<sizeLine)(hsm:∀ys,same (Ad G p (.lst ys)))(h0:i0<n)(hs:∀x ys,x∈ds→ys.length<sizeLine→∀(R1:D→Gp→Prop) (R2:Gp→Prop),(c x=true→R1 (f x) (Ad G p (.lst (ys++[f x]))))→(c x=false→R2 (Ad G p (.lst ys)))→
   tf ((List.replicate n none++σ).set i0 (some x)) (Ad G p (.lst ys)) fun b G3=>if b=true then te ((List.replicate n none++σ).set i0 (some x)) G3 fun y G4=>G4 p=some (.lst ys)∧ys.length<sizeLine∧Fg (R1 y) (Ad G4 p (.lst (ys++[y]))) else Fg R2 G3)(hq:Q (.ref p) (Ad G p (.lst ((ds.filter c).map f)))):Ny n p ds same (As i0) tf te σ (Ad G p (.lst [])) Q:=by
 refine⟨fun i ys G'=>ys=((ds.take i).filter c).map f∧Ad G p (.lst ys)=G',⟨rfl,rfl⟩,?_,?_,?_⟩
 ·rintro i ys _ _ ⟨_,rfl⟩
  exact⟨hsm ys,Aa⟩
 ·rintro i x ys _ hx ⟨e,rfl⟩
  have hi:=(List.getElem?_eq_some_iff.mp hx).1
  have hl:ys.length<sizeLine:=by
   rw[e,List.length_map]
   refine Nat.lt_of_le_of_lt (List.length_filter_le _ _) ?_
   rw[List.length_take];omega
  have tk:ds.take (i+1)=ds.take i++[x]:=by rw[List.take_add_one,hx];rfl
  refine⟨⟨(List.replicate n none).set i0 (some x),by simp,by rw[List.set_append_left _ _ (by simpa using h0)]⟩,?_⟩
  refine hs x ys (List.mem_of_getElem? hx) hl (fun y G'=>ys++[y]=((ds.take (i+1)).filter c).map f∧Ad G p (.lst (ys++[y]))=G') (fun G'=>ys=((ds.take (i+1)).filter c).map f∧Ad G p (.lst ys)=G') (fun hc=>⟨?_,rfl⟩) (fun hc=>⟨?_,rfl⟩)
  ·rw[tk,List.filter_append,List.map_append,←e];simp[hc]
  ·rw[tk,List.filter_append,List.map_append,←e];simp[hc]
 ·rintro ys _ ⟨e,rfl⟩
  rw[List.take_length] at e
  rw[e];exact hq
end
end D3
namespace D3
open PySem PySem.Spec
open PyProof.Rows hiding St
open L2 hiding St
mutual
inductive RepD (G:Gp):D→PyData→Prop where
 |non:RepD G .non .none
 |bl (b:Bool):RepD G (.bl b) (.bool b)
 |int (i:Int):RepD G (.int i) (.int i)
 |str (x:Str):RepD G (.str x) (.str x)
 |tup {ds:List D} {ps:List PyData} (r:RepDs G ds ps):RepD G (.tup ds) (.tuple ps)
 |lst {a:Addr} {ds:List D} {ps:List PyData} (e:G a=some (.lst ds)) (r:RepDs G ds ps):RepD G (.ref a) (.list ps)
 |dct0 {a:Addr} (e:G a=some (.dkk [])):RepD G (.ref a) (.dict [])
inductive RepDs (G:Gp):List D→List PyData→Prop where
 |nil:RepDs G [] []
 |cons {d:D} {p:PyData} {ds:List D} {ps:List PyData} (h:RepD G d p) (t:RepDs G ds ps):RepDs G (d::ds) (p::ps)
end
section
variable{P:Program}{w:World}{K:W.Frag}{H:Hp}{G:Gp}{h:Heap}
mutual
theorem B1(rg:RelG K H G)(ok:HOk P w H h):∀{d:D} {p:PyData} {v:V} {u:Value},RepD G d p→DV K H d v→RelV v u→∃as,Reads h u p as∧∀b∈as,H b≠none
 |_,_,_,_,.non,dv,r=>by cases dv;cases r;exact⟨_,.none,by simp⟩
 |_,_,_,_,.bl b,dv,r=>by cases dv;cases r;exact⟨_,.bool b,by simp⟩
 |_,_,_,_,.int i,dv,r=>by cases dv;obtain⟨t,rfl⟩:=r;exact⟨_,.int i t,by simp⟩
 |_,_,_,_,.str x,dv,r=>by cases dv;obtain⟨t,rfl⟩:=r;exact⟨_,.str x t,by simp⟩
 |_,_,_,_,.tup rs,dv,r=>by
  cases dv with
  |@tup _ a xs e ds=>
   cases r
   obtain⟨_,its,rv,o,h1,h2,n,h3⟩:=(show ObjOk P w H h a (.tup xs) from ok a _ e)
   obtain⟨as,ra,hb⟩:=Dh rg ok rs ds rv
   exact⟨_,.tuple h1 h2 h3 (by simpa using ra),hb⟩
 |_,_,_,_,@RepD.lst _ a _ _ e rs,dv,r=>by
  cases dv with
  |ref=>
   cases r
   obtain⟨xs,ex,ds⟩:=rg _ _ e
   obtain⟨_,its,n,rv,h1⟩:=(show ObjOk P w H h a (.lst xs) from ok a _ ex)
   obtain⟨as,ra,hb⟩:=Dh rg ok rs ds rv
   refine⟨_,.list h1 rfl rfl (by simpa using ra),fun b hm=>?_⟩
   rcases List.mem_cons.mp hm with z|z
   ·subst z;rw[ex];simp
   ·exact hb b z
 |_,_,_,_,@RepD.dct0 _ a e,dv,r=>by
  cases dv with
  |ref=>
   cases r
   obtain⟨ks,ex,ds⟩:=rg _ _ e
   cases ds
   obtain⟨_,_,vs,rv,o,es,ep,h1,h2,h3,_,h4,_⟩:=(show ObjOk P w H h a (.dK []) from ok a _ ex)
   cases rv
   have he:es.toList=[]:=by
    revert h4
    cases es.toList with
    |nil=>intro _;rfl
    |cons x r=>intro h4;exact absurd h4 (by intro z;cases z)
   refine⟨_,.dict (kvs:=[]) h1 h2.1 h3 (by rw[he];exact .nil) (by rw[he];exact .nil),fun b hm=>?_⟩
   have:b=a:=by simpa using hm
   subst this
   rw[ex];simp
theorem Dh(rg:RelG K H G)(ok:HOk P w H h):∀{ds:List D} {ps:List PyData} {vs:List V} {us:List Value},RepDs G ds ps→DVs K H ds vs→Vals vs us→∃as,ReadsAll h us ps as∧∀b∈as,H b≠none
 |_,_,_,_,.nil,dv,r=>by cases dv;cases r;exact⟨_,.nil,by simp⟩
 |_,_,_,_,.cons hd tl,dv,r=>by
  cases dv with
  |cons d1 d2=>
   cases r with
   |cons r1 r2=>
    obtain⟨as,a,ha⟩:=B1 rg ok hd d1 r1
    obtain⟨bs,b,hb⟩:=Dh rg ok tl d2 r2
    exact⟨_,.cons a b,fun x hx=>(List.mem_append.mp hx).elim (ha x) (hb x)⟩
end
end
section
variable{X:Cx}{k:Nat}
def Y9:DR2:=fun x y G Q=>∃p q,RepD G x p∧RepD G y q∧p.canLay0=true∧q.canLay0=true∧min p.depth q.depth≤100∧Q (.bl (PyData.eqv p q)) G
def T6:DR2:=fun x y G Q=>∃p q,RepD G x p∧RepD G y q∧p.canLay0=true∧q.canLay0=true∧min p.depth q.depth≤100∧Q (.bl (!PyData.eqv p q)) G
theorem Fw{A:Around}(hr:Room k A){n:Nat}(h:n≤100):A.units+n<cLine:=by have:=hr.un;omega
theorem Zv(hr:Room k X.A):QOp X (compareOp .Eq) Y9:=by
 intro pins s σ H x y v u Q I rx ry ⟨dx,dy,G,Q',hx,hy,rg,⟨p,q,rp,rq,c1,c2,hd,h⟩,cl⟩
 obtain⟨as,ra,hfa⟩:=B1 rg I.hok rp hx rx
 obtain⟨bs,rb,hfb⟩:=B1 rg I.hok rq hy ry
 exact SeqAt.compareEq_reads ra rb c1 c2 (Fw hr hd) ⟨.bl _,H,I,rfl,cl _ G h H (Ext.refl H) rg _ (.bl _)⟩
theorem o_neD(hr:Room k X.A):QOp X (compareOp .NotEq) T6:=by
 intro pins s σ H x y v u Q I rx ry ⟨dx,dy,G,Q',hx,hy,rg,⟨p,q,rp,rq,c1,c2,hd,h⟩,cl⟩
 obtain⟨as,ra,hfa⟩:=B1 rg I.hok rp hx rx
 obtain⟨bs,rb,hfb⟩:=B1 rg I.hok rq hy ry
 exact SeqAt.compareNe_reads ra rb c1 c2 (Fw hr hd) ⟨.bl _,H,I,rfl,cl _ G h H (Ext.refl H) rg _ (.bl _)⟩
def Y8(neg:Bool):DR2:=fun x y G Q=>∃p ps,RepD G x p∧(RepD G y (.list ps)∨RepD G y (.tuple ps))∧p.canLay0=true∧PyData.canLayAll0 ps=true∧1+min (PyData.depthAll ps) p.depth≤100∧Q (.bl (if neg then !(ps.any fun y=>PyData.eqv y p) else ps.any fun y=>PyData.eqv y p)) G
theorem o_notinD(hr:Room k X.A):QOp X (compareOp .NotIn) (Y8 true):=by
 intro pins s σ H x y v u Q I rx ry ⟨dx,dy,G,Q',hx,hy,rg,⟨p,ps,rp,rq,c1,c2,hd,h⟩,cl⟩
 obtain⟨as,ra,hfa⟩:=B1 rg I.hok rp hx rx
 have fin:EP X pins σ Q (.bool (!ps.any fun y=>PyData.eqv y p)) s:=⟨.bl _,H,I,rfl,cl _ G h H (Ext.refl H) rg _ (.bl _)⟩
 rcases rq with rq|rq
 ·obtain⟨bs,rb,hfb⟩:=B1 rg I.hok rq hy ry
  exact SeqAt.notIn_list_reads rb ra c2 c1 (by have:=Fw hr hd;omega) fin
 ·obtain⟨bs,rb,hfb⟩:=B1 rg I.hok rq hy ry
  exact SeqAt.notIn_tuple_reads rb ra c2 c1 (by have:=Fw hr hd;omega) fin
end
end D3
namespace D3
open PySem PySem.Spec
open PyProof.Rows hiding St
open L2 hiding St
section
variable{prog:Program}{w:World}{A:Around}{E:Value→Shared→Prop}{s:Shared}
theorem Ez{t sl:Addr}{items:Array Value}{vl vu:Value}{lo hi:Option Int}{Q:Value→Shared→Prop}(ht:IsTup s.heap t items)(hs:s.heap.IsSliceOf sl vl vu .none)(pl:IsPart vl lo)(pu:IsPart vu hi)(hw:HT.sIx items.size 0 lo=0∧HT.sIx items.size items.size hi=items.size)(h:Q (.ref t) s):wpAny (model prog w) A (getItem (.ref t) (.ref sl)) Q E s:=by
 obtain⟨os,hos,hcs,hds⟩:=id hs
 have hTs:s.TypeIs (.ref sl) "slice":=⟨os,hos,hcs⟩
 unfold getItem
 try with_reducible refine wpAny_holding ?_
 first|refine wpAny_bind (wpAny_pure ?_)|skip
 refine wpAny_bind (wpAny_sequenceKey ht.typeIs (by decide) ?_)
 refine wpAny_bind (wpAny_callSpecial?_slot (name:=Str.ofString "__getitem__") ht.typeIs PyProof.Rows.slot_tuple_getitem
  (wpAny_call_entry PyProof.Rows.slot_tuple_getitem ht.typeIs entry_tuple_getitem ?_ (args_tuple_getitem _ _)))
 show wpAny _ _ (Builtin.Tuple.tupleItemsOf (.ref t) >>= _) _ _ s
 refine wpAny_bind (tupleItemsOf_ ht ?_)
 refine wpAny_bind (wpAny_typeOf hTs ?_)
 rw[if_pos (by decide)]
 refine wpAny_bind (HT.sliceApplied_gen hs pl pu ?_)
 show wpAny _ _ (if (((HT.sIx items.size 0 lo:Nat):Int) == 0&&(1:Int) == 1&&(HT.sIx items.size items.size hi-HT.sIx items.size 0 lo) == items.size)=true then _ else _) _ _ s
 rw[if_pos (by rw[hw.1,hw.2];simp)]
 refine wpAny_bind ?_
 unfold Builtin.Tuple.tupleIsExact
 refine wpAny_bind (wpAny_typeOf ht.typeIs (wpAny_pure ?_))
 rw[if_pos (by decide)]
 refine wpAny_bind (wpAny_rule ?_)
 exact wpAny_pure ⟨_,rfl,wpAny_pure h⟩
end
section
variable{X:Cx}{a b c e:Expr}{ta tb tc te:DTE}{pos p2:Pos}{lo hi:Option Expr}
def Fm(xs:List D)(lo hi:Option Int):List D:=(xs.drop (HT.sIx xs.length 0 lo)).take (HT.sIx xs.length xs.length hi-HT.sIx xs.length 0 lo)
theorem R5{K:W.Frag}{H:Hp}{ds:List D}{vs:List V}(r:DVs K H ds vs)(lo hi:Option Int):DVs K H (Fm ds lo hi) (Kp vs lo hi):=by
 unfold Fm Kp;rw[r.length];exact(r.drop _).take _
theorem Qh{ds:List D}{lo hi:Option Int}(h:HT.sIx ds.length 0 lo=0∧HT.sIx ds.length ds.length hi=ds.length):Fm ds lo hi=ds:=by
 unfold Fm;rw[h.1,h.2];simp
abbrev DTO:=DSt→Gp→(Option Int→Gp→Prop)→Prop
def Zw(K:PySem.W.Frag)(t:DTO):TO:=fun σ H Q=>∃σD G Q',RelS K H σD σ∧RelG K H G∧t σD G Q'∧∀o G',Q' o G'→Fwd K H G' fun H'=>Q o H'
def QO(X:Cx)(e:Option Expr)(t:DTO):Prop:=PO X e (Zw X.K t)
def Od:DTO:=fun _ G Q=>Q none G
def V6(t:DTE):DTO:=fun σ G Q=>t σ G fun x G1=>∃i,x=.int i∧Q (some i) G1
theorem _root_.L2.PO.imp{X:Cx}{e:Option Expr}{t t':TO}(h:PO X e t)(f:∀σ H Q,t' σ H Q→t σ H Q):PO X e t':=fun pins s σ H Q I q=>h pins s σ H Q I (f σ H Q q)
theorem Fy:QO X none Od:=po_none.imp fun σ H Q ⟨σD,G,Q',rs,rg,h,cl⟩=>cl _ G h H (Ext.refl H) rg
theorem Fx(h:QE X e te):QO X (some e) (V6 te):=(Ux h).imp fun σ H Q ⟨σD,G,Q',rs,rg,h,cl⟩=>by
 refine⟨σD,G,_,rs,rg,h,fun d G1 ⟨i,ei,h1⟩ H1 x1 rg1 v dv=>?_⟩
 subst ei;cases dv
 exact⟨i,rfl,cl _ G1 h1 H1 x1 rg1⟩
def B4(G:Gp)(x:D)(lo hi:Option Int)(Q:DK):Prop:=match x with
 |.tup ds=>Q (.tup (Fm ds lo hi)) G
 |.ref a=>match G a with
  |some (.lst ds)=>∀p,G p=none→Q (.ref p) (Ad G p (.lst (Fm ds lo hi)))
  |_=>False
 |_=>False
def rSl(K:PySem.W.Frag):V→Option Int→Option Int→Hp→VK→Prop:=fun x lo hi H Q=>∃d G Q',DV K H d x∧RelG K H G∧B4 G d lo hi Q'∧∀d G',Q' d G'→Fwd K H G' fun H'=>∀v,DV K H' d v→Q v H'
theorem Xb:SlR X (rSl X.K):=by
 intro pins s σ H x v vl vu lo hi sl Q I rx hs pl pu ⟨d,G,Q',dv,rg,h,cl⟩
 cases dv with
 |@tup ds a xs e r=>
  have h:Q' (.tup (Fm ds lo hi)) G:=h
  by_cases hw:HT.sIx xs.length 0 lo=0∧HT.sIx xs.length xs.length hi=xs.length
  ·cases rx
   obtain⟨its,rv,ht,hz⟩:=I.tuple (.inl (.inl e))
   have hlen:its.toArray.size=xs.length:=by rw[List.size_toArray];exact rv.length.symm
   refine⟨"tuple",_,PyProof.Rows.slot_tuple_getitem.lookup,ht.typeIs,Ez ht hs pl pu (by rw[hlen];exact hw) ⟨.ref a,H,I,rfl,?_⟩⟩
   rw[Qh (by rw[r.length];exact hw)] at h
   exact cl _ G h H (Ext.refl H) rg _ (.tup e r)
  ·exact W8 pins s σ H _ v vl vu lo hi sl Q I rx hs pl pu ⟨a,xs,rfl,.inl (.inl e),hw,fun p hp=>cl _ G h _ (Ext.fresh hp) (rg.tup hp) _ (.tup A4 ((R5 r lo hi).ext (Ext.fresh hp)))⟩
 |ref a=>
  simp only[B4] at h
  split at h
  ·rename_i ds g
   obtain⟨xs,e,r⟩:=rg a _ g
   exact Ue pins s σ H _ v vl vu lo hi sl Q I rx hs pl pu ⟨a,xs,rfl,.inl (.inl e),fun p hp=>cl _ _ (h p (rg.free hp)) _ (Ext.fresh hp) (rg.lst hp (R5 r lo hi)) _ (.ref p)⟩
  ·exact h.elim
 |_=>exact h.elim
def nSl(te:DTE)(tl th:DTO):DTE:=fun σ G Q=>te σ G fun x G1=>tl σ G1 fun l G2=>th σ G2 fun u G3=>B4 G3 x l u Q
theorem Fz{tl th:DTO}(he:QE X e te)(hl:QO X lo tl)(hu:QO X hi th):QE X (.Subscript e (.Slice lo hi none p2) pos) (nSl te tl th):=(Ss Xb he hl hu).imp fun σ H Q ⟨σD,G,Q',rs,rg,h,cl⟩=>by
 refine⟨σD,G,_,rs,rg,h,fun x G1 h1 H1 x1 rg1 v1 d1=>?_⟩
 refine⟨σD,G1,_,rs.ext x1,rg1,h1,fun l G2 h2 H2 x2 rg2=>?_⟩
 refine⟨σD,G2,_,rs.ext (x1.trans x2),rg2,h2,fun u G3 h3 H3 x3 rg3=>?_⟩
 exact⟨x,G3,Q',d1.ext (x2.trans x3),rg3,h3,fun d G' q=>(cl d G' q).go (x1.trans (x2.trans x3))⟩

theorem Li{α:Type}(xs:List α):(List.range xs.length).filterMap (fun k=>xs[k]?)=xs:=by
 induction xs with
 |nil=>rfl
 |cons x r ih=>
  rw[List.length_cons,List.range_succ_eq_map,List.filterMap_cons]
  simp only[List.getElem?_cons_zero,List.filterMap_map]
  congr 1
theorem D7{α β:Type}{f g:α→Option β}:∀{l:List α},(∀x∈l,f x=g x)→l.filterMap f=l.filterMap g
 |[],_=>rfl
 |x::r,h=>by
  rw[List.filterMap_cons,List.filterMap_cons,h x (by simp),D7 fun y hy=>h y (by simp[hy])]
theorem Sn(its:List Value):slicePick its.toArray none none (some (-1))=its.reverse.toArray:=by
 unfold slicePick
 have hb:sliceBounds none none (some (-1)) its.toArray.size=((its.length:Int)-1,-1,-1):=by
  simp[sliceBounds]
 rw[hb]
 congr 1
 show(sliceRange ((its.length:Int)-1) (-1) (-1)).filterMap (its.toArray[·]?)=its.reverse
 have hr:sliceRange ((its.length:Int)-1) (-1) (-1)=(List.range its.length).map fun k=>its.length-1-k:=by
  unfold sliceRange
  have hc:(if (-1:Int)>0 then (if (its.length:Int)-1 < -1 then (-1-((its.length:Int)-1) + -1-1) / -1 else 0) else (if (its.length:Int)-1 > -1 then ((its.length:Int)-1 - -1 - -1-1) / (- -1) else 0))=(its.length:Int):=by
   rw[if_neg (by decide)]
   by_cases h:(its.length:Int)-1 > -1
   ·rw[if_pos h];show(_:Int) / 1=_;rw[Int.ediv_one];omega
   ·rw[if_neg h];omega
  simp only[hc,Int.toNat_natCast]
  refine List.map_congr_left fun k hk=>?_
  have:=List.mem_range.mp hk
  omega
 rw[hr,List.filterMap_map]
 have e:=Li its.reverse
 rw[List.length_reverse] at e
 rw[←e]
 refine D7 fun k hk=>?_
 have:=List.mem_range.mp hk
 simp only[Function.comp,List.getElem?_toArray]
 rw[List.getElem?_reverse this]

theorem Ey{prog:Program}{w:World}{A:Around}{E:Value→Shared→Prop}{s:Shared}{t sl:Addr}{its:List Value}{vs:Value}{Q:Value→Shared→Prop}(ht:IsTup s.heap t its.toArray)(hs:s.heap.IsSliceOf sl .none .none vs)(ps:IsPart vs (some (-1)))(hz:its.length≤sizeLine)(h:Q (.ref s.heap.objs.size) { s with heap:=s.heap.push { cls:=.type "tuple",data:=.seq its.reverse.toArray } }):wpAny (model prog w) A (getItem (.ref t) (.ref sl)) Q E s:=by
 obtain⟨os,hos,hcs,hds⟩:=id hs
 have hTs:s.TypeIs (.ref sl) "slice":=⟨os,hos,hcs⟩
 unfold getItem
 try with_reducible refine wpAny_holding ?_
 first|refine wpAny_bind (wpAny_pure ?_)|skip
 refine wpAny_bind (wpAny_sequenceKey ht.typeIs (by decide) ?_)
 refine wpAny_bind (wpAny_callSpecial?_slot (name:=Str.ofString "__getitem__") ht.typeIs PyProof.Rows.slot_tuple_getitem
  (wpAny_call_entry PyProof.Rows.slot_tuple_getitem ht.typeIs entry_tuple_getitem ?_ (args_tuple_getitem _ _)))
 show wpAny _ _ (Builtin.Tuple.tupleItemsOf (.ref t) >>= _) _ _ s
 refine wpAny_bind (tupleItemsOf_ ht ?_)
 refine wpAny_bind (wpAny_typeOf hTs ?_)
 rw[if_pos (by decide)]
 refine wpAny_bind ?_
 unfold Builtin.Slice.sliceApplied Builtin.Slice.sliceFields
 refine wpAny_bind (wpAny_bind (wpAny_field hos hds (x:=.none) rfl (wpAny_bind (wpAny_field hos hds (x:=.none) rfl (wpAny_bind (wpAny_field hos hds (x:=vs) rfl (wpAny_pure ?_)))))))
 refine wpAny_bind (HT.slicePart_ ps ?_)
 show wpAny _ _ (if ((-1:Int) == 0)=true then _ else _) _ _ s
 rw[if_neg (by decide)]
 refine wpAny_bind (HT.slicePart_ .none (wpAny_bind (HT.slicePart_ .none (wpAny_bind (wpAny_pure ?_)))))
 have ha:Builtin.Slice.sliceAdjust none none (-1) ((its.toArray.size:Nat):Int)=((its.length:Int)-1,-1):=by simp[Builtin.Slice.sliceAdjust]
 show wpAny _ _ (match Builtin.Slice.sliceAdjust none none (-1) ((its.toArray.size:Nat):Int) with|(lo,hi)=>pure (lo,(-1:Int),Builtin.Slice.slicePlaces lo hi (-1))) _ _ s
 rw[ha]
 have hp:Builtin.Slice.slicePlaces ((its.length:Int)-1) (-1) (-1)=its.length:=by
  unfold Builtin.Slice.slicePlaces
  rw[if_neg (by decide)]
  by_cases h:(its.length:Int)-1 > -1
  ·rw[if_pos h];show((_:Int) / 1+1).toNat=_;rw[Int.ediv_one];omega
  ·rw[if_neg h];show(0:Int).toNat=_;simp;omega
 show wpAny _ _ (pure ((its.length:Int)-1,(-1:Int),Builtin.Slice.slicePlaces ((its.length:Int)-1) (-1) (-1))) _ _ s
 rw[hp]
 refine wpAny_pure ?_
 show wpAny _ _ (if (((its.length:Int)-1) == 0&&(-1:Int) == 1&&its.length == its.toArray.size)=true then _ else _) _ _ s
 rw[if_neg (by simp)]
 have hr:((List.range its.length).filterMap fun(k:Nat)=>its.toArray[(((its.length:Int)-1)+(k:Int)*(-1)).toNat]?)=its.reverse:=by
  have e:=Li its.reverse
  rw[List.length_reverse] at e
  rw[←e]
  refine D7 fun k hk=>?_
  have:=List.mem_range.mp hk
  rw[List.getElem?_reverse this,List.getElem?_toArray]
  congr 1;omega
 rw[hr]
 have htake:sizeOk (.seq its.reverse.toArray):=by
  show its.reverse.toArray.size≤sizeLine
  rw[List.size_toArray,List.length_reverse];exact hz
 first
  |exact wpAny_bind (m:=Builtin.Tuple.tupleExact _) (wpAny_newObj_type (wpAny_pure ⟨_,rfl,wpAny_pure h⟩) htake)
  |exact wpAny_bind (m:=Builtin.Tuple.tupleExact _) (wpAny_newObj_type (wpAny_bind (wpAny_pure (wpAny_pure ⟨_,rfl,wpAny_pure h⟩))) htake)
  |exact wpAny_bind (wpAny_bind (m:=Builtin.Tuple.tupleExact _) (wpAny_newObj_type (wpAny_pure (wpAny_pure ⟨_,rfl,wpAny_pure h⟩)) htake))
  |exact wpAny_bind (wpAny_bind (m:=Builtin.Tuple.tupleExact _) (wpAny_newObj_type (wpAny_pure ⟨_,rfl,wpAny_pure h⟩) htake))
theorem DVs.rev{K:W.Frag}{H:Hp}:∀{ds:List D} {vs:List V},DVs K H ds vs→DVs K H ds.reverse vs.reverse
 |_,_,.nil=>.nil
 |_,_,.cons h t=>by rw[List.reverse_cons,List.reverse_cons];exact(DVs.rev t).append (.cons h .nil)
theorem Ga:∀{xs:List V} {us:List Value},Vals xs us→Vals xs.reverse us.reverse
 |_,_,.nil=>.nil
 |_,_,.cons h t=>by rw[List.reverse_cons,List.reverse_cons];exact Vals.append (Ga t) (.cons h .nil)
def Ja(G:Gp)(x:D)(Q:DK):Prop:=match x with
 |.tup ds=>Q (.tup ds.reverse) G
 |.ref a=>match G a with
  |some (.lst ds)=>∀p,G p=none→Q (.ref p) (Ad G p (.lst ds.reverse))
  |_=>False
 |_=>False
def Wn(te:DTE)(ts:DTE):DTE:=fun σ G Q=>te σ G fun x G1=>ts σ G1 fun y G2=>y=.int (-1)∧Ja G2 x Q
theorem q_rev(he:QE X e te)(hb:QE X b tb):QE X (.Subscript e (.Slice none none (some b) p2) pos) (Wn te tb):=by
 intro pins s σ H Q I ⟨σD,G,Q',rs,rg,h,cl⟩
 refine Subscript_ (thn (he pins s σ H (fun xv H1=>∃x G1,DV X.K H1 x xv∧(tb σD G1 fun y G2=>y=.int (-1)∧Ja G2 x Q')∧RelG X.K H1 G1∧Ext H H1) I ⟨σD,G,_,rs,rg,h,fun x G1 h1 H1 x1 rg1 v1 d1=>⟨x,G1,d1,h1,rg1,x1⟩⟩) fun v s1 ⟨xv,H1,I1,r1,x,G1,d1,h1,rg1,x1⟩=>?_)
 refine wpAny_Slice ?_
 rw[evalPart_none]
 refine wpAny_pure (wpAny_pure ?_)
 rw[evalPart_some]
 refine thn (hb pins s1 σ H1 (fun yv H2=>∃y G2,DV X.K H2 y yv∧(y=.int (-1)∧Ja G2 x Q')∧RelG X.K H2 G2∧Ext H1 H2) I1 ⟨σD,G1,_,rs.ext x1,rg1,h1,fun y G2 h2 H2 x2 rg2 v2 d2=>⟨y,G2,d2,h2,rg2,x2⟩⟩) fun vst s3 ⟨yv,H3,I3,r3,y,G2,d2,⟨ey,h2⟩,rg2,x2⟩=>?_
 subst ey;cases d2
 obtain⟨tk,rfl⟩:=r3
 have I4:Inv X pins σ H3 { s3 with heap:=s3.heap.push { cls:=.type "slice",data:=.fields #[.none,.none,.int (-1) tk] } }:=I3.kept (t':=s3.toks) fun b ob q=>Heap.get?_push_of_some _ q
 have hsl:({ s3 with heap:=s3.heap.push { cls:=.type "slice",data:=.fields #[.none,.none,.int (-1) tk] } }:Shared).heap.IsSliceOf s3.heap.objs.size .none .none (.int (-1) tk):=Heap.IsSliceOf.new ..
 show wpAny (model X.prog X.w) X.A (subscriptTail e (.Slice none none (some b) p2) v (.ref s3.heap.objs.size)) (EP X pins σ Q) X.xe { s3 with heap:=s3.heap.push { cls:=.type "slice",data:=.fields #[.none,.none,.int (-1) tk] } }
 have cl2:=fun d G' q=>(cl d G' q).go (x1.trans x2)
 cases d1.ext x2 with
 |@tup ds a xs ea ra=>
  cases r1
  have h2:Q' (.tup ds.reverse) G2:=h2
  obtain⟨its,rv,ht,hz⟩:=I4.tuple (.inl (.inl ea))
  refine tail_any (ops:=[.ref a,.ref s3.heap.objs.size]) ht.typeIs PyProof.Rows.slot_tuple_getitem.lookup (Ey ht hsl (.int _ _) (by rw[←rv.length];exact hz) ?_) (by with_unfolding_all rfl)
  refine⟨.ref _,_,I4.laid (t':=s3.toks) (o:=.tup xs.reverse) (fun b ob q=>Heap.get?_push_of_some _ q) (Nat.le_refl _) ⟨by rw[List.length_reverse];exact hz,_,Ga rv,IsTup.new _ _⟩,rfl,?_⟩
  have hp:=I4.hok.fresh (Nat.le_refl _)
  exact cl2 _ G2 h2 _ (Ext.fresh hp) (rg2.tup hp) _ (.tup A4 (ra.rev.ext (Ext.fresh hp)))
 |ref a=>
  cases r1
  simp only[Ja] at h2
  split at h2
  ·rename_i ds g
   obtain⟨xs,ea,ra⟩:=rg2 a _ g
   obtain⟨its,rv,ht,hz⟩:=I4.list (.inl (.inl ea))
   have hlen:=rv.length
   refine tail_any (ops:=[.ref a,.ref s3.heap.objs.size]) ht.isList.typeIs slot_list_getitem.lookup (wpAny_getItem_list_slice ht.isList hsl .none .none (.int _ _) (by simp) ?_ (by rw[List.size_toArray]<;>omega)) (by with_unfolding_all rfl)
   rw[Sn]
   refine⟨.ref _,_,I4.laid (t':=s3.toks) (o:=.lst xs.reverse) (fun b ob q=>Heap.get?_push_of_some _ q) (Nat.le_refl _) ⟨by rw[List.length_reverse];exact hz,_,0,Ga rv,Heap.get?_push_size _ rfl⟩,rfl,?_⟩
   have hp:=I4.hok.fresh (Nat.le_refl _)
   exact cl2 _ _ (h2 _ (rg2.free hp)) _ (Ext.fresh hp) (rg2.lst hp ra.rev) _ (.ref _)
  ·exact h2.elim
 |_=>exact h2.elim
theorem V1{G:Gp}{ds:List D}{Q:DK}:Ja G (.tup ds) Q=Q (.tup ds.reverse) G:=rfl
theorem Tu{prog:Program}{w:World}{A:Around}{E:Value→Shared→Prop}{s:Shared}{t b:Addr}{ws:List Value}{Q:Value→Shared→Prop}(ht:IsTup s.heap t #[])(hb:IsTup s.heap b ws.toArray)(h1:Q (.ref b) s) :
  wpAny (model prog w) A (binaryOp .Add (.ref t) (.ref b)) Q E s:=by
 obtain⟨⟨cls,dd,data,sl⟩,ho,hc,n,hd⟩:=id ht
 obtain⟨⟨cls2,dd2,data2,sl2⟩,ho2,hc2,n2,hd2⟩:=id hb
 simp only at hc hd hc2 hd2
 subst hc hd hc2 hd2
 exact concat_meets ⟨_,ho,rfl⟩ ⟨_,ho2,rfl⟩ noFill_tuple_add seq_tuple_add PySem.F.slot_tuple_add PySem.F.entry_tuple_add (PySem.F.args_tuple_add_2 _ _)
   (tuple_addW0 t b #[] ws.toArray n n2 dd dd2 sl sl2 rfl) ⟨ho,ho2,h1⟩
def Kq:DR2:=fun x y G Q=>match x,y with
 |.int i,.int j=>Q (.int (i+j)) G
 |.tup xs,.tup ys=>xs.length+ys.length≤sizeLine∧Q (.tup (xs++ys)) G
 |.ref a,.ref b=>match G a,G b with
  |some (.lst xs),some (.lst ys)=>xs.length+ys.length≤sizeLine∧∀p,G p=none→Q (.ref p) (Ad G p (.lst (xs++ys)))
  |_,_=>False
 |_,_=>False
theorem o_addD:QOp X (binaryOp .Add) Kq:=by
 intro pins s σ H x y v u Q I rx ry ⟨dx,dy,G,Q',hx,hy,rg,h,cl⟩
 cases hx with
 |int i=>
  cases hy with
  |int j=>exact X5 pins s σ H _ _ v u Q I rx ry ⟨i,j,rfl,rfl,cl _ G h H (Ext.refl H) rg _ (.int _)⟩
  |_=>exact h.elim
 |@tup xs a vs ea ra=>
  cases hy with
  |@tup ys b ws eb rb=>
   obtain⟨hl,h⟩:=h
   by_cases hne:vs=[]
   ·subst hne
    cases ra
    cases rx;cases ry
    obtain⟨its,r1,p1,_⟩:=I.tuple (.inl (.inl ea))
    obtain⟨its2,r2,p2,_⟩:=I.tuple (.inl (.inl eb))
    cases r1
    exact Tu p1 p2 ⟨.ref b,H,I,rfl,cl _ G h H (Ext.refl H) rg _ (.tup eb rb)⟩
   ·refine U5 pins s σ H _ _ v u Q I rx ry ⟨a,b,vs,ws,rfl,rfl,.inl (.inl ea),.inl (.inl eb),hne,by rw[←ra.length,←rb.length];exact hl,?_,fun _ p hp=>cl _ G h _ (Ext.fresh hp) (rg.tup hp) _ (.tup A4 ((ra.append rb).ext (Ext.fresh hp)))⟩
    intro z
    subst z;cases rb
    rw[List.append_nil] at h
    exact cl _ G h H (Ext.refl H) rg _ (.tup ea ra)
  |_=>exact h.elim
 |ref a=>
  cases hy with
  |ref b=>
   simp only[Kq] at h
   split at h
   ·rename_i xs ys ga gb
    obtain⟨hl,h⟩:=h
    obtain⟨vs,ea,ra⟩:=rg a _ ga
    obtain⟨ws,eb,rb⟩:=rg b _ gb
    exact X4 pins s σ H _ _ v u Q I rx ry ⟨a,b,vs,ws,rfl,rfl,ea,eb,by rw[←ra.length,←rb.length];exact hl,fun p hp=>cl _ _ (h p (rg.free hp)) _ (Ext.fresh hp) (rg.lst hp (ra.append rb)) _ (.ref p)⟩
   ·exact h.elim
  |_=>exact h.elim
 |_=>exact h.elim
theorem B5{i j:Int}{G:Gp}{Q:DK}:Kq (.int i) (.int j) G Q=Q (.int (i+j)) G:=rfl
theorem R7{i j:List D}{G:Gp}{Q:DK}:Kq (.tup i) (.tup j) G Q=(i.length+j.length≤sizeLine∧Q (.tup (i++j)) G):=rfl
theorem Fv{G:Gp}{ds:List D}{lo hi:Option Int}{Q:DK}:B4 G (.tup ds) lo hi Q=Q (.tup (Fm ds lo hi)) G:=rfl
theorem c_int:QC X (.type "int") (fun ds G Q=>∃k,ds=[.bl k]∧Q (.int (if k then 1 else 0)) G):=call_int1.imp fun xs H Q ⟨ds,G,Q',dv,rg,⟨k,e,q⟩,cl⟩=>by
 subst e
 obtain⟨v,rfl,r⟩:=dv.one
 cases r
 exact .inr ⟨k,rfl,cl _ G q H (Ext.refl H) rg _ (.int _)⟩
end
end D3
namespace D3
open PySem PySem.Spec
open PyProof.Rows hiding St
open L2 hiding St
structure Src where
 it:Addr
 l:Addr
 tp:Bool
def Src.At(h:Heap)(c:Src)(i:Nat):Prop:=if c.tp=true then h.IsTupleIter c.it c.l i else h.IsListIter c.it c.l i
def Src.Sq(h:Heap)(c:Src)(xs:Array Value):Prop:=if c.tp=true then h.IsTuple c.l xs else h.IsList c.l xs
theorem Src.At.keep{h h':Heap}{c:Src}{i:Nat}(x:c.At h i)(k:∀o,h.get? c.it=some o→h'.get? c.it=some o):c.At h' i:=by
 unfold Src.At at x ⊢
 split at x
 ·rename_i e;rw[if_pos e];exact x.at k
 ·rename_i e;rw[if_neg e];exact x.at k
theorem Src.Sq.keep{h h':Heap}{c:Src}{xs:Array Value}(x:c.Sq h xs)(k:∀o,h.get? c.l=some o→h'.get? c.l=some o):c.Sq h' xs:=by
 unfold Src.Sq at x ⊢
 split at x
 ·rename_i e;rw[if_pos e];exact x.at k
 ·rename_i e;rw[if_neg e];exact x.at k
section
variable{prog:Program}{w:World}{A:Around}{E:Value→Shared→Prop}{s:Shared}
end
end D3
namespace D3
open PySem PySem.Spec
open PyProof.Rows hiding St
open L2 hiding St
section
variable{X:Cx}{pins:List (Addr×Obj)}{σ:St}{H:Hp}{s:Shared}
end
end D3
namespace D3
open PySem PySem.Spec
open PyProof.Rows hiding St
open L2 hiding St
section
variable{X:Cx}{pins:List (Addr×Obj)}{σ:St}{H:Hp}{s:Shared}{E:Value→Shared→Prop}
end
end D3
namespace D3
open PySem PySem.Spec
open PyProof.Rows hiding St
open L2 hiding St
structure ItemsX(K:PySem.W.Frag)(J:It)(H:Hp)(ds:List D):Prop where
 go:∀i,i<ds.length→J.go i H
 yl:∀i x H',i<ds.length→J.yld i H x H'→Ext H H'∧(∀G,RelG K H G→RelG K H' G)∧∃d,ds[i]? = some d∧DV K H' d x
 st:J.stop ds.length H
section
variable{X:Cx}{a b c e:Expr}{elts:List Expr}{kk:Nat}{tp p pos:Pos}{body:List Stmt}
end
end D3
namespace D3
open PySem PySem.Spec
open PyProof.Rows hiding St
open L2 hiding St
def A7(scope:Scope)(cl:List (Str×Addr))(C:Addr):List (Str×Addr):=cellsFrom (C+1) scope.names cl
def Bg(X:Cx)(scope:Scope)(cl:List (Str×Addr))(T M:List Str)(s:Shared)(H:Hp)(fp:List Addr):Cx where
 prog:=X.prog
 w:=X.w
 K:=X.K
 mg:=X.mg
 base:=X.base
 A:=X.A
 N:=T++M
 s₀:=s
 H₀:=H
 env:=compEnvC scope (A7 scope cl s.heap.objs.size) s.heap.objs.size X.env
 outer:=X.stack
 stack:=X.stack
 ex:=fp
 fn:=fun x=>scope.names.lookup x == some .cell
 calm:=X.calm
 pn:=[]
 xe:=fun _ _=>False
structure CompOz(X:Cx)(scope:Scope)(cl:List (Str×Addr))(T M:List Str):Prop where
 clos:closureFor scope X.env=pure cl
 kind:scope.kind=.function
 names:∀y∈scope.names,y.2=.local→scope.names.lookup y.1=some .local
 nocl:∀y∈scope.names,y.2=.cell→scope.names.lookup y.1=some .cell
 sub:∀x c,cl.lookup x=some c→X.env.cells.lookup x=some c∧scope.names.lookup x=some .free
 has:∀x,scope.names.lookup x=some .free→∃c,cl.lookup x=some c
 len:M.length=X.N.length
 vis:∀(i:Nat) (x:Str),M[i]? = some x→∀k,scope.names.lookup x=some k→k≠.local∧k≠.cell∧(k=.free→X.N[i]? = some x∧(X.env.kindOf x=some .cell∨X.env.kindOf x=some .free))
theorem Br{scope:Scope}{env:Env}{x:Str}:(relabel scope env).names.lookup x=(scope.names.lookup x).map fun k=>if (k == NameKind.free&&env.scope.kind == .function&&env.kindOf x == some .cell)=true then NameKind.cell else k:=by
 show(scope.names.map fun(n,k)=>if (k == NameKind.free&&env.scope.kind == .function&&env.kindOf n == some .cell) then (n,NameKind.cell) else (n,k)).lookup x=_
 generalize scope.names=names
 induction names with
 |nil=>rfl
 |cons y r ih=>
  obtain⟨n,k⟩:=y
  rw[List.map_cons]
  by_cases hx:x=n
  ·subst hx
   by_cases hc:(k == NameKind.free&&env.scope.kind == .function&&env.kindOf x == some .cell)=true
   ·simp only[hc,if_true,List.lookup_cons_self,Option.map_some]
   ·simp only[hc,Bool.false_eq_true,if_false,List.lookup_cons_self,Option.map_some]
  ·have e:∀k',List.lookup x ((n,k')::r)=List.lookup x r:=fun k'=>by rw[List.lookup_cons,beq_false_of_ne hx]
   rw[e,←ih]
   by_cases hc:(k == NameKind.free&&env.scope.kind == .function&&env.kindOf n == some .cell)=true
   ·simp only[hc,if_true];rw[List.lookup_cons,beq_false_of_ne hx]
   ·simp only[hc];rw[show(if false=true then (n,NameKind.cell) else (n,k))=(n,k) from rfl,List.lookup_cons,beq_false_of_ne hx]
theorem Bb:∀(names:List (Str×NameKind)) (n:Nat) (acc:List (Str×Addr)),∃own,cellsFrom n names acc=own++acc∧(∀p∈own,(p.1,NameKind.cell)∈names∧n≤p.2)∧∀x,(x,NameKind.cell)∈names→∃c,own.lookup x=some c
 |[],n,acc=>⟨[],rfl,by simp,by simp⟩
 |(y,k)::r,n,acc=>by
  unfold cellsFrom
  by_cases hk:(k == NameKind.cell)=true
  ·rw[if_pos hk]
   obtain⟨own,e,h1,h2⟩:=Bb r (n+1) ((y,n)::acc)
   have hk':k=.cell:=by simpa using hk
   subst hk'
   refine⟨own++[(y,n)],by rw[e];simp,fun p hp=>?_,fun x hx=>?_⟩
   ·rcases List.mem_append.mp hp with hp|hp
    ·exact⟨List.mem_cons_of_mem _ (h1 p hp).1,by have:=(h1 p hp).2;omega⟩
    ·have:p=(y,n):=by simpa using hp
     subst this
     exact⟨by simp,Nat.le_refl _⟩
   ·rcases List.mem_cons.mp hx with z|z
    ·cases z
     rw[List.lookup_append]
     cases q:own.lookup y with
     |some c=>exact⟨c,rfl⟩
     |none=>exact⟨n,by simp⟩
    ·obtain⟨c,hc⟩:=h2 x z
     exact⟨c,by rw[List.lookup_append,hc];rfl⟩
  ·rw[if_neg hk]
   obtain⟨own,e,h1,h2⟩:=Bb r n acc
   refine⟨own,e,fun p hp=>⟨List.mem_cons_of_mem _ (h1 p hp).1,(h1 p hp).2⟩,fun x hx=>?_⟩
   rcases List.mem_cons.mp hx with z|z
   ·cases z;exact absurd rfl hk
   ·exact h2 x z
theorem Da{X:Cx}{scope:Scope}{cl:List (Str×Addr)}{T M:List Str}(ok:CompOz X scope cl T M)(C:Addr):∀x c,(A7 scope cl C).lookup x=some c→(scope.names.lookup x=some .cell∧C+1≤c)∨(cl.lookup x=some c∧scope.names.lookup x=some .free):=by
 intro x c h
 obtain⟨own,e,h1,h2⟩:=Bb scope.names (C+1) cl
 unfold A7 at h
 rw[e,List.lookup_append] at h
 cases q:own.lookup x with
 |some c'=>
  rw[q] at h
  have h:some c'=some c:=h
  cases h
  have:=h1 _ (PySem.mem_of_lookup q)
  exact .inl ⟨ok.nocl _ this.1 rfl,this.2⟩
 |none=>
  rw[q] at h
  have h:cl.lookup x=some c:=h
  exact .inr ⟨h,(ok.sub x c h).2⟩
theorem Dz{X:Cx}{scope:Scope}{cl:List (Str×Addr)}{T M:List Str}(ok:CompOz X scope cl T M)(C:Addr){x:Str}(hx:scope.names.lookup x=some .free):(A7 scope cl C).lookup x=cl.lookup x:=by
 obtain⟨own,e,h1,h2⟩:=Bb scope.names (C+1) cl
 unfold A7
 rw[e,List.lookup_append]
 cases q:own.lookup x with
 |some c'=>
  have:=ok.nocl _ (h1 _ (PySem.mem_of_lookup q)).1 rfl
  rw[hx] at this;cases this
 |none=>rfl
theorem Qi{X:Cx}{scope:Scope}{cl:List (Str×Addr)}{T M:List Str}{pins:List (Addr×Obj)}{σ:St}{H:Hp}{s s4:Shared}{fp:List Addr}{m:Str→Option Value}(ok:CompOz X scope cl T M)(I:Inv X pins σ H s)(hfp:∀b∈fp,Hk X pins H b∧b<s.heap.objs.size)(hn:s4.heap.Ns s.heap.objs.size m)(hk:∀b o,s.heap.get? b=some o→s4.heap.get? b=some o)(hos:s4.os=s.os)(hg:s4.gens=s.gens)(hc1:∀x c,(A7 scope cl s.heap.objs.size).lookup x=some c→scope.names.lookup x=some .cell→∃v,s4.heap.IsCell c v)(hc2:∀x y c,(A7 scope cl s.heap.objs.size).lookup x=some c→(A7 scope cl s.heap.objs.size).lookup y=some c→scope.names.lookup x=some .cell→x=y) :
  Inv (Bg X scope cl T M s H fp) [] (Wl T σ) H s4:=by
 have fr:∀{b:Addr},s.heap.objs.size≤b→H b=none:=fun h=>I.hok.fresh h
 have old:∀x c,cl.lookup x=some c→c<s.heap.objs.size:=fun x c e=>by
  obtain⟨v,o,ho,_⟩:=I.cell x c (ok.sub x c e).1
  exact Heap.lt_size ho
 have lk:=Da ok s.heap.objs.size
 have inj:∀x y c,(A7 scope cl s.heap.objs.size).lookup x=some c→(A7 scope cl s.heap.objs.size).lookup y=some c→x=y:=fun x y c h1 h2=>by
  rcases lk x c h1 with ⟨a1,a2⟩|⟨a1,a2⟩
  ·exact hc2 x y c h1 h2 a1
  ·rcases lk y c h2 with ⟨b1,b2⟩|⟨b1,b2⟩
   ·exact absurd (Nat.lt_of_lt_of_le (old x c a1) (Nat.le_of_succ_le b2)) (Nat.lt_irrefl _)
   ·exact I.ok.inj x y c (ok.sub x c a1).1 (ok.sub y c b1).1
 have has:∀x,((relabel scope X.env).names.lookup x=some .cell∨(relabel scope X.env).names.lookup x=some .free)→∃c,(A7 scope cl s.heap.objs.size).lookup x=some c:=fun x hx=>by
  rw[Br] at hx
  cases q:scope.names.lookup x with
  |none=>rw[q] at hx;simp at hx
  |some k=>
   rw[q] at hx
   simp only[Option.map_some] at hx
   by_cases hkf:k=.free
   ·subst hkf
    obtain⟨c,hc⟩:=ok.has x q
    exact⟨c,by rw[Dz ok _ q];exact hc⟩
   ·have:k=.cell:=by
     have hb:(k == NameKind.free)=false:=by simpa using hkf
     simp only[hb,Bool.false_and,Bool.false_eq_true,if_false,Option.some.injEq] at hx
     exact hx.elim id fun z=>absurd z hkf
    subst this
    obtain⟨own,e,h1,h2⟩:=Bb scope.names (s.heap.objs.size+1) cl
    obtain⟨c,hc⟩:=h2 x (PySem.mem_of_lookup q)
    exact⟨c,by unfold A7;rw[e,List.lookup_append,hc];rfl⟩
 refine⟨⟨I.ok.mod,ok.kind,I.ok.glob,I.ok.blt,Nat.le_refl _,inj,has,fun x c h h1=>?_,I.ok.hd,I.ok.frames,.inl rfl,fun b hb=>⟨Nat.ne_of_lt (hfp b hb).2,fun x c e=>?_⟩,I.bs,Nat.le_trans I.ok.bsz I.sz,fun b o e hb=>?_,fun b hb z=>?_,I.stack,I.stkFree⟩,
  hos,by rw[hg];exact I.bare,Un.kept hk,⟨m,hn,fun i x v e1 e2 e3=>?_⟩,fun x c e=>?_,fr (Nat.le_refl _),fun x c e=>?_,fun p hp=>absurd (show p∈([]:List (Addr×Obj)) from hp) (by simp),I.hok.kept hk,?_⟩
 ·have h:(scope.names.lookup x == some .cell)=true:=h
  have h:scope.names.lookup x=some .cell:=by simpa using h
  rcases lk x c h1 with ⟨_,a2⟩|⟨_,a2⟩
  ·exact Nat.le_of_succ_le a2
  ·rw[h] at a2;cases a2
 ·rcases lk x c e with ⟨_,a2⟩|⟨a1,a2⟩
  ·exact Nat.ne_of_gt (Nat.lt_of_lt_of_le (hfp b hb).2 (Nat.le_of_succ_le a2))
  ·exact(hfp b hb).1.2.2.2.2.1 x c (ok.sub x c a1).1
 ·rcases(hfp b hb).1.2.2.2.1 with z|z
  ·exact I.ok.noex b o e z
  ·exact absurd (Nat.lt_of_lt_of_le (Heap.lt_size e) (Nat.le_trans I.ok.bsz z)) (Nat.lt_irrefl _)
 ·rcases List.mem_cons.mp (I.stkSub b z) with e|e
  ·exact(hfp b hb).1.2.1 e
  ·exact(hfp b hb).1.2.2.1 e
 ·have e1:(T++M)[i]? = some x:=e1
  have e2:(List.replicate T.length none++σ)[i]? = some (some v):=e2
  by_cases hi:i<T.length
  ·rw[List.getElem?_append_left (by simpa using hi),List.getElem?_replicate,if_pos hi] at e2
   cases e2
  ·rw[List.getElem?_append_right (by omega)] at e1
   rw[List.getElem?_append_right (by simpa using hi),List.length_replicate] at e2
   have e3:Vis (relabel scope X.env) x:=e3
   have hq:∃k,scope.names.lookup x=some k∧k=.free:=by
    cases q:scope.names.lookup x with
    |none=>unfold Vis at e3;rw[Br,q] at e3;simp at e3
    |some k=>
     obtain⟨v1,v2,_⟩:=ok.vis _ x e1 k q
     refine⟨k,rfl,?_⟩
     unfold Vis at e3
     rw[Br,q] at e3
     by_cases hkf:k=.free
     ·exact hkf
     ·have hb:(k == NameKind.free)=false:=by simpa using hkf
      simp only[Option.map_some,hb,Bool.false_and,Bool.false_eq_true,if_false,Option.some.injEq] at e3
      rcases e3 with z|z|z
      ·exact absurd z v1
      ·exact absurd z v2
      ·exact z
   obtain⟨k,hq,rfl⟩:=hq
   obtain⟨e1,k2⟩:=(ok.vis _ x e1 _ hq).2.2 rfl
   obtain⟨m0,hn0,hl0⟩:=I.loc
   have v0:Vis X.env.scope x:=k2.elim (fun z=>.inr (.inl z)) fun z=>.inr (.inr z)
   obtain⟨u,r,l⟩:=hl0 _ x v e1 e2 v0
   have k1:(relabel scope X.env).names.lookup x=some .cell∨(relabel scope X.env).names.lookup x=some .free:=by
    rw[Br,hq]
    simp only[Option.map_some]
    split
    ·exact .inl rfl
    ·exact .inr rfl
   refine⟨u,r,.inr ⟨k1,?_⟩⟩
   obtain⟨c,hc⟩:=ok.has x hq
   refine⟨c,(Dz ok _ hq).trans hc,?_⟩
   rcases l with ⟨l,_⟩|⟨_,c',hc',hv'⟩
   ·rcases k2 with z|z
    ·rw[l] at z;cases z
    ·rw[l] at z;cases z
   ·rw[(ok.sub x c hc).1] at hc'
    cases hc'
    obtain⟨o,ho,hd⟩:=hv'
    exact⟨o,hk _ _ ho,hd⟩
 ·rcases lk x c e with ⟨a1,a2⟩|⟨a1,a2⟩
  ·exact hc1 x c e a1
  ·obtain⟨v,o,ho,hd⟩:=I.cell x c (ok.sub x c a1).1
   exact⟨v,o,hk _ _ ho,hd⟩
 ·rcases lk x c e with ⟨a1,a2⟩|⟨a1,a2⟩
  ·exact fr (Nat.le_of_succ_le a2)
  ·exact I.freeC x c (ok.sub x c a1).1
 ·show(List.replicate T.length none++σ).length=(T++M).length
  rw[List.length_append,List.length_append,List.length_replicate,I.len,ok.len]

def Re(P:Program)(w:World)(A:Around)(env:Env)(tg elt:Expr)(ifs:List Expr)(it acc:Value)(X:Value→Shared→Prop)(nxt:Shared→Prop)(v:Value)(t:Shared):Prop:=
 wpAny (model P w) A (letOwnedTupleGo tg it v) (fun _ a=>wpAny (model P w) A (assign tg env v) (fun _ b=>wpAny (model P w) A (Jp ifs env) (fun y c=>
  if y=true then wpAny (model P w) A (eval elt env) (fun e d=>wpAny (model P w) A (call (.builtin "list.append") [acc,e]) (fun _ f=>nxt f) X d) X c else nxt c) X b) X a) X t
theorem L8{P:Program}{w:World}{A:Around}{R:Result→Shared→Prop}{s:Shared}{elt tg src:Expr}{ifs:List Expr}{sc:Scope}{pl:Pos}{it acc:Value}{env:Env}(V:Nat→Shared→Prop)(go:∀k t,V k t→wpAny (model P w) A (pyNext it) (fun r u=>match r with
   |none=>R (.ok .next) u
   |some v=>Re P w A env tg elt ifs it acc (notedBy (model P w) A env fun e z=>R (.error e) z) (fun z=>∃m,m<k∧V m z) v u) (notedBy (model P w) A env fun e z=>R (.error e) z) t)(k:Nat)(h0:V k s):codeAny (model P w) A (.compLoop (.ListComp elt [⟨tg,src,ifs,0⟩] sc pl) 0 it acc env) R s:=by
 refine codeAny_loop rfl V (fun k t hv=>(show wpAny _ A ((compTurn (.ListComp elt [⟨tg,src,ifs,0⟩] sc pl) 0 it acc env).onRaise (fun x=>do noteFrame x env;theTreesLotGoes x)) _ _ t from wpAny_noted ?_)) k h0
 rw[compTurn_list];refine wpAny_bind (wpAny_standAt (wpAny_bind (wpAny_mono (go k t hv) (fun r u hr=>?_) fun _ _ z=>z)))
 cases r with
 |none=>exact wpAny_pure hr
 |some v=>
  refine wpAny_bind (wpAny_mono hr (fun _ a ha=>wpAny_bind (wpAny_mono ha (fun _ b hb=>wpAny_bind (wpAny_mono hb (fun y c hc=>?_) fun _ _ z=>z)) fun _ _ z=>z)) fun _ _ z=>z)
  cases y with
  |true=>exact wpAny_bind (wpAny_bind (wpAny_mono hc (fun e d hd=>wpAny_bind (wpAny_mono hd (fun _ f hf=>wpAny_pure (wpAny_pure ⟨rfl,hf⟩)) fun _ _ z=>z)) fun _ _ z=>z))
  |false=>refine wpAny_pure ⟨rfl,?_⟩;exact hc
theorem S7{M:Model}{A:Around}{E:Value→Shared→Prop}{s:Shared}{scope:Scope}{env:Env}{cl:List (Str×Addr)}{Q:Env→Shared→Prop}(hk:scope.kind=.function)(h:∀h':Heap,h'.Ns s.heap.objs.size (fun _=>none)→(∀b o,s.heap.get? b=some o→h'.get? b=some o)→CellsOk h' (s.heap.objs.size+1) (cellsFrom (s.heap.objs.size+1) scope.names [])→
   Q (newEnv scope s.heap.objs.size env.globals (A7 scope cl s.heap.objs.size) env.qual none .none (some env) builtinsNs) { s with heap:=h' }) :
  wpAny M A (newFunctionEnv scope env.globals cl [] env.qual none .none (some env)) Q E s:=by
 simp only[newFunctionEnv,Option.isSome_some,if_true];refine wpAny_bind (wpAny_alloc ?_)
 refine wpAny_bind (wpAny_layCells _ (fun name kind cells=>by cases hkc:kind == NameKind.cell<;>simp) _ _ _ _ ?_)
 have okc:=cellsFrom_ok scope.names (s.heap.push { cls:=.type "dict",data:=.dict #[] }) (s.heap.objs.size+1) [] ⟨fun _ _ hm=>(nomatch hm),List.Pairwise.nil⟩ (by rw[Heap.size_push];exact Nat.le_refl _)
 rw[Heap.size_push] at okc
 rw[show({ s with heap:=s.heap.push { cls:=.type "dict",data:=.dict #[] } }:Shared).heap.objs.size=s.heap.objs.size+1 from Heap.size_push ..]
 refine wpAny_bind ?_
 rw[List.forIn_nil]
 refine wpAny_pure (wpAny_pure ?_)
 exact h _ ((Heap.Ns.new s.heap (.type "dict")).keeps (pushCells_keeps _ _)) (fun b o e=>pushCells_keeps _ _ b o (Heap.get?_push_of_some _ e)) okc

theorem Bx:∀(names:List (Str×NameKind)) (n:Nat) (acc:List (Str×Addr)),cellsFrom n names acc=cellsFrom n names []++acc
 |[],n,acc=>rfl
 |(y,k)::r,n,acc=>by
  unfold cellsFrom
  split
  ·rw[Bx r (n+1) ((y,n)::acc),Bx r (n+1) [(y,n)]];simp
  ·exact Bx r n acc
theorem Mv{scope:Scope}{cl:List (Str×Addr)}{C:Addr}{x:Str}{c:Addr}(h:(A7 scope cl C).lookup x=some c)(hn:cl.lookup x=none∨C+1≤c)(old:∀x c,cl.lookup x=some c→c<C):(x,c)∈cellsFrom (C+1) scope.names []:=by
 unfold A7 at h
 rw[Bx,List.lookup_append] at h
 cases q:(cellsFrom (C+1) scope.names []).lookup x with
 |some c'=>
  rw[q] at h
  have h:some c'=some c:=h
  cases h
  exact PySem.mem_of_lookup q
 |none=>
  rw[q] at h
  have h:cl.lookup x=some c:=h
  rcases hn with z|z
  ·rw[z] at h;cases h
  ·exact absurd (Nat.lt_of_lt_of_le (old x c h) (Nat.le_of_succ_le z)) (Nat.lt_irrefl _)
theorem Vr{X:Cx}{scope:Scope}{cl:List (Str×Addr)}{T M:List Str}{C:Addr}{h':Heap}(ok:CompOz X scope cl T M)(okc:CellsOk h' (C+1) (cellsFrom (C+1) scope.names []))(old:∀x c,cl.lookup x=some c→c<C) :
  ∀x c,(A7 scope cl C).lookup x=some c→scope.names.lookup x=some .cell→∃v,h'.IsCell c v:=fun x c h hx=>by
 rcases Da ok C x c h with ⟨_,a2⟩|⟨_,a2⟩
 ·exact⟨_,(okc.empty x c (Mv h (.inr a2) old)).1⟩
 ·rw[hx] at a2;cases a2
theorem Vq{X:Cx}{scope:Scope}{cl:List (Str×Addr)}{T M:List Str}{C:Addr}{h':Heap}(ok:CompOz X scope cl T M)(okc:CellsOk h' (C+1) (cellsFrom (C+1) scope.names []))(old:∀x c,cl.lookup x=some c→c<C) :
  ∀x y c,(A7 scope cl C).lookup x=some c→(A7 scope cl C).lookup y=some c→scope.names.lookup x=some .cell→x=y:=fun x y c h1 h2 hx=>by
 rcases Da ok C x c h1 with ⟨_,a2⟩|⟨_,a2⟩
 ·exact name_of_addr okc.apart (Mv h1 (.inr a2) old) (Mv h2 (.inr a2) old)
 ·rw[hx] at a2;cases a2
def W5(n:Nat)(wi:TI)(g:TG)(tf:TT)(te:TE):TE:=fun σ H Q=>wi σ H fun J H1=>∀p,H1 p=none→∃W:Nat→Nat→St→Hp→Prop,(∃m,W 0 m (List.replicate n none++σ) (upd H1 p (.lst [])))∧∀i m σ1 H,W i m σ1 H→
 ((J.stop i H∧Q (.ref p) H)∨(J.go i H∧∃N:St→Hp→Prop,(∀σ' H',N σ' H'→∃m',m'<m∧W (i+1) m' σ' H')∧
  ∀x H',J.yld i H x H'→g x σ1 H' fun σ2 H2=>tf σ2 H2 fun b H3=>if b=true then te σ2 H3 fun y H4=>∃ys,H4 p=some (.lst ys)∧ys.length<sizeLine∧N σ2 (upd H4 p (.lst (ys++[y]))) else N σ2 H3))
theorem Sv{X:Cx}{elt iter tg:Expr}{ifs:List Expr}{scope:Scope}{cl:List (Str×Addr)}{pos:Pos}{wi:TI}{g:TG}{tf:TT}{te:TE}{T M:List Str}(hc:X.calm=true)(ok:CompOz X scope cl T M)(hi:PI X tg iter wi)(hg:∀s H fp,PG (Bg X scope cl T M s H fp) tg g)(hf:∀s H fp,PF (Bg X scope cl T M s H fp) ifs tf)(he:∀s H fp,PE (Bg X scope cl T M s H fp) elt te)(hs:∀x,foldedSetIterable iter X.env x=pure x:=by intro _;rfl):PE X (.ListComp elt [⟨tg,iter,ifs,0⟩] scope pos) (W5 T.length wi g tf te):=by
 intro pins s σ H Q I h
 rw[eval_ListComp]
 refine wpAny_comprehension_free (use:=none) (cl:=cl) rfl hs ok.clos ok.kind ok.names (thn (hi pins s σ H _ I h) fun v s1 h1=>thn h1 fun itv s2 h2=>?_)
 obtain⟨it,fp,tn,J,H2,e,I2,Tn,st2,f2,q⟩:=h2
 subst e
 have q:=q s2.heap.objs.size (I2.hok.fresh (Nat.le_refl _))
 refine wpAny_newObj_type ?_
 -- the new list,tracked
 have I3:Inv X pins σ (upd H2 s2.heap.objs.size (.lst [])) { s2 with heap:=s2.heap.push { cls:=.type "list",dict:=none,data:=.seq ([]:List Value).toArray } }:=
  I2.laid (t':=s2.toks) (fun b u e=>Heap.get?_push_of_some _ e) (Nat.le_refl _) ⟨Nat.zero_le _,[],0,.nil,Heap.get?_push_size _ rfl⟩
 generalize hH3:upd H2 s2.heap.objs.size (.lst [])=H3 at I3 q
 generalize hs3:({ s2 with heap:=s2.heap.push { cls:=.type "list",dict:=none,data:=.seq ([]:List Value).toArray } }:Shared)=s3 at I3
 have fpl:∀b∈fp,b<s2.heap.objs.size:=fun b hb=>let ⟨o,e,_⟩:=Tn.obj 0 _ st2 b hb;Heap.lt_size e
 have sz3:s2.heap.objs.size≤s3.heap.objs.size:=by rw[←hs3];show _≤(s2.heap.push _).objs.size;rw[Heap.size_push];exact Nat.le_succ _
 have fok:∀b∈fp,Hk X pins H3 b:=fun b hb=>⟨by rw[←hH3,Ar (Nat.ne_of_lt (fpl b hb))];exact(f2 b hb).1,(f2 b hb).2⟩
 have k23:∀b o,s2.heap.get? b=some o→s3.heap.get? b=some o:=fun b o e=>by rw[←hs3];exact Heap.get?_push_of_some _ e
 have st3:tn 0 s3.heap:=Tn.keep _ _ _ st2 fun b _ o e=>k23 b o e
 refine S7 ok.kind (fun h4 hns4 k34 okc=>?_)
 have oldc:∀x c,cl.lookup x=some c→c<s3.heap.objs.size:=fun x c e=>by
  obtain⟨v,o,ho,_⟩:=I3.cell x c (ok.sub x c e).1
  exact Heap.lt_size ho
 have hc1:=Vr (h':=h4) ok okc oldc
 have hc2:=Vq (h':=h4) ok okc oldc
 have I4:Inv (Bg X scope cl T M s3 H3 fp) [] (Wl T σ) H3 { s3 with heap:=h4 }:=
  Qi ok I3 (fun b hb=>⟨fok b hb,Nat.lt_of_lt_of_le (fpl b hb) sz3⟩) hns4 k34 rfl rfl hc1 hc2
 have st4:tn 0 h4:=Tn.keep _ _ _ st3 fun b _ o e=>k34 b o e
 obtain⟨W,⟨m0,w0⟩,turn⟩:=q
 have cfpc:∀b∈fp,∀x c,(A7 scope cl s3.heap.objs.size).lookup x=some c→c≠b:=fun b hb x c e=>by
  rcases Da ok s3.heap.objs.size x c e with ⟨_,a2⟩|⟨a1,_⟩
  ·exact Nat.ne_of_gt (Nat.lt_of_lt_of_le (Nat.lt_of_lt_of_le (fpl b hb) sz3) (Nat.le_of_succ_le a2))
  ·exact(fok b hb).2.2.2.2.1 x c (ok.sub x c a1).1
 have cfp:∀{H':Hp},(∀b∈fp,H' b=none)→∀b∈fp,Hk (Bg X scope cl T M s3 H3 fp) [] H' b:=fun hn b hb=>by
  refine⟨hn b hb,Nat.ne_of_lt (Nat.lt_of_lt_of_le (fpl b hb) sz3),fun z=>?_,.inl hb,fun x c e=>cfpc b hb x c e,fun p hp=>absurd (show p∈([]:List (Addr×Obj)) from hp) (by simp)⟩
  rcases List.mem_cons.mp (I3.stkSub b z) with e|e
  ·exact(fok b hb).2.1 e
  ·exact(fok b hb).2.2.1 e
 have fin:∀(σ':St) (H':Hp) (s':Shared),Inv (Bg X scope cl T M s3 H3 fp) [] σ' H' s'→Q (.ref s2.heap.objs.size) H'→compPost (model X.prog X.w) X.A X.xe none (EP X pins σ Q) (.ref s2.heap.objs.size) s3.heap.objs.size (.ok .next) s':=fun σ' H' s' J q=>by
  obtain⟨m',hm',_⟩:=J.loc
  refine⟨m',hm',fun h' hs'=>?_⟩
  have J0:Inv X pins σ H' s':=I3.call' (ch:=fp) J.os J.base J.hok J.bare fun b hb=>⟨(fok b hb).2.2.2.1,(fok b hb).2.1,(fok b hb).2.2.2.2.1,(fok b hb).2.2.2.2.2⟩
  have nC:=I3.fpOk (H':=H') (Nat.le_refl s3.heap.objs.size) J.free
  exact⟨.ref s2.heap.objs.size,H',J0.turned (t':=s'.toks) (fun b o hb e=>(hs'.2 b hb).trans e) nC.1 nC.2.1 nC.2.2.2.1 nC.2.2.2.2.1 nC.2.2.2.2.2,rfl,q⟩
 have loop:∀s5:Shared,s5={ s3 with heap:=h4 }→
   codeAny (model X.prog X.w) X.A (.compLoop (.ListComp elt [⟨tg,iter,ifs,0⟩] scope pos) 0 (.ref it) (.ref s2.heap.objs.size) (compEnvC scope (A7 scope cl s3.heap.objs.size) s3.heap.objs.size X.env))
    (compPost (model X.prog X.w) X.A X.xe none (EP X pins σ Q) (.ref s2.heap.objs.size) s3.heap.objs.size) s5:=by
  rintro s5 rfl
  refine L8 (fun k s'=>∃i σ' H',Inv (Bg X scope cl T M s3 H3 fp) [] σ' H' s'∧tn i s'.heap∧(∀b∈fp,H' b=none)∧W i k σ' H') ?_ m0 ⟨0,Wl T σ,H3,I4,st4,fun b hb=>(fok b hb).1,w0⟩
  rintro k s6 ⟨i,σ6,H6,I6,st6,fr6,w6⟩
  rcases turn i k σ6 H6 w6 with ⟨stop,qn⟩|⟨go,N,hN,step⟩
  ·refine wpAny_mono (Tn.done (Bg X scope cl T M s3 H3 fp) rfl rfl rfl hc i [] s6 _ H6 (fun _ _=>False) I6 (cfp fr6) st6 stop) (fun r s7 ⟨hr,I7⟩=>?_) fun _ _ z=>z.elim
   subst hr
   exact fin _ H6 s7 I7 qn
  ·refine wpAny_mono (Tn.item (Bg X scope cl T M s3 H3 fp) rfl rfl rfl hc i [] s6 _ H6 (fun _ _=>False) I6 (cfp fr6) st6 go) (fun r s7 ⟨u,hr,h7⟩=>?_) fun _ _ z=>z.elim
   subst hr
   show Re _ _ _ _ _ _ _ _ _ _ _ _ _;unfold Re
   refine wpAny_mono h7 (fun _ s8 h8=>?_) fun _ _ z=>z.elim
   obtain⟨x7,H7,I7,r7,y7,st7,fr7⟩:=h8
   have I7':=I7.pinned (cfp fr7) (Tn.obj _ _ st7)
   have back:∀{σ8:St} {H8:Hp} {s9:Shared},Inv (Bg X scope cl T M s3 H3 fp) ([]++E3 fp s8.heap) σ8 H8 s9→tn (i+1) s9.heap∧∀b∈fp,H8 b=none:=fun {σ8 H8 s9} I8=>by
    refine⟨Tn.keep _ _ _ st7 fun b hb o e=>(I8.pin (b,o) (List.mem_append_right _ (List.mem_append_right _ (C8 hb e)))).1,fun b hb=>?_⟩
    obtain⟨o,e,d⟩:=Tn.obj _ _ st7 b hb
    exact(I8.pin (b,o) (List.mem_append_right _ (List.mem_append_right _ (C8 hb e)))).2.1
   have again:∀{σ9:St} {H9:Hp} {s9:Shared},Inv (Bg X scope cl T M s3 H3 fp) ([]++E3 fp s8.heap) σ9 H9 s9→N σ9 H9→
     ∃m,m<k∧∃i σ' H',Inv (Bg X scope cl T M s3 H3 fp) [] σ' H' s9∧tn i s9.heap∧(∀b∈fp,H' b=none)∧W i m σ' H':=fun {σ9 H9 s9} I9 n9=>by
    obtain⟨m',hm,w9⟩:=hN σ9 H9 n9
    obtain⟨b1,b2⟩:=back I9
    exact⟨m',hm,i+1,σ9,H9,I9.unpinned,b1,b2,w9⟩
   refine wpAny_mono (hg s3 H3 fp _ s8 σ6 H7 x7 u _ I7' r7 (step x7 H7 y7)) (fun _ s9 ⟨σ9,H9,I9,q9⟩=>?_) fun _ _ z=>z.elim
   refine wpAny_mono (hf s3 H3 fp _ s9 σ9 H9 _ I9 q9) (fun okb s10 ⟨H10,I10,q10⟩=>?_) fun _ _ z=>z.elim
   cases okb with
   |false=>
    rw[if_neg Bool.false_ne_true] at q10 ⊢
    exact again I10 q10
   |true=>
    rw[if_pos rfl] at q10 ⊢
    refine wpAny_mono (he s3 H3 fp _ s10 σ9 H10 _ I10 q10) (fun y s11 ⟨yv,H11,I11,ry,ys,e11,l11,n11⟩=>?_) fun _ _ z=>z.elim
    refine wpAny_mono (Ih (X:=Bg X scope cl T M s3 H3 fp) _ s11 σ9 H11 (.ref s2.heap.objs.size) [yv] (.ref s2.heap.objs.size) [y] (fun _ H12=>N σ9 H12) I11 rfl (.cons ry .nil) ⟨_,ys,yv,rfl,rfl,e11,l11,n11⟩) (fun _ s12 ⟨_,H12,I12,_,n12⟩=>?_) fun _ _ z=>z.elim
    exact again I12 n12
 exact codeAny_compStart_list (loop _ rfl) (Tn.self _ 0 _ _ _ st4 (loop _ rfl))


theorem compOz{X:Cx}{scope:Scope}{T M:List Str}(h1:(scope.names.all fun y=>!(y.2 == .free)||(X.env.cells.lookup y.1).isSome)=true:=by rfl)(h3:scope.kind=.function:=by rfl)(h4:(scope.names.all fun y=>scope.names.lookup y.1 == some y.2)=true:=by rfl)(h6:M.length=X.N.length:=by rfl)(h5:((M.zip X.N).all fun z=>match scope.names.lookup z.1 with|some .local=>false|some .cell=>false|some .free=>z.1 == z.2&&(X.env.kindOf z.1 == some .cell||X.env.kindOf z.1 == some .free)|_=>true)=true:=by rfl) :
  CompOz X scope (B0 X.env.cells scope.names []) T M:=by
 have hl:∀y∈scope.names,scope.names.lookup y.1=some y.2:=fun y hy=>by simpa using List.all_eq_true.mp h4 y hy
 have only:∀(names:List (Str×NameKind)) (cs:List (Str×Addr)) (x:Str) (c:Addr),(B0 X.env.cells names cs).lookup x=some c→(x,NameKind.free)∈names∨cs.lookup x=some c:=by
  intro names
  induction names with
  |nil=>intro cs x c h;exact .inr h
  |cons y r ih=>
   intro cs x c h
   obtain⟨n,k⟩:=y
   unfold B0 at h
   split at h
   ·rename_i hk
    split at h
    ·rename_i c' hc
     rcases ih _ x c h with z|z
     ·exact .inl (List.mem_cons_of_mem _ z)
     ·by_cases hx:x=n
      ·subst hx
       have:k=.free:=by simpa using hk
       subst this
       exact .inl (by simp)
      ·rw[List.lookup_cons,beq_false_of_ne hx] at z
       exact .inr z
    ·rcases ih _ x c h with z|z
     ·exact .inl (List.mem_cons_of_mem _ z)
     ·exact .inr z
   ·rcases ih _ x c h with z|z
    ·exact .inl (List.mem_cons_of_mem _ z)
    ·exact .inr z
 refine⟨?_,h3,fun y hy z=>by rw[hl y hy,z],fun y hy z=>by rw[hl y hy,z],fun x c e=>⟨Dv _ _ (fun _ _ z=>by simp at z) x c e,?_⟩,fun x hx=>Fb _ _ x h1 (.inl (PySem.mem_of_lookup hx)),h6,fun i x hx k q=>?_⟩
 ·unfold closureFor
  have:=Vp (env:=X.env) scope.names [] h1
  simp only[bind_pure]
  exact this
 ·rcases only _ _ x c e with z|z
  ·exact hl _ z
  ·simp at z
 ·have hi:i<X.N.length:=by rw[←h6];exact(List.getElem?_eq_some_iff.mp hx).1
  have hz:(M.zip X.N)[i]? = some (x,X.N[i]):=by rw[List.getElem?_zip_eq_some];exact⟨hx,List.getElem?_eq_getElem hi⟩
  have this:=List.all_eq_true.mp h5 _ (List.mem_of_getElem? hz)
  dsimp only at this
  rw[q] at this
  refine⟨fun z=>?_,fun z=>?_,fun z=>?_⟩
  ·subst z;exact absurd this (by simp)
  ·subst z;exact absurd this (by simp)
  ·subst z
   simp only[Bool.and_eq_true,beq_iff_eq,Bool.or_eq_true] at this
   exact⟨by rw[List.getElem?_eq_getElem hi,←this.1],this.2⟩
theorem Mb{K:W.Frag}{J:It}{n:Nat}{p:Addr}{ds:List D}{same:Gp→Prop}{g:DTG}{tf:DTT}{te:DTE}{Q:DK}{QV:VK}{σD:DSt}{σ:St}{G:Gp}{H:Hp}(rs:RelS K H σD σ)(rg:RelG K H G)(hp:H p=none)(cl:∀d G',Q d G'→Fwd K H G' fun H'=>∀v,DV K H' d v→QV v H')(hJ:∀H' G',Ext H H'→RelG K H' G'→same G'→ItemsX K J H' ds)(h:Ny n p ds same g tf te σD (Ad G p (.lst [])) Q) :
  ∃W:Nat→Nat→St→Hp→Prop,(∃m,W 0 m (List.replicate n none++σ) (upd H p (.lst [])))∧∀i m σ1 H,W i m σ1 H→
   ((J.stop i H∧QV (.ref p) H)∨(J.go i H∧∃N:St→Hp→Prop,(∀σ' H',N σ' H'→∃m',m'<m∧W (i+1) m' σ' H')∧
    ∀x H',J.yld i H x H'→Ku K g x σ1 H' fun σ2 H2=>Hr K tf σ2 H2 fun b H3=>if b=true then Ct K te σ2 H3 fun y H4=>∃ys,H4 p=some (.lst ys)∧ys.length<sizeLine∧N σ2 (upd H4 p (.lst (ys++[y]))) else N σ2 H3)):=by
 obtain⟨P,p0,keep,step,fin⟩:=h
 refine⟨fun i m σ' H'=>m=ds.length-i∧i≤ds.length∧RelS K H' (List.replicate n none++σD) σ'∧∃yd G',RelG K H' G'∧Ext H H'∧P i yd G',
  ⟨ds.length,rfl,Nat.zero_le _,(U3 n rs).ext (Ext.fresh hp),[],_,rg.lst hp .nil,Ext.fresh hp,p0⟩,?_⟩
 rintro i m σ1 H1 ⟨rfl,hi,rs1,yd,G1,rg1,x1,p1⟩
 obtain⟨sm,gp⟩:=keep i yd G1 hi p1
 have I:=hJ H1 G1 x1 rg1 sm
 by_cases hlt:i<ds.length
 ·refine .inr ⟨I.go i hlt,fun σ' H'=>RelS K H' (List.replicate n none++σD) σ'∧∃yd' G',RelG K H' G'∧Ext H H'∧P (i+1) yd' G',fun σ' H' ⟨a2,yd',G',a3,a4,a5⟩=>⟨ds.length-(i+1),by omega,rfl,hlt,a2,yd',G',a3,a4,a5⟩,fun x H' y=>?_⟩
  obtain⟨xe,rge,d,ed,dv⟩:=I.yl i x H' hlt y
  refine⟨d,_,G1,_,dv,rs1.ext xe,rge _ rg1,step i d yd G1 ed p1,fun σ2 G2 ⟨⟨pre,hpre,e2⟩,st2⟩ H2 x2 rg2 σ' rs2=>?_⟩
  have back:∀{H5:Hp} {σ5:St},RelS K H5 σ2 σ5→RelS K H5 (List.replicate n none++σD) σ5:=fun {H5 σ5} r=>by
   refine⟨by rw[←r.1,e2,List.length_append,List.length_append,List.length_replicate,hpre],fun j d e=>?_⟩
   refine r.2 j d ?_
   by_cases hj:j<n
   ·rw[List.getElem?_append_left (by simpa using hj),List.getElem?_replicate,if_pos hj] at e
    cases e
   ·rw[List.getElem?_append_right (by simpa using hj),List.length_replicate] at e
    rw[e2,List.getElem?_append_right (by omega),hpre];exact e
  refine⟨σ2,G2,_,rs2,rg2,st2,fun b G3 h3 H3 x3 rg3=>?_⟩
  have x13:=x1.trans (xe.trans (x2.trans x3))
  dsimp only at h3 ⊢
  cases b with
  |false=>
   rw[if_neg Bool.false_ne_true] at h3 ⊢
   obtain⟨G4,sb,p4⟩:=h3
   exact⟨back (rs2.ext x3),yd,G4,rg3.ext' sb,x13,p4⟩
  |true=>
   rw[if_pos rfl] at h3 ⊢
   refine⟨_,G3,_,rs2.ext x3,rg3,h3,fun z G4 ⟨e4,l4,G5,sb,p5⟩ H4 x4 rg4 v4 d4=>?_⟩
   obtain⟨xs,ex,r⟩:=rg4 p _ e4
   exact⟨xs,ex,by rw[←r.length];exact l4,back ((rs2.ext (x3.trans x4)).ext (Do ex)),_,G5,(rg4.lstw ex (r.append (.cons d4 .nil))).ext' sb,(x13.trans x4).trans (Do ex),p5⟩
 ·have e:i=ds.length:=by omega
  subst e
  exact .inl ⟨I.st,cl _ G1 (fin yd G1 p1) H1 x1 rg1 _ (.ref p)⟩
theorem P6{K:W.Frag}{J:It}{G:Gp}{H:Hp}{ds:List D}(h:Items K J G H ds):ItemsX K J H ds:=⟨h.go,fun i x H' hi y=>by
 obtain⟨e,d,ed,dv⟩:=h.yl i x H' hi y
 subst e
 exact⟨Ext.refl _,fun _ r=>r,d,ed,dv⟩,h.st⟩
section
variable{X:Cx}{elt iter tg:Expr}{ifs:List Expr}{scope:Scope}{pos:Pos}{ti te:DTE}{tf:DTT}{g:DTG}{T M:List Str}
abbrev QGz(X:Cx)(scope:Scope)(T M:List Str)(tg:Expr)(g:DTG):Prop:=∀s H fp,QG (Bg X scope (B0 X.env.cells scope.names []) T M s H fp) tg g
abbrev QFz(X:Cx)(scope:Scope)(T M:List Str)(ifs:List Expr)(t:DTT):Prop:=∀s H fp,QF (Bg X scope (B0 X.env.cells scope.names []) T M s H fp) ifs t
abbrev QEz(X:Cx)(scope:Scope)(T M:List Str)(e:Expr)(t:DTE):Prop:=∀s H fp,QE (Bg X scope (B0 X.env.cells scope.names []) T M s H fp) e t
def D0(n:Nat)(ti:DTE)(g:DTG)(tf:DTT)(te:DTE):DTE:=fun σ G Q=>ti σ G fun d G1=>∃ds,Bd G1 d=some ds∧∀p,G1 p=none→Ny n p ds (fun G'=>Bd G' d=some ds) g tf te σ (Ad G1 p (.lst [])) Q
theorem q_compz(hc:X.calm=true)(ok:CompOz X scope (B0 X.env.cells scope.names []) T M)(hi:QE X iter ti)(hg:QGz X scope T M tg g)(hf:QFz X scope T M ifs tf)(he:QEz X scope T M elt te)(hs:∀x,foldedSetIterable iter X.env x=pure x:=by intro _;rfl):QE X (.ListComp elt [⟨tg,iter,ifs,0⟩] scope pos) (D0 T.length ti g tf te):=
 (Sv (g:=Ku X.K g) (tf:=Hr X.K tf) (te:=Ct X.K te) hc ok (Rp hi) hg hf he hs).imp fun σ H Q ⟨σD,G,Q',rs,rg,h,cl⟩=>by
 refine⟨σD,G,_,rs,rg,h,fun d G1 ⟨ds,ei,L⟩ H1 x1 rg1 v dv=>?_⟩
 obtain⟨a,rfl⟩:=Lf ei dv
 refine⟨a,rfl,?_⟩
 have lp:=fun p hp=>Mb (J:=jOf X.K d a) (rs.ext x1) rg1 hp (fun d' G' q=>(cl d' G' q).go x1) (fun H' G' x' rg' s'=>P6 (Gi rg' s' (dv.ext x'))) (L p (rg1.free hp))
 cases dv with
 |tup e r=>exact .inr ⟨⟨_,.inl (.inl e)⟩,lp⟩
 |lint e=>exact .inl ⟨⟨_,e.sq⟩,lp⟩
 |ref=>
  simp only[Bd] at ei
  split at ei
  ·rename_i ds' q
   obtain⟨xs,e,r⟩:=rg1 a _ q
   exact .inl ⟨⟨_,.inl (.inl e)⟩,lp⟩
  ·cases ei
end
end D3
namespace D3
open PySem PySem.Spec
open PyProof.Rows hiding St
open L2 hiding St
section
variable{X:Cx}
end
def Mu:Expr→Bool
 |.Starred ..=>false
 |_=>true
theorem Pf{e:Expr}{es:List Expr}{env:Env}(h:Mu e=true):starEach (e::es) env=(false,eval e env)::starEach es env:=by
 cases e<;>first|rfl|exact absurd h (by simp[Mu])
theorem qa_consP{X:Cx}{e:Expr}{es:List Expr}{te:DTE}{tA:DTA}(ha:QE X e te)(hr:QA X es tA)(h:Mu e=true:=by rfl):QA X (e::es) (Ai te tA):=N6 ha hr (Pf h)
def Wo(ta:DTE):DTE:=fun σ G Q=>ta σ G fun x G1=>∃i,x=.int i∧Q (.int (-i)) G1
theorem q_neg{X:Cx}{a:Expr}{ta:DTE}{pos:Pos}(ha:QE X a ta):QE X (.UnaryOp .USub a pos) (Wo ta):=(Zl Wy ha).imp fun σ H Q ⟨σD,G,Q',rs,rg,h,cl⟩=>by
 refine⟨σD,G,_,rs,rg,h,fun d G1 ⟨i,e,h1⟩ H1 x1 rg1 v dv=>?_⟩
 subst e;cases dv
 exact⟨i,rfl,cl _ G1 h1 H1 x1 rg1 _ (.int _)⟩
theorem ex3{p:D→D→D→Prop}{j k l:D}:(∃x y z,[j,k,l]=[x,y,z]∧p x y z)↔p j k l:=⟨fun⟨_,_,_,e,h⟩=>by cases e;exact h,fun h=>⟨j,k,l,rfl,h⟩⟩
end D3
namespace D3
open PySem PySem.Spec
open PyProof.Rows hiding St
open L2 hiding St
def Ris(xs:Array Nat):Prop:=∀i j,i<j→j<xs.size→∀d,xs.getD i d<xs.getD j d
theorem Gu{xs:Array Nat}{j:Nat}(hr:Ris xs):∀(fuel lo hi:Nat),hi≤lo+fuel→lo≤hi→hi≤xs.size→(∀i,i<lo→xs.getD i j<j)→(∀i,hi≤i→i<xs.size→j≤xs.getD i j)→
  (SetTable.below.go xs j fuel lo hi)≤xs.size∧(∀i,i<SetTable.below.go xs j fuel lo hi→xs.getD i j<j)∧∀i,SetTable.below.go xs j fuel lo hi≤i→i<xs.size→j≤xs.getD i j
 |0,lo,hi,h1,h2,h3,h4,h5=>by
  have:lo=hi:=by omega
  subst this
  exact⟨h3,h4,h5⟩
 |fuel+1,lo,hi,h1,h2,h3,h4,h5=>by
  rw[SetTable.below.go]
  by_cases hlt:lo<hi
  ·rw[if_pos hlt]
   have hm1:lo≤(lo+hi) / 2:=by omega
   have hm2:(lo+hi) / 2<hi:=by omega
   dsimp only
   by_cases hc:xs.getD ((lo+hi) / 2) j<j
   ·rw[if_pos hc]
    refine Gu hr fuel _ hi (by omega) (by omega) h3 (fun i hi'=>?_) h5
    by_cases e:i=(lo+hi) / 2
    ·subst e;exact hc
    ·exact Nat.lt_trans (hr i _ (by omega) (by omega) j) hc
   ·rw[if_neg hc]
    refine Gu hr fuel lo _ (by omega) hm1 (by omega) h4 (fun i hi' hs=>?_)
    by_cases e:i=(lo+hi) / 2
    ·subst e;exact Nat.le_of_not_lt hc
    ·exact Nat.le_trans (Nat.le_of_not_lt hc) (Nat.le_of_lt (hr _ i (by omega) hs j))
  ·rw[if_neg hlt]
   have:lo=hi:=by omega
   subst this
   exact⟨h3,h4,h5⟩
theorem Hd{xs:Array Nat}(hr:Ris xs)(j:Nat):SetTable.below xs j≤xs.size∧(∀i,i<SetTable.below xs j→xs.getD i j<j)∧∀i,SetTable.below xs j≤i→i<xs.size→j≤xs.getD i j:=
 Gu hr _ 0 _ (by omega) (Nat.zero_le _) (Nat.le_refl _) (fun i h=>absurd h (Nat.not_lt_zero _)) (fun i h1 h2=>absurd h2 (by omega))
theorem Ls{xs:Array Nat}(hr:Ris xs){j i:Nat}(hi:i≤xs.size)(h1:∀k,k<i→xs.getD k j<j)(h2:∀k,i≤k→k<xs.size→j≤xs.getD k j):SetTable.below xs j=i:=by
 obtain⟨a,b,c⟩:=Hd hr j
 generalize SetTable.below xs j=r at *
 rcases Nat.lt_trichotomy r i with h|h|h
 ·have x1:=h1 r h;have x2:=c r (Nat.le_refl _) (by omega);omega
 ·exact h
 ·have x1:=b i h;have x2:=h2 i (Nat.le_refl _) (by omega);omega
theorem C2{xs:Array Nat}{i:Nat}(h:i<xs.size)(d e:Nat):xs.getD i d=xs.getD i e:=by
 rw[Array.getD,Array.getD,dif_pos h,dif_pos h]
theorem Nl{xs:Array Nat}(hr:Ris xs){i:Nat}(h:i<xs.size):SetTable.below xs (xs.getD i 0+1)=i+1:=by
 refine Ls hr (by omega) (fun k hk=>?_) (fun k hk hs=>?_)
 ·by_cases e:k=i
  ·subst e;rw[C2 h _ 0];omega
  ·have:=hr k i (by omega) h 0
   rw[C2 (by omega) _ 0];omega
 ·have:=hr i k (by omega) hs 0
  rw[C2 hs _ 0];omega
theorem Nk{xs:Array Nat}(hr:Ris xs):SetTable.below xs 0=0:=
 Ls hr (Nat.zero_le _) (fun k h=>absurd h (Nat.not_lt_zero _)) fun k _ _=>Nat.zero_le _
theorem ins_get{α:Type}{xs:Array α}{p:Nat}{x:α}(hp:p≤xs.size)(i:Nat):(SetTable.insertAt xs p x)[i]? = if i<p then xs[i]? else if i=p then some x else xs[i-1]?:=by
 unfold SetTable.insertAt
 have e1:((xs.extract 0 p).push x).size=p+1:=by simp;omega
 rw[Array.getElem?_append,e1]
 by_cases h1:i<p
 ·rw[if_pos (by omega),if_pos h1,Array.getElem?_push,if_neg (by simp;omega),Array.getElem?_extract,if_pos (by omega),Nat.zero_add]
 ·rw[if_neg h1]
  by_cases h2:i=p
  ·subst h2
   rw[if_pos (by omega),if_pos rfl,Array.getElem?_push,if_pos (by simp;omega)]
  ·rw[if_neg (by omega),if_neg h2,Array.getElem?_extract]
   by_cases h3:i-1<xs.size
   ·rw[if_pos (by omega)];congr 1;omega
   ·rw[if_neg (by omega),Array.getElem?_eq_none (by omega)]
theorem Tk{α:Type}{xs:Array α}{p:Nat}{x:α}(hp:p≤xs.size):(SetTable.insertAt xs p x).size=xs.size+1:=by
 unfold SetTable.insertAt;simp;omega
theorem getD_of{xs:Array Nat}{i d:Nat}:xs.getD i d=(xs[i]?).getD d:=by
 by_cases h:i<xs.size
 ·rw[Array.getD,dif_pos h,Array.getElem?_eq_getElem h];rfl
 ·rw[Array.getD,dif_neg h,Array.getElem?_eq_none (by omega)];rfl
theorem Uf{xs:Array Nat}(hr:Ris xs){j:Nat}(hne:xs[SetTable.below xs j]?≠some j):Ris (SetTable.insertAt xs (SetTable.below xs j) j):=by
 obtain⟨a,b,c⟩:=Hd hr j
 generalize SetTable.below xs j=p at *
 intro i k hik hk d
 rw[Tk a] at hk
 rw[getD_of,getD_of,ins_get a,ins_get a]
 have up:∀k,p≤k→k<xs.size→j<xs.getD k d:=fun k h1 h2=>by
  have h3:=c k h1 h2
  rw[C2 h2 j d] at h3
  refine Nat.lt_of_le_of_ne h3 fun e=>?_
  by_cases hkp:k=p
  ·subst hkp
   refine hne ?_
   rw[Array.getElem?_eq_getElem h2]
   rw[Array.getD,dif_pos h2] at e
   rw[e];rfl
  ·have h4:=c p (Nat.le_refl _) (by omega)
   have h5:=hr p k (by omega) h2 j
   rw[C2 h2 j d] at h5
   omega
 have dn:∀k,k<p→xs.getD k d<j:=fun k h1=>by
  have:=b k h1
  rw[C2 (by omega) j d] at this;exact this
 have self:∀m:Nat,(xs[m]?).getD d=xs.getD m d:=fun m=>getD_of.symm
 by_cases h1:i<p
 ·rw[if_pos h1,self]
  by_cases h2:k<p
  ·rw[if_pos h2,self];exact hr i k hik (by omega) d
  ·rw[if_neg h2]
   by_cases h3:k=p
   ·rw[if_pos h3];exact dn i h1
   ·rw[if_neg h3,self];exact Nat.lt_trans (dn i h1) (up _ (by omega) (by omega))
 ·rw[if_neg h1,if_neg (show ¬k<p by omega),if_neg (show ¬k=p by omega),self (k-1)]
  by_cases h2:i=p
  ·rw[if_pos h2];exact up _ (by omega) (by omega)
  ·rw[if_neg h2,self];exact hr _ _ (by omega) (by omega) d
theorem Lx{l:List Nat}(h:l.Pairwise (· < ·)):Ris l.toArray:=fun i j h1 h2 d=>by
 simp only[List.size_toArray] at h2
 rw[Array.getD,dif_pos (by simp;omega),Array.getD,dif_pos (by simpa using h2)]
 exact List.pairwise_iff_getElem.mp h i j (by omega) h2 h1
theorem Hh{β:Type}(f:Nat→Option β):∀l:List Nat,l.Pairwise (· < ·)→((l.filterMap fun j=>(f j).map fun k=>(j,k)).map (·.1)).Pairwise (· < ·):=fun l h=>by
 rw[List.map_filterMap]
 refine List.Pairwise.filterMap _ (fun a a' haa b hb b' hb'=>?_) h
 cases e:f a with
 |none=>rw[e] at hb;cases hb
 |some x=>
  cases e':f a' with
  |none=>rw[e'] at hb';cases hb'
  |some x'=>rw[e] at hb;rw[e'] at hb';cases hb;cases hb';exact haa
structure TOk(w:World)(t:SetTable):Prop where
 ris:Ris t.place
 dum:t.dummies=#[]
 led:w.params.followText "set-order" = true∨t.led=true
theorem Mw{j:Nat}:SetTable.has #[] j=false:=by
 unfold SetTable.has
 simp
theorem M3{t:SetTable}(h:t.dummies=#[])(j:Nat):t.slot j≠.dummy:=by
 unfold SetTable.slot
 dsimp only
 rw[h,Mw]
 split
 ·intro e;cases e
 ·intro e;cases e
theorem TOk.put{w:World}{t:SetTable}(h:TOk w t){j:Nat}(hne:t.place[SetTable.below t.place j]?≠some j):TOk w (t.put j).1:=by
 refine⟨Uf h.ris hne,?_,h.led⟩
 show(if SetTable.has t.dummies j=true then _ else t.dummies)=#[]
 rw[h.dum,Mw];rfl
theorem Tf{w:World}{mask finger moves:Nat}{led plain:Bool}{hs:Array Int}{t:SetTable}{o:Array Nat}(hl:w.params.followText "set-order" = true∨led=true)(e:SetTable.laid mask finger moves led plain hs=some (t,o)):TOk w t:=by
 unfold SetTable.laid at e
 cases hq:SetTable.layClean mask hs with
 |none=>rw[hq] at e;cases e
 |some owner=>
  rw[hq] at e
  cases e
  exact⟨Lx (Hh _ _ List.pairwise_lt_range),rfl,hl⟩
end D3
namespace D3
open PySem PySem.Spec
open PyProof.Rows hiding St
open L2 hiding St
def eI(e:Int×Value):Int:=match e.2 with|.int i _=>i|_=>0
abbrev Ah(es:Array (Int×Value))(ep:Nat)(t:SetTable):Obj:={ cls:=.type "set",dict:=none,data:=.set es ep t,slots:=#[] }
structure SOk(P:Program)(w:World)(es:Array (Int×Value))(t:SetTable)(ks:List Int):Prop where
 tok:TOk w t
 fit:t.fits es.size=true
 el:∀e∈es.toList,∃i u,e=((intKind P w).hash i,Value.int i u)
 nd:(es.toList.map eI).Nodup
 mem:∀k,k∈es.toList.map eI↔k∈ks
 sz:es.size<scanBound
section
variable{P:Program}{w:World}{A:Around}{E:Value→Shared→Prop}{s:Shared}
theorem N7{h:Heap}{a:Addr}{es es':Array (Int×Value)}{ep:Nat}{t t':SetTable}(ho:h.get? a=some (Ah es ep t)):(h.update a (Obj.putSet es' t')).get? a=some (Ah es' (ep+1) t'):=by
 have e:=Heap.get?_update_self (Obj.putSet es' t') ho (by rw[putSet_of es' t' rfl];rfl)
 rw[putSet_of es' t' rfl] at e;exact e
end
end D3
set_option maxRecDepth 100000
namespace D3
open PySem PySem.Spec
open PyProof.Rows hiding St
open L2 hiding St
section
variable{P:Program}{w:World}{A:Around}{R:Result→Shared→Prop}{E:Value→Shared→Prop}{s:Shared}
theorem M4(a:Value){Q₁:Value→Shared→Prop}(h:∀led:Bool,(w.params.followText "set-order" = true∨led=true)→Q₁ (.ref s.heap.objs.size) { s with heap:=s.heap.push (Ah #[] 0 (.fresh 0 0 led)) }) :
  codeAny (model P w) A (.call (.builtin "set.__new__") ⟨[.type "set",a],[]⟩) (wants Q₁ E) s:=by
 refine codeAny_of_tree ?_
 show wpAny _ A.in1 (do checkBuiltinCall "set.__new__" ⟨[.type "set",a],[]⟩;again (.builtin "set.__new__" ⟨[.type "set",a],[]⟩)) _ _ s;refine wpAny_bind (wpAny_of_eq (PySem.F.newCall_set_1 a) (wpAny_pure ⟨plainId_quiet PySem.F.plain_set_new _,codeAny_builtin PySem.F.entry_set_new ?_⟩))
 rw[Around.under_plainId PySem.F.plain_set_new _];unfold Builtin.«set.__new__» Builtin.Frozenset.newClass
 have hsub:=sub_set_self;obtain⟨hp,g,d,tk,os⟩:=s;dsimp only
 wp_walk
 refine wpAny_askSetting (wpAny_pure ?_);dsimp only;simp only[newObj];refine wpAny_bind (wpAny_alloc (wpAny_pure (wpAny_pure (h _ ?_))))
 show w.params.followText "set-order" = true∨(!w.params.followText "set-order")=true
 cases w.params.followText "set-order"<;>simp
theorem Sc:isSubtype (.type "tuple") (.type "set")=pure false:=by rw[isSubtype_type];kernel_rfl
theorem Hf:isSubtype (.type "tuple") (.type "frozenset")=pure false:=by rw[isSubtype_type];kernel_rfl
end
end D3
set_option maxRecDepth 100000
set_option maxHeartbeats 4000000
namespace D3
open PySem PySem.Spec
open PyProof.Rows hiding St
open L2 hiding St
section
variable{P:Program}{w:World}{A:Around}{E:Value→Shared→Prop}{s:Shared}
end
end D3
set_option maxRecDepth 100000
set_option maxHeartbeats 4000000
namespace D3
open PySem PySem.Spec
open PyProof.Rows hiding St
open L2 hiding St
structure SBase(w:World)(es:Array (Int×Value))(t:SetTable):Prop where
 tok:TOk w t
 fit:t.fits es.size=true
 sz:es.size<scanBound
theorem SOk.base{P:Program}{w:World}{es:Array (Int×Value)}{t:SetTable}{ks:List Int}(h:SOk P w es t ks):SBase w es t:=⟨h.tok,h.fit,h.sz⟩
theorem slot_si_next:Slot "set_iterator" "__next__" "set_iterator.__next__":=
 .of (owner:="set_iterator") (n:="__next__") (by rw[typeLookup_type,builtinLookup_eq_fast];kernel_rfl) (by decide +kernel) (by decide +kernel) (by decide +kernel) (by first|exact .inl (by decide +kernel)|exact .inr (by decide +kernel)) (by rw[isSubtype_type];kernel_rfl)
theorem Ew:Slot "set_iterator" "__iter__" "set_iterator.__iter__":=
 .of (owner:="set_iterator") (n:="__iter__") (by rw[typeLookup_type,builtinLookup_eq_fast];kernel_rfl) (by decide +kernel) (by decide +kernel) (by decide +kernel) (by first|exact .inl (by decide +kernel)|exact .inr (by decide +kernel)) (by rw[isSubtype_type];kernel_rfl)
theorem Dy:entryFor table "set_iterator.__next__" = some Builtin.«set_iterator.__next__»:=entryFor_of_tree (by kernel_rfl)
theorem Hn:entryFor table "set_iterator.__iter__" = some Builtin.«dict_keyiterator.__iter__»:=entryFor_alias (id':="dict_keyiterator.__iter__") (by kernel_rfl) rfl (by decide +kernel) (by kernel_rfl)
theorem Kd:entryFor table "set.__iter__" = some Builtin.«frozenset.__iter__»:=entryFor_alias (id':="frozenset.__iter__") (by kernel_rfl) rfl (by decide +kernel) (by kernel_rfl)
theorem Rq:Manifest.owners.lookup (String.ofList ['r','o','t','a','r','e','t','i','_','t','e','s'].reverse)=some Manifest.sig_set_iterator:=by kernel_rfl
theorem Ex(a:Value):argsOk "set_iterator.__next__" ⟨[a],[]⟩:=by
 unfold argsOk;rw[signature?_of (id:="set_iterator.__next__") (n:=['_','_','t','x','e','n','_','_']) (o:=['r','o','t','a','r','e','t','i','_','t','e','s']) (by kernel_rfl) Rq];kernel_rfl
theorem Kl(a:Value):argsOk "set_iterator.__iter__" ⟨[a],[]⟩:=by
 unfold argsOk;rw[signature?_of (id:="set_iterator.__iter__") (n:=['_','_','r','e','t','i','_','_']) (o:=['r','o','t','a','r','e','t','i','_','t','e','s']) (by kernel_rfl) Rq];kernel_rfl

section
variable{P:Program}{w:World}{A:Around}{E:Value→Shared→Prop}{s:Shared}
theorem Ch{α:Type}{c:Prop}[Decidable c]{a b:Sem α}{Q:α→Shared→Prop}{M:Model}(h:¬c)(k:wpAny M A b Q E s):wpAny M A (if c then a else b) Q E s:=by rw[if_neg h];exact k
theorem F7{α:Type}{c:Prop}[Decidable c]{a b:Sem α}{Q:α→Shared→Prop}{M:Model}(h:c)(k:wpAny M A a Q E s):wpAny M A (if c then a else b) Q E s:=by rw[if_pos h];exact k
theorem wp_choose{src:Source}{n:Nat}{Q:Nat→Shared→Prop}{M:Model}(hn:n≠0)(h:∀i d,i<n→Q i { s with drawn:=d }):wpAny M A (choose src n) Q E s:=fun Γ p hΓ=>by
 unfold choose
 rw[Sem.wp_choose]
 exact⟨hn,h _ _ (Nat.mod_lt _ (Nat.pos_of_ne_zero hn))⟩
theorem E8{α:Type}:∀(xs:List α) (i:Nat) (h:i<xs.length),(xs[i]::xs.eraseIdx i).Perm xs
 |[],i,h=>absurd h (by simp)
 |x::r,0,h=>List.Perm.refl _
 |x::r,i+1,h=>by
  have:=E8 r i (by simpa using h)
  exact(List.Perm.swap x _ _).trans (List.Perm.cons x this)
theorem Nz{α:Type}{M:Model}:∀(n:Nat) (xs:List α) (s:Shared) {Q:List α→Shared→Prop},xs.length=n→(∀ys d,ys.Perm xs→Q ys { s with drawn:=d })→wpAny M A (drawOrder n xs) Q E s
 |0,xs,s,Q,e,h=>by
  cases xs with
  |nil=>unfold drawOrder;exact wpAny_pure (h [] s.drawn (List.Perm.refl _))
  |cons x r=>simp at e
 |n+1,xs,s,Q,e,h=>by
  cases xs with
  |nil=>simp at e
  |cons x r=>
   unfold drawOrder
   refine wpAny_bind (wp_choose (by simp) fun i d hi=>?_)
   have hg:(x::r)[i]? = some ((x::r)[i]):=List.getElem?_eq_getElem hi
   rw[hg]
   dsimp only
   refine wpAny_bind (Nz n _ _ (by rw[List.length_eraseIdx_of_lt hi];simpa using e) fun ys d' hp=>wpAny_pure ?_)
   refine h _ _ (List.Perm.trans (List.Perm.cons _ hp) ?_)
   exact E8 _ _ hi
theorem N9{α:Type}(next:Nat→Nat):∀(n k:Nat) (left:List α) (out:Array α),left.length=n→(pickOrder.go next n k left out).toList.Perm (out.toList++left)
 |0,k,left,out,e=>by
  cases left with
  |nil=>rw[pickOrder.go];simp
  |cons x r=>simp at e
 |n+1,k,left,out,e=>by
  rw[pickOrder.go]
  have hi:next k % left.length<left.length:=Nat.mod_lt _ (by omega)
  rw[List.getElem?_eq_getElem hi]
  dsimp only
  refine(N9 next n (k+1) _ _ (by rw[List.length_eraseIdx_of_lt hi];omega)).trans ?_
  rw[Array.toList_push,List.append_assoc]
  exact List.Perm.append_left _ (E8 _ _ hi)
theorem Pq{α:Type}(next:Nat→Nat)(xs:Array α):(pickOrder next xs).toList.Perm xs.toList:=by
 have:=N9 next xs.size 0 xs.toList #[] (by simp)
 simpa[pickOrder] using this
abbrev Ec(first:Value)(i:Nat)(S:Addr)(n ep:Nat):Obj:={ cls:=.type "set_iterator",data:=.fields #[first,rawInt i,.ref S,rawInt n,rawInt ep] }
inductive Way (w:World) (S:Addr) (es:Array (Int×Value)) (ep:Nat) (t:SetTable):List (Int×Value)→(Nat→Nat→Prop)→Prop where
 |text (h:w.params.followText "set-order" = true):Way w S es ep t (pickOrder (w.params.setOrder S ep) es).toList (fun _ _=>True)
 |tab (h:¬w.params.followText "set-order" = true) (hd:¬(!t.plain&&decide (es.size>1))=true):Way w S es ep t es.toList (fun i slot=>SetTable.below t.place slot=i)
theorem Way.perm{S:Addr}{es:Array (Int×Value)}{ep:Nat}{t:SetTable}{items:List (Int×Value)}{F:Nat→Nat→Prop}(W:Way w S es ep t items F):items.Perm es.toList:=by
 cases W with
 |text h=>exact Pq _ _
 |tab h hd=>exact List.Perm.refl _
theorem Way.start{S:Addr}{es:Array (Int×Value)}{ep:Nat}{t:SetTable}{items:List (Int×Value)}{F:Nat→Nat→Prop}(W:Way w S es ep t items F)(h:SBase w es t):F 0 0:=by
 cases W with
 |text h=>trivial
 |tab h' hd=>exact Nk h.tok.ris
theorem Way.next{S:Addr}{es:Array (Int×Value)}{ep:Nat}{t:SetTable}{items:List (Int×Value)}{F:Nat→Nat→Prop}{i slot:Nat}{Q:Option (Value×Nat)→Shared→Prop}(W:Way w S es ep t items F)(h:SBase w es t)(ho:s.heap.get? S=some (Ah es ep t))(hF:F i slot)(more:∀e,items[i]? = some e→∀next,F (i+1) next→Q (some (e.2,next)) s)(last:items[i]? = none→Q none s):wpAny (model P w) A (setNext S slot i ep) Q E s:=by
 unfold setNext setsByText
 refine wpAny_bind (wpAny_setState_of ho rfl h.fit ?_);dsimp only
 refine wpAny_bind (wpAny_bind (wpAny_askSetting (wpAny_pure ?_)));dsimp only
 cases W with
 |text ht=>
  refine F7 ht (Ch (by simp) ?_)
  refine wpAny_bind ?_
  unfold setWalk setsByText
  refine wpAny_bind (wpAny_setState_of ho rfl h.fit ?_);dsimp only
  refine wpAny_bind (wpAny_bind (wpAny_askSetting (wpAny_pure ?_)));dsimp only
  refine F7 ht (wpAny_bind (wpAny_askSetting (wpAny_pure (wpAny_pure ?_))))
  show Q (Option.map (fun e=>(e.2,slot)) (pickOrder (w.params.setOrder S ep) es)[i]?) s
  rw[←Array.getElem?_toList]
  cases q:(pickOrder (w.params.setOrder S ep) es).toList[i]? with
  |none=>exact last q
  |some e=>exact more e q slot trivial
 |tab ht hd=>
  refine Ch ht (Ch hd ?_)
  have led:t.led=true:=h.tok.led.resolve_left ht
  refine wpAny_bind (m:=if (!t.led && !es.isEmpty)=true then unsupported "set:maker-not-led" else pure ()) (Ch (by simp[led]) (wpAny_pure (wpAny_pure ?_)))
  have hF':SetTable.below t.place slot=i:=hF
  rw[hF']
  have hps:t.place.size=es.size:=by
   have:=h.fit
   simp only[SetTable.fits,Bool.and_eq_true,beq_iff_eq] at this
   exact this.1
  by_cases hi:i<es.size
  ·have e1:es[i]? = some es[i]:=Array.getElem?_eq_getElem hi
   have e2:t.place[i]? = some (t.place.getD i 0):=by rw[getD_of,Array.getElem?_eq_getElem (by omega)];rfl
   rw[e1,e2]
   refine more es[i] (by rw[Array.getElem?_toList];exact e1) _ ?_
   exact Nl h.tok.ris (by omega)
  ·have e1:es[i]? = none:=Array.getElem?_eq_none (by omega)
   rw[e1]
   exact last (by rw[Array.getElem?_toList];exact e1)
theorem K1{I:Addr}{vs:Array Value}(hh:A.handled=none)(ho:s.heap.get? I=some { cls:=.type "set_iterator",data:=.fields vs })(hv:2<vs.size){Q:Fin→Shared→Prop}(hE:∀h' e,Heap.ExtBut I s.heap h'→(∃o,h'.get? e=some o∧o.cls=.type "StopIteration")→E (.ref e) { s with heap:=h' }):wpAny (model P w) A (do setField (.ref I) 2 .none;raiseNew (←newExc (.type "StopIteration") [])) Q E s:=by
 refine wpAny_bind (wpAny_setField ho rfl hv (show wpAny _ _ (newExc (.type "StopIteration") [] >>= _) _ _ _ from wpAny_bind ?_))
 simp only[newExc,newTuple];refine wpAny_bind (wpAny_newObj_type (wpAny_bind (m:=firstArgMember _ _) (wpAny_of_eq (a:=Value.none) (by first|rfl|(simp only[firstArgMember];rfl)) (wpAny_newObj_type ?_ (by size_fits)))) (by size_fits))
 simp only[raiseNew];refine wpAny_bind (wpAny_handled ?_);first|rw[show A.in1.handled=none from hh]|rw[hh]
 exact wpAny_bind (wpAny_pure (wpAny_throw (hE _ _ (((Heap.SameBut.update ..).extBut.push _).push _) ⟨_,Heap.get?_push_size _ rfl,rfl⟩)))
end
end D3
set_option maxRecDepth 100000
set_option maxHeartbeats 4000000
namespace D3
open PySem PySem.Spec
open PyProof.Rows hiding St
open L2 hiding St
section
variable{P:Program}{w:World}{A:Around}{E:Value→Shared→Prop}{s:Shared}
theorem N4{I S:Addr}{es:Array (Int×Value)}{ep:Nat}{t:SetTable}{items:List (Int×Value)}{F:Nat→Nat→Prop}{i slot:Nat}{Q:Option Value→Shared→Prop}(hh:A.handled=none)(W:Way w S es ep t items F)(h:SBase w es t)(hne:S≠I)(hI:s.heap.get? I=some (Ec (rawInt slot) i S es.size ep))(hS:s.heap.get? S=some (Ah es ep t))(hF:F i slot)(more:∀e,items[i]? = some e→∀next h',F (i+1) next→h'.get? I=some (Ec (rawInt next) (i+1) S es.size ep)→Heap.SameBut I s.heap h'→Q (some e.2) { s with heap:=h' })(last:items[i]? = none→∀h',Heap.ExtBut I s.heap h'→Q none { s with heap:=h' }):wpAny (model P w) A (pyNext (.ref I)) Q E s:=by
 have ty:s.TypeIs (.ref I) "set_iterator":=⟨_,hI,rfl⟩
 unfold pyNext;refine wpAny_bind (wpAny_attempt (wpAny_callSpecial?_slot (name:=Str.ofString "__next__") ty slot_si_next (wpAny_call_entry slot_si_next ty Dy ?_ (Ex _))))
 unfold Builtin.«set_iterator.__next__»
 show wpAny _ _ (fieldsOf (.ref I) >>= _) _ _ s;refine wpAny_bind (wpAny_fieldsOf hI rfl ?_)
 show wpAny _ _ (setEntries S >>= _) _ _ s;refine wpAny_bind (wpAny_setEntries_of hS rfl h.fit (Ch (by simp) ?_))
 show wpAny _ _ (setNext S (Int.toNat (slot:Nat)) (Int.toNat (i:Nat)) (Int.toNat (ep:Nat)) >>= _) _ _ s
 simp only[Int.toNat_natCast]
 refine wpAny_bind (W.next h hS hF (fun e he next hn=>?_) fun hz=>?_)
 ·dsimp only
  refine wpAny_bind (wpAny_setField_rec hI (by simp) fun h1 hI1 same1=>wpAny_bind (wpAny_setField_rec (s:={ s with heap:=h1 }) hI1 (by simp) fun h2 hI2 same2=>?_))
  exact wpAny_pure ⟨e.2,rfl,wpAny_pure (more e he next h2 hn hI2 (same1.trans same2))⟩
 ·dsimp only
  refine K1 (A:=A.in1) hh hI (by simp) fun h' x ext hx=>?_
  refine wpAny_bind (wpAny_isInstance (T:="StopIteration") (b:=true) hx isSubtype_stop (wpAny_pure (last hz h' ext)))
theorem K4{I S T:Addr}{es:Array (Int×Value)}{ep:Nat}{t:SetTable}{ord:List Nat}{i:Nat}{Q:Option Value→Shared→Prop}(hh:A.handled=none)(hord:ord.Perm (List.range es.size))(h:SBase w es t)(hI:s.heap.get? I=some (Ec (.ref T) i S es.size ep))(hS:s.heap.get? S=some (Ah es ep t))(hT:s.heap.get? T=some { cls:=.type "tuple",data:=.seq (ord.map fun(k:Nat)=>rawInt k).toArray })(more:∀k e,ord[i]? = some k→es[k]? = some e→∀h',h'.get? I=some (Ec (.ref T) (i+1) S es.size ep)→Heap.SameBut I s.heap h'→Q (some e.2) { s with heap:=h' })(last:ord[i]? = none→∀h',Heap.ExtBut I s.heap h'→Q none { s with heap:=h' }):wpAny (model P w) A (pyNext (.ref I)) Q E s:=by
 have ty:s.TypeIs (.ref I) "set_iterator":=⟨_,hI,rfl⟩
 unfold pyNext;refine wpAny_bind (wpAny_attempt (wpAny_callSpecial?_slot (name:=Str.ofString "__next__") ty slot_si_next (wpAny_call_entry slot_si_next ty Dy ?_ (Ex _))))
 unfold Builtin.«set_iterator.__next__»
 show wpAny _ _ (fieldsOf (.ref I) >>= _) _ _ s;refine wpAny_bind (wpAny_fieldsOf hI rfl ?_)
 show wpAny _ _ (setEntries S >>= _) _ _ s;refine wpAny_bind (wpAny_setEntries_of hS rfl h.fit (Ch (by simp) ?_))
 show wpAny _ _ (seqItems? (.ref T) >>= _) _ _ s;refine wpAny_bind (wpAny_seqItems hT rfl ?_)
 simp only[rawInt,Int.toNat_natCast]
 cases q:ord[i]? with
 |none=>
  have e0:(ord.map fun(k:Nat)=>(Value.int k 0)).toArray[i]? = none:=by simp[q]
  rw[e0];dsimp only
  refine wpAny_bind (wpAny_setField_rec hI (by simp) fun h1 hI1 same1=>?_)
  refine K1 (A:=A.in1) (s:={ s with heap:=h1 }) hh hI1 (by simp) fun h' x ext hx=>?_
  refine wpAny_bind (wpAny_isInstance (T:="StopIteration") (b:=true) hx isSubtype_stop (wpAny_pure (last q h' (same1.extBut.trans ext))))
 |some k=>
  have e0:(ord.map fun(k:Nat)=>(Value.int k 0)).toArray[i]? = some (.int k 0):=by simp[q]
  rw[e0];dsimp only
  have hk:k<es.size:=List.mem_range.mp (hord.mem_iff.mp (List.mem_of_getElem? q))
  refine wpAny_bind ?_
  unfold setNextDrawn
  refine wpAny_bind (wpAny_setState_of hS rfl h.fit ?_);dsimp only
  refine Ch (by simp) ?_
  have e1:es[k]? = some es[k]:=Array.getElem?_eq_getElem hk
  simp only[Int.toNat_natCast]
  rw[e1];refine wpAny_pure ?_
  refine wpAny_bind (wpAny_setField_rec hI (by simp) fun h1 hI1 same1=>?_)
  exact wpAny_pure ⟨es[k].2,rfl,wpAny_pure (more k es[k] q e1 h1 hI1 same1)⟩
theorem N3{I S:Addr}{first:Value}{i n ep:Nat}{Q:Value→Shared→Prop}(hI:s.heap.get? I=some (Ec first i S n ep))(h:Q (.ref I) s):wpAny (model P w) A (pyIter (.ref I)) Q E s:=by
 have ty:s.TypeIs (.ref I) "set_iterator":=⟨_,hI,rfl⟩
 refine wpAny_pyIter_slot ty Ew (wpAny_call_entry Ew ty Hn ?_ (Kl _))
 exact wpAny_pure ⟨_,rfl, "set_iterator",_,ty,slot_si_next.lookup,h⟩
theorem R9{I S:Addr}{es:Array (Int×Value)}{ep:Nat}{t:SetTable}{items:List (Int×Value)}{F:Nat→Nat→Prop}(hh:A.handled=none)(W:Way w S es ep t items F)(h:SBase w es t)(hne:S≠I) :
  Walks P w A I [I,S] [I] es.size (fun i v=>(items.map (·.2))[i]? = some v) (fun i g=>(∃slot,F i slot∧g.get? I=some (Ec (rawInt slot) i S es.size ep))∧g.get? S=some (Ah es ep t)) where
 sub:=fun b hb=>by simp at hb;simp[hb]
 frame:=fun i g g' ⟨⟨slot,hF,hI⟩,hS⟩ hk=>⟨⟨slot,hF,hk I (by simp) _ hI⟩,hk S (by simp) _ hS⟩
 item:=fun i s Q E hi ⟨⟨slot,hF,hI⟩,hS⟩ hQ=>by
  refine N4 hh W h hne hI hS hF (fun e he next h' hn hI' same=>?_) fun hz=>?_
  ·exact hQ e.2 h' s.toks (by rw[List.getElem?_map,he];rfl) ⟨⟨next,hn,hI'⟩,same.extBut _ _ hne hS⟩ fun b o hb e=>same.extBut b o (fun z=>hb (by simp[z])) e
  ·have:items.length=es.size:=by rw[W.perm.length_eq];simp
   rw[List.getElem?_eq_none_iff] at hz;omega
 done:=fun s Q E ⟨⟨slot,hF,hI⟩,hS⟩ hQ=>by
  have hl:items.length=es.size:=by rw[W.perm.length_eq];simp
  refine N4 hh W h hne hI hS hF (fun e he next h' hn hI' same=>?_) fun hz h' ext=>hQ h' s.toks fun b o hb e=>ext b o (fun z=>hb (by simp[z])) e
  rw[List.getElem?_eq_none (by omega)] at he;cases he
 self:=fun i s Q E ⟨⟨slot,hF,hI⟩,hS⟩ hQ=>N3 hI hQ
theorem O9{I S T:Addr}{es:Array (Int×Value)}{ep:Nat}{t:SetTable}{ord:List Nat}(hh:A.handled=none)(hord:ord.Perm (List.range es.size))(h:SBase w es t)(hne:S≠I)(hneT:T≠I) :
  Walks P w A I [I,S,T] [I] es.size (fun i v=>(ord.map fun k=>(es.toList.map (·.2)).getD k .none)[i]? = some v) (fun i g=>g.get? I=some (Ec (.ref T) i S es.size ep)∧g.get? S=some (Ah es ep t)∧g.get? T=some { cls:=.type "tuple",data:=.seq (ord.map fun(k:Nat)=>rawInt k).toArray }) where
 sub:=fun b hb=>by simp at hb;simp[hb]
 frame:=fun i g g' ⟨hI,hS,hT⟩ hk=>⟨hk I (by simp) _ hI,hk S (by simp) _ hS,hk T (by simp) _ hT⟩
 item:=fun i s Q E hi ⟨hI,hS,hT⟩ hQ=>by
  refine K4 hh hord h hI hS hT (fun k e hk he h' hI' same=>?_) fun hz=>?_
  ·refine hQ e.2 h' s.toks ?_ ⟨hI',same.extBut _ _ hne hS,same.extBut _ _ hneT hT⟩ fun b o hb e=>same.extBut b o (fun z=>hb (by simp[z])) e
   rw[List.getElem?_map,hk]
   simp[he]
  ·have:ord.length=es.size:=by rw[hord.length_eq];simp
   rw[List.getElem?_eq_none_iff] at hz;omega
 done:=fun s Q E ⟨hI,hS,hT⟩ hQ=>by
  have hl:ord.length=es.size:=by rw[hord.length_eq];simp
  refine K4 hh hord h hI hS hT (fun k e hk he h' hI' same=>?_) fun hz h' ext=>hQ h' s.toks fun b o hb e=>ext b o (fun z=>hb (by simp[z])) e
  rw[List.getElem?_eq_none (by omega)] at hk;cases hk
 self:=fun i s Q E ⟨hI,hS,hT⟩ hQ=>N3 hI hQ
end
end D3
set_option maxRecDepth 100000
set_option maxHeartbeats 4000000
namespace D3
open PySem PySem.Spec
open PyProof.Rows hiding St
open L2 hiding St
theorem Zh:typeLookup (.type "set") "__len__" = pure (some (.builtin "set.__len__")):=by rw[typeLookup_type,builtinLookup_eq_fast];kernel_rfl
section
variable{P:Program}{w:World}{A:Around}{E:Value→Shared→Prop}{s:Shared}
theorem Th{S:Addr}{es:Array (Int×Value)}{ep:Nat}{t:SetTable}{Q:Value→Shared→Prop}(hh:A.handled=none)(h:SBase w es t)(hS:s.heap.get? S=some (Ah es ep t))(hQ:∀(I:Addr) (g:Heap) d (fp:List Addr) (vs:List Value) (St:Nat→Heap→Prop),vs.Perm (es.toList.map (·.2))→Walks P w A I fp [I] es.size (fun i v=>vs[i]? = some v) St→St 0 g→(∀b∈fp,b<g.objs.size∧(b=S∨s.heap.objs.size≤b))→I∈fp→s.heap.objs.size≤I→
   (∀b o,s.heap.get? b=some o→g.get? b=some o)→(∀(i:Nat) (s':Shared),St i s'.heap→s'.TypeIs (.ref I) "set_iterator")→Q (.ref I) { s with heap:=g,drawn:=d }) :
  wpAny (model P w) A (pyIter (.ref S)) Q E s:=by
 have ty:s.TypeIs (.ref S) "set":=⟨_,hS,rfl⟩
 have hlt:S<s.heap.objs.size:=Heap.lt_size hS
 refine wpAny_pyIter_slot ty PySem.F.slot_set_iter (wpAny_call_entry PySem.F.slot_set_iter ty Kd ?_ (PySem.F.args_set_iter_1 _))
 unfold Builtin.«frozenset.__iter__»
 show wpAny _ _ (Builtin.Frozenset.sizeOf S >>= _) _ _ s
 refine wpAny_bind ?_
 unfold Builtin.Frozenset.sizeOf
 refine wpAny_bind (wpAny_setEntries_of hS rfl h.fit (wpAny_pure ?_))
 refine wpAny_bind ?_
 unfold setDrawn setsByText
 refine wpAny_bind (wpAny_setState_of hS rfl h.fit ?_);dsimp only
 refine wpAny_bind (wpAny_bind (wpAny_askSetting (wpAny_pure (wpAny_pure ?_))));dsimp only
 have plain:∀{items:List (Int×Value)} {F:Nat→Nat→Prop},Way w S es ep t items F→wpAny (model P w) A.in1 (pure (rawInt 0)) (fun a s'=>wpAny (model P w) A.in1 (do
   ret (←newFields "set_iterator" [a,rawInt 0,.ref S,rawInt es.size,rawInt (←setEpoch S)])) (fun fin s'=>∃v,fin=Fin.done (Flow.ret v)∧∃T' r,s'.TypeIs v T'∧typeLookup (.type T') "__next__" = pure (some r)∧Q v s') E s') E s:=fun W=>by
  refine wpAny_pure (wpAny_bind (wpAny_setEpoch_of hS rfl h.fit (wpAny_bind ?_)))
  unfold newFields
  refine wpAny_newObj_type (wpAny_pure ⟨_,rfl, "set_iterator",_,⟨_,Heap.get?_push_size _ rfl,rfl⟩,slot_si_next.lookup,?_⟩) (by size_fits)
  have hne:S≠s.heap.objs.size:=Nat.ne_of_lt hlt
  have e:({ s with heap:=s.heap.push (Ec (rawInt 0) 0 S es.size ep) }:Shared)={ s with heap:=s.heap.push (Ec (rawInt 0) 0 S es.size ep),drawn:=s.drawn }:=rfl
  refine(e ▸ hQ s.heap.objs.size _ s.drawn [s.heap.objs.size,S] _ _ (W.perm.map _) (R9 hh W h hne) ⟨⟨0,W.start h,Heap.get?_push_size _ rfl⟩,Heap.get?_push_of_some _ hS⟩ (fun b hb=>?_) (by simp) (Nat.le_refl _) (fun b o e=>Heap.get?_push_of_some _ e) (fun i s' ⟨⟨slot,_,hI⟩,_⟩=>⟨_,hI,rfl⟩))
  rw[Heap.size_push]
  simp only[List.mem_cons,List.not_mem_nil,or_false] at hb
  rcases hb with rfl|rfl
  ·exact⟨Nat.lt_succ_self _,.inr (Nat.le_refl _)⟩
  ·exact⟨Nat.lt_succ_of_lt hlt,.inl rfl⟩
 by_cases hbt:w.params.followText "set-order" = true
 ·refine Ch (c:=(!w.params.followText "set-order" && _)=true) (by rw[hbt];simp) ?_
  exact wpAny_bind (plain (.text hbt))
 ·by_cases hd:(!t.plain&&decide (es.size>1))=true
  ·refine F7 (c:=(!w.params.followText "set-order" && _)=true) (by
    rw[Bool.and_eq_true]
    exact⟨by simpa using hbt,hd⟩) ?_
   refine wpAny_bind (Nz es.size (List.range es.size) s (by simp) fun ord d hp=>wpAny_bind ?_)
   unfold newTuple
   have hlen:ord.length=es.size:=by rw[hp.length_eq];simp
   have hz:es.size≤sizeLine:=fits_of_scanBound h.sz
   refine wpAny_newObj_type ?_ (by show sizeOk (.seq (ord.map fun(k:Nat)=>rawInt k).toArray);show(ord.map fun(k:Nat)=>rawInt k).toArray.size≤sizeLine;simp;omega)
   generalize hg1:s.heap.push { cls:=.type "tuple",data:=.seq (ord.map fun(k:Nat)=>rawInt k).toArray }=g1
   have hsz:g1.objs.size=s.heap.objs.size+1:=by rw[←hg1,Heap.size_push]
   have hS1:g1.get? S=some (Ah es ep t):=by rw[←hg1];exact Heap.get?_push_of_some _ hS
   have hT1:g1.get? s.heap.objs.size=some { cls:=.type "tuple",data:=.seq (ord.map fun(k:Nat)=>rawInt k).toArray }:=by rw[←hg1];exact Heap.get?_push_size _ rfl
   refine wpAny_bind (wpAny_setEpoch_of (s:={ s with heap:=g1,drawn:=d }) hS1 rfl h.fit (wpAny_bind ?_))
   unfold newFields
   refine wpAny_newObj_type (wpAny_pure ⟨_,rfl, "set_iterator",_,⟨_,Heap.get?_push_size _ rfl,rfl⟩,slot_si_next.lookup,?_⟩) (by size_fits)
   have hne:S≠g1.objs.size:=by rw[hsz];exact Nat.ne_of_lt (Nat.lt_succ_of_lt hlt)
   have hneT:s.heap.objs.size≠g1.objs.size:=by rw[hsz];exact Nat.ne_of_lt (Nat.lt_succ_self _)
   refine hQ g1.objs.size _ d [g1.objs.size,S,s.heap.objs.size] _ _ ?_ (O9 hh hp h hne hneT) ⟨Heap.get?_push_size _ rfl,Heap.get?_push_of_some _ hS1,Heap.get?_push_of_some _ hT1⟩ (fun b hb=>?_) (by simp) (by rw[hsz];exact Nat.le_succ _) (fun b o e=>?_) (fun i s' ⟨hI,_⟩=>⟨_,hI,rfl⟩)
   ·have:(List.range es.size).map (fun k=>(es.toList.map (·.2)).getD k .none)=es.toList.map (·.2):=by
     apply List.ext_getElem?
     intro i
     rw[List.getElem?_map]
     by_cases hi:i<es.size
     ·rw[List.getElem?_range hi]
      have:i<(es.toList.map (·.2)).length:=by simpa using hi
      show some ((es.toList.map (·.2)).getD i .none)=_
      rw[List.getD,List.getElem?_eq_getElem this];rfl
     ·rw[List.getElem?_eq_none (by simpa using hi),List.getElem?_eq_none (by simpa using hi)];rfl
    exact(hp.map _).trans (List.Perm.of_eq this)
   ·rw[Heap.size_push,hsz]
    simp only[List.mem_cons,List.not_mem_nil,or_false] at hb
    rcases hb with rfl|rfl|rfl
    ·rw[hsz];exact⟨Nat.lt_succ_self _,.inr (Nat.le_succ _)⟩
    ·exact⟨Nat.lt_succ_of_lt (Nat.lt_succ_of_lt hlt),.inl rfl⟩
    ·exact⟨Nat.lt_succ_of_lt (Nat.lt_succ_self _),.inr (Nat.le_refl _)⟩
   ·rw[←hg1];exact Heap.get?_push_of_some _ (Heap.get?_push_of_some _ e)
  ·refine Ch (c:=(!w.params.followText "set-order" && _)=true) (fun z=>hd (by rw[Bool.and_eq_true] at z;exact z.2)) ?_
   exact wpAny_bind (plain (.tab hbt hd))
end
end D3
set_option maxRecDepth 100000
set_option maxHeartbeats 1000000
namespace D3
open PySem PySem.Spec
open PyProof.Rows hiding St
open L2 hiding St
section
variable{P:Program}{w:World}{A:Around}{E:Value→Shared→Prop}{s:Shared}
theorem Tq{S:Addr}{Q:Bool→Shared→Prop}(tyS:s.TypeIs (.ref S) "set")(h:Q false s):wpAny (model P w) A (Builtin.List.listLengthHint (.ref S)) Q E s:=by
 unfold Builtin.List.listLengthHint
 refine wpAny_bind (wpAny_specialOf tyS Zh ?_)
 (generalize hid:("set.__len__" : String)=id0;(fail_if_success (clear hid id0));wp_delta;rw[show splitId id0=some ("set", "__len__") from by subst hid;decide +kernel];subst hid)
 refine wpAny_bind (wpAny_isInstance (b:=true) tyS sub_set_self ?_)
 refine Ch (by decide) ?_
 refine F7 (by decide +kernel) ?_
 exact wpAny_bind (wpAny_typeOf tyS (wpAny_pure h))
end
end D3
set_option maxRecDepth 100000
set_option maxHeartbeats 4000000
namespace D3
open PySem PySem.Spec
open PyProof.Rows hiding St
open L2 hiding St
section
variable{P:Program}{w:World}{A:Around}{E:Value→Shared→Prop}{s:Shared}
theorem L9{S:Addr}{es:Array (Int×Value)}{ep:Nat}{t:SetTable}{Q:List Value→Shared→Prop}(hh:A.handled=none)(h:SBase w es t)(hS:s.heap.get? S=some (Ah es ep t))(hQ:∀(vs:List Value) (s':Shared),vs.Perm (es.toList.map (·.2))→s'.gens=s.gens→s'.os=s.os→s.toks≤s'.toks→(∀b o,s.heap.get? b=some o→s'.heap.get? b=some o)→Q vs s') :
  wpAny (model P w) A (collect (.ref S)) Q E s:=by
 have hlt:S<s.heap.objs.size:=Heap.lt_size hS
 have hz:es.size≤sizeLine:=fits_of_scanBound h.sz
 unfold collect
 refine wpAny_bind (wpAny_runValue (codeAny_builtin PySem.F.entry_proto_collect ?_));rw[Around.under_plainId PySem.F.plain_proto_collect _]
 show wpAny _ A.in1 (newList [] >>= fun l=>again (.builtin "list.__iadd__" ⟨[l,.ref S],[]⟩)) _ _ s;refine wpAny_bind (wpAny_newObj_type ?_)
 refine wpAny_pure ⟨plainId_quiet PySem.F.plain_list_iadd _,codeAny_builtin PySem.F.entry_list_iadd ?_⟩;rw[Around.under_plainId PySem.F.plain_list_iadd _]
 have hS1:(s.heap.push { cls:=.type "list",data:=.seq ([]:List Value).toArray }).get? S=some (Ah es ep t):=Heap.get?_push_of_some _ hS
 have hL1:(s.heap.push { cls:=.type "list",data:=.seq ([]:List Value).toArray }).get? s.heap.objs.size=some { cls:=.type "list",data:=.seq ([]:List Value).toArray }:=Heap.get?_push_size _ rfl
 have keep1:∀b o,s.heap.get? b=some o→(s.heap.push { cls:=.type "list",data:=.seq ([]:List Value).toArray }).get? b=some o:=fun b o e=>Heap.get?_push_of_some _ e
 have hsz1:(s.heap.push { cls:=.type "list",data:=.seq ([]:List Value).toArray }).objs.size=s.heap.objs.size+1:=by rw[Heap.size_push]
 generalize s.heap.push { cls:=.type "list",data:=.seq ([]:List Value).toArray }=g1 at *
 show wpAny _ A.in1 (Builtin.List.listExtendWith (.ref s.heap.objs.size) (.ref S) (.ref s.heap.objs.size)) _ _ { s with heap:=g1 }
 unfold Builtin.List.listExtendWith
 refine wpAny_bind (wpAny_typeOf (s:={ s with heap:=g1 }) (T:="set") ⟨_,hS1,rfl⟩ ?_)
 refine Ch (by
  have e1:Builtin.List.listSameRef (.ref s.heap.objs.size) (.ref S)=false:=by simp[Builtin.List.listSameRef,Nat.ne_of_gt hlt]
  rw[e1];decide) ?_
 refine wpAny_bind (Th (A:=A.in1) (s:={ s with heap:=g1 }) hh h hS1 fun I g d fp vs St hvs W hst hfp hI hIn keep2 hty=>?_)
 have hLf:s.heap.objs.size ∉ fp:=fun z=>by
  rcases(hfp _ z).2 with e|e
  ·exact Nat.ne_of_gt hlt e
  ·rw[show({ s with heap:=g1 }:Shared).heap.objs.size=s.heap.objs.size+1 from hsz1] at e;exact Nat.not_succ_le_self _ e
 have tyS:Shared.TypeIs { s with heap:=g,drawn:=d } (.ref S) "set":=⟨_,keep2 _ _ hS1,rfl⟩
 refine wpAny_bind (wpAny_holding (Tq tyS ?_))
 refine F7 (by decide +kernel) (wpAny_bind (wpAny_rule (wpAny_bind ?_)))
 have hL2:=keep2 _ _ hL1
 show wpAny _ A.in1 (updateSeq s.heap.objs.size (·.push .none) >>= fun _=>updateSeq s.heap.objs.size (·.pop)) _ _ { s with heap:=g,drawn:=d }
 refine wpAny_bind (wpAny_updateSeq hL2 rfl ?_)
 have hL3:=Heap.get?_update_self (Obj.mapSeq (·.push Value.none)) hL2 rfl;refine wpAny_updateSeq hL3 rfl ?_
 have hL4:=Heap.get?_update_self (Obj.mapSeq (·.pop)) hL3 rfl
 have oth:∀b o,b≠s.heap.objs.size→g.get? b=some o→((g.update s.heap.objs.size (Obj.mapSeq (·.push Value.none))).update s.heap.objs.size (Obj.mapSeq (·.pop))).get? b=some o:=fun b o hb e=>(Heap.get?_update_other _ _ (Ne.symm hb)).trans ((Heap.get?_update_other _ _ (Ne.symm hb)).trans e)
 generalize (g.update s.heap.objs.size (Obj.mapSeq (·.push Value.none))).update s.heap.objs.size (Obj.mapSeq (·.pop))=g2 at *
 have Wt:=W.toS
 refine wpAny_pure ⟨plainId_quiet PySem.F.plain_extend_loop _,codeAny_extend_loopS Wt hz _ hLf _ es.size 0 { s with heap:=g2,drawn:=d } _ _ rfl (Nat.zero_le _) (W.frame 0 g g2 hst fun b hb o e=>oth b o (fun z=>hLf (z ▸ hb)) e) hL4 (ItemsOf.nil _) fun s' acc' c' hm hS' hacc=>?_⟩
 show wpAny _ A (load s.heap.objs.size >>= _) _ _ s';refine wpAny_bind (wpAny_load hS' (wpAny_pure ?_))
 have eacc:acc'.toList=vs:=by
  have hvl:vs.length=es.size:=by rw[hvs.length_eq];simp
  apply List.ext_getElem?
  intro i
  by_cases hi:i<acc'.size
  ·have:=hacc.2 i acc'[i] (by simp[hi])
   rw[this];simp[hi]
  ·rw[List.getElem?_eq_none (by simpa using hi),List.getElem?_eq_none (by have:=hacc.1;omega)]
 rw[eacc]
 refine hQ vs s' hvs hm.gens hm.os hm.toks fun b o e=>?_
 have hb:b<s.heap.objs.size:=Heap.lt_size e
 refine hm.heap b o ?_ (oth b o (Nat.ne_of_lt hb) (keep2 b o (keep1 b o e)))
 simp only[List.mem_cons,List.not_mem_nil,or_false,not_or]
 refine⟨Nat.ne_of_lt hb,fun z=>?_⟩
 have:g1.objs.size≤I:=hIn
 rw[hsz1,←z] at this
 exact Nat.lt_irrefl _ (Nat.lt_of_lt_of_le (Nat.lt_succ_of_lt hb) this)
end
end D3
set_option maxRecDepth 100000
set_option maxHeartbeats 200000
namespace D3
open PySem PySem.Spec
open PyProof.Rows hiding St
open L2 hiding St
section
variable{P:Program}{w:World}{A:Around}{E:Value→Shared→Prop}{s:Shared}
end
end D3
set_option maxRecDepth 100000
set_option maxHeartbeats 1000000
namespace D3
open PySem PySem.Spec
open PyProof.Rows hiding St
open L2 hiding St
section
variable{X:Cx}{e:Expr}{te:DTE}{pos:Pos}
theorem Qa{pins:List (Addr×Obj)}{σ:St}{H:Hp}{s:Shared}{d:Drawn}(I:Inv X pins σ H s):Inv X pins σ H { s with drawn:=d }:=⟨I.ok,I.os,I.bare,I.base,I.loc,I.cell,I.free,I.freeC,I.pin,I.hok,I.len⟩
theorem vals_ints:∀{ns:List Int} {its:List Value},IntsAre its ns→Vals (ns.map V.int) its
 |_,_,.nil=>.nil
 |_,_,.cons n t h=>.cons ⟨t,rfl⟩ (vals_ints h)
abbrev Mm(l:Addr)(es:Array (Int×Value))(ep:Nat)(t:SetTable):HO:=.ext fun h=>h.get? l=some (Ah es ep t)
end
end D3
set_option maxRecDepth 100000
set_option maxHeartbeats 1000000
namespace D3
open PySem PySem.Spec
open PyProof.Rows hiding St
open L2 hiding St
section
variable{P:Program}{w:World}{A:Around}{R:Result→Shared→Prop}
end
section
variable{X:Cx}
end
end D3
namespace D3
open PySem PySem.Spec
open PyProof.Rows hiding St
open L2 hiding St
section
variable{X:Cx}{a:Expr}{ta:DTE}{pos:Pos}
end
end D3
namespace D3
open PySem PySem.Spec
open PyProof.Rows hiding St
open L2 hiding St
structure FnIs(K:PySem.W.Frag)(x:Str)(st:Stmt):Prop where
 ex:∃f fd,Fun K x x st f fd∧PySem.W.nsIn K mainGlobals x=some (some (.ref f))∧PySem.W.keepIn K (.ref f)=true
theorem Al{K:W.Frag}{x:Str}{st:Stmt}{f:Addr}{od an:Option Addr}{sl:Array (Option Value)}{oc kV dc pm cd ct:Value}(a:PySem.W.nsIn K mainGlobals x=some (some (.ref f)))(l:K.lookup f=some ⟨oc,od,.func (PySem.W.fnOf x x (Ei st) (C7 st) (Ag st) .none kV dc pm an cd ct),sl⟩)(c:PySem.W.codeIn K cd x=true)(k:PySem.W.keepIn K (.ref f)=true):FnIs K x st:=
 ⟨f,_,Yo l c k,a,k⟩
theorem Az{P:Program}{w:World}{K:W.Frag}{h:Heap}{mg:Str→Option Value}{base:Heap}{x:Str}{st:Stmt}{k:Nat}{ps:List Str}{sp:DSp}(I:FnIs K x st)(X:K.In h)(G:h.Ns mainGlobals mg)(hb:∀f fd,Fun K x x st f fd→Binds K fd ps [])(ok:∀f fd,Fun K x x st f fd→FnOk P w K mg base CX0 k f fd ps (Ak K sp)):Def P w K mg base CX0 k x ps sp:=by
 obtain⟨f,fd,F,a,kp⟩:=I.ex
 exact⟨f,fd,ok f fd F,PySem.W.mg_of X G a,kp,hb f fd F⟩
def Nu:DSp:=fun ds G Q _=>∃ns:List Int,ds=[.lint ns]∧ns.length≤63∧∀G',Q (.bl true) G'
theorem Ye(K:PySem.W.Frag)(H:Hp)(a:Addr)(ns:List Int)(hl:ns.length≤63)(hO:Q1 H)(hS:SqL K H a (ns.map V.int)):Ak K Nu [.ref a] H (fun v _=>v=.bl true) fun _ _ _=>False:=by
 have rd:RdI K H a (ns.map V.int):=by
  rcases hS with (h|h)|h
  ·rcases hO a with z|⟨o,xs,z⟩
   ·rw[h] at z;cases z
   ·rw[h] at z;cases z
  ·exact .inl h
  ·exact .inr h
 refine⟨[.lint ns],fun _=>none,fun d _=>d=.bl true,fun _ _=>False,.cons (.lint rd) .nil,(fun b o e=>by cases e),⟨ns,rfl,hl,fun _=>rfl⟩,fun d G' e H' _ _ v dv=>?_,fun c G' (e:False)=>e.elim⟩
 have e:d=.bl true:=e
 subst e
 cases dv
 rfl
end D3
namespace D3
open PySem PySem.Spec
open PyProof.Rows hiding St
open L2 hiding St
section
variable{X:Cx}{o e:Expr}{to te:DTE}{pos pos':Pos}{f:Str}{C:Addr}
theorem Sy{α β:Type}{R:α→β→Prop}{xs:List α}{ys:List β}(h:Paired R xs ys):xs.length=ys.length:=by
 induction h with
 |nil=>rfl
 |cons _ _ ih=>exact congrArg (· + 1) ih
end
end D3
set_option maxHeartbeats 1000000
namespace D3
open PySem PySem.Spec
open PyProof.Rows hiding St
open L2 hiding St
section
variable{X:Cx}{pins:List (Addr×Obj)}{σ:St}{H:Hp}{s:Shared}{A:Around}{E:Value→Shared→Prop}
end
end D3
set_option maxHeartbeats 1000000
namespace D3
open PySem PySem.Spec
open PyProof.Rows hiding St
open L2 hiding St
end D3
set_option maxHeartbeats 1000000
namespace D3
open PySem PySem.Spec
open PyProof.Rows hiding St
open L2 hiding St
section
variable{κ:Type}[DecidableEq κ]
def E1(kvs:List (κ×D))(k:κ):Option D:=(kvs.find? fun kv=>decide (kv.1=k)).map (·.2)
def Qw(kvs:List (κ×D))(k:κ)(d:D):List (κ×D):=if (kvs.any fun kv=>decide (kv.1=k))=true then kvs.map (fun kv=>if kv.1=k then (kv.1,d) else kv) else kvs++[(k,d)]
abbrev Ent(κ:Type)(K:PySem.W.Frag)(H:Hp):κ×D→κ×V→Prop:=fun p q=>p.1=q.1∧DV K H p.2 q.2
variable{K:W.Frag}{H:Hp}
theorem Oo{k:κ}:∀{kvs:List (κ×D)} {ks:List (κ×V)},Paired (Ent κ K H) kvs ks→(E1 kvs k=none∧Cs ks k=none)∨∃d v,E1 kvs k=some d∧Cs ks k=some v∧DV K H d v
 |_,_,.nil=>.inl ⟨rfl,rfl⟩
 |(a,x)::r,_,.cons (b:=(b,y)) h t=>by
  obtain⟨e,hv⟩:=h
  cases(show a=b from e)
  by_cases ha:a=k
  ·exact .inr ⟨x,y,by simp[E1,ha],by simp[Cs,ha],hv⟩
  ·have e1:E1 ((a,x)::r) k=E1 r k:=by simp[E1,List.find?_cons,ha]
   have e2:∀z,Cs ((a,y)::z) k=Cs z k:=fun z=>by simp[Cs,List.find?_cons,ha]
   rw[e1,e2]
   exact Oo t
theorem Oq{k:κ}:∀{kvs:List (κ×D)} {ks:List (κ×V)},Paired (Ent κ K H) kvs ks→(kvs.any fun kv=>decide (kv.1=k))=(ks.any fun kv=>decide (kv.1=k))
 |_,_,.nil=>rfl
 |(a,x)::r,_,.cons (b:=(b,y)) h t=>by
  cases(show a=b from h.1)
  rw[List.any_cons,List.any_cons,Oq t]
theorem Op{k:κ}{d:D}{v:V}(hd:DV K H d v):∀{kvs:List (κ×D)} {ks:List (κ×V)},Paired (Ent κ K H) kvs ks→Paired (Ent κ K H) (kvs.map (fun kv=>if kv.1=k then (kv.1,d) else kv)) (ks.map (fun kv=>if kv.1=k then (kv.1,v) else kv))
 |_,_,.nil=>.nil
 |(a,x)::r,_,.cons (b:=(b,y)) h t=>by
  obtain⟨e,hv⟩:=h
  cases(show a=b from e)
  rw[List.map_cons,List.map_cons]
  refine .cons ?_ (Op hd t)
  show Ent κ K H (if a=k then (a,d) else (a,x)) (if a=k then (a,v) else (a,y))
  by_cases ha:a=k
  ·rw[if_pos ha,if_pos ha];exact⟨rfl,hd⟩
  ·rw[if_neg ha,if_neg ha];exact⟨rfl,hv⟩
theorem Ll{p:κ×D}{q:κ×V}(h:Ent κ K H p q):∀{kvs:List (κ×D)} {ks:List (κ×V)},Paired (Ent κ K H) kvs ks→Paired (Ent κ K H) (kvs++[p]) (ks++[q])
 |_,_,.nil=>.cons h .nil
 |_::_,_,.cons h' t=>.cons h' (Ll h t)
theorem Vk{k:κ}{d:D}{v:V}(hd:DV K H d v){kvs:List (κ×D)}{ks:List (κ×V)}(r:Paired (Ent κ K H) kvs ks):Paired (Ent κ K H) (Qw kvs k d) (Db ks k v):=by
 unfold Qw Db
 rw[Oq r]
 split
 ·exact Op hd r
 ·exact Ll ⟨rfl,hd⟩ r
theorem Vl{kvs:List (κ×D)}{ks:List (κ×V)}(r:Paired (Ent κ K H) kvs ks):kvs.length=ks.length:=Sy r
end
def Wq:D→Option Key
 |.int i=>some (.inl i)
 |.str x=>some (.inr x)
 |_=>none
theorem Vf{K:W.Frag}{H:Hp}{d:D}{v:V}{k:Key}(e:Wq d=some k)(dv:DV K H d v):v=kV k:=by
 cases d<;>simp only[Wq,Option.some.injEq,reduceCtorEq] at e
 ·subst e;cases dv;rfl
 ·subst e;cases dv;rfl

section
variable{X:Cx}{kx vx iter tg:Expr}{ifs:List Expr}{scope:Scope}{pos:Pos}{ti tk tv:DTE}{tf:DTT}{g:DTG}{T M:List Str}
end
end D3
set_option maxHeartbeats 1000000
namespace D3
open PySem PySem.Spec
open PyProof.Rows hiding St
open L2 hiding St
def Z1(P:Program)(w:World)(K:PySem.W.Frag)(a:Addr)(kvs:List (Key×V)):Prop:=(a == sysModules)=false∧∃o vs,K.lookup a=some o∧KV kvs vs∧o.IsDictOf (A0 P w) vs
def DRd(P:Program)(w:World)(h:Heap)(a:Addr)(kvs:List (Key×V)):Prop:=(a == sysModules)=false∧∃vs,KV kvs vs∧h.DictOf (A0 P w) a vs
def RdK(P:Program)(w:World)(K:PySem.W.Frag)(H:Hp)(a:Addr)(kvs:List (Key×V)):Prop:=H a=some (.dK kvs)∨Z1 P w K a kvs
section
variable{X:Cx}{pins:List (Addr×Obj)}{σ:St}{H:Hp}{s:Shared}{a:Addr}{k:Key}{v:V}{kvs:List (Key×V)}{u:Value}{A:Around}{E:Value→Shared→Prop}
theorem RdK.rd(h:RdK X.prog X.w X.K H a kvs)(I:Inv X pins σ H s):DRd X.prog X.w s.heap a kvs:=by
 rcases h with h|⟨h1,o,vs,h2,h3,h4⟩
 ·obtain⟨_,hd,vs,rel,dd⟩:=Wg I.hok h
  exact⟨hd,vs,rel,dd⟩
 ·exact⟨h1,vs,h3,Heap.dictOf_iff.mpr ⟨o,I.kIn _ _ h2,h4⟩⟩
end
section
variable{X:Cx}
end
section
variable{X:Cx}{e i o:Expr}{te ti td:DTE}{pos pos':Pos}{a:Addr}{kvs:List (Key×D)}
theorem isSome_eq{κ:Type}[DecidableEq κ]{K:W.Frag}{H:Hp}{k:κ}{kvs:List (κ×D)}{ks:List (κ×V)}(r:Paired (Ent κ K H) kvs ks):(Cs ks k).isSome=(E1 kvs k).isSome:=by
 rcases Oo (k:=k) r with ⟨e1,e2⟩|⟨d,v,e1,e2,_⟩
 ·rw[e1,e2];rfl
 ·rw[e1,e2];rfl
end
end D3
set_option maxRecDepth 100000
set_option maxHeartbeats 1000000
namespace D3
open PySem PySem.Spec
open PyProof.Rows hiding St
open L2 hiding St
section
variable{X:Cx}{pins:List (Addr×Obj)}{σ:List (Option V)}{H:Hp}{s:Shared}{h':Heap}
end
end D3
set_option maxHeartbeats 1000000
namespace D3
open PySem PySem.Spec
open PyProof.Rows hiding St
open L2 hiding St
section
variable{X:Cx}
theorem Ext.tbl{H:Hp}{p:Addr}{ps:Array Value}{u:HO}(e:H p=some (.tbl ps)):Ext H (upd H p u):=Ext.write e (fun xs z=>by cases z) (fun ob w z=>by cases z)
end
end D3
set_option maxHeartbeats 1000000
namespace D3
open PySem PySem.Spec
open PyProof.Rows hiding St
open L2 hiding St
end D3
namespace D3
open PySem PySem.Spec
open PyProof.Rows hiding St
open L2 hiding St
end D3
set_option maxRecDepth 100000
set_option maxHeartbeats 1000000
namespace D3
open PySem PySem.Spec
open PyProof.Rows hiding St
open L2 hiding St
section
variable{P:Program}{w:World}{A:Around}{E:Value→Shared→Prop}{s:Shared}
end
end D3
set_option maxRecDepth 100000
set_option maxHeartbeats 1000000
namespace D3
open PySem PySem.Spec
open PyProof.Rows hiding St
open L2 hiding St
open PySem.W (KdlSrc kdl_extend kdl_values)
section
variable{P:Program}{w:World}{A:Around}{E:Value→Shared→Prop}{s:Shared}
end
end D3
set_option maxRecDepth 100000
set_option maxHeartbeats 1000000
namespace D3
open PySem PySem.Spec
open PyProof.Rows hiding St
open L2 hiding St
open PySem.W (KdlSrc kdl_extend kdl_values)
section
variable{X:Cx}{o e:Expr}{to:TE}{apos cpos pos p:Pos}
end
end D3
set_option maxRecDepth 100000
set_option maxHeartbeats 1000000
namespace D3
open PySem PySem.Spec
open PyProof.Rows hiding St
open L2 hiding St
section
variable{X:Cx}{o:Expr}{to:DTE}{apos cpos pos p:Pos}
end
end D3
set_option maxRecDepth 100000
set_option maxHeartbeats 1000000
namespace D3
open PySem PySem.Spec
open PyProof.Rows hiding St
open L2 hiding St
section
variable{X:Cx}{pins:List (Addr×Obj)}{σ:List (Option V)}{H:Hp}{s:Shared}
end
section
variable{X:Cx}{elt o tg:Expr}{ifs:List Expr}{scope:Scope}{pos apos cpos:Pos}{to:DTE}{T M:List Str}
end
end D3
set_option maxRecDepth 100000
set_option maxHeartbeats 1000000
namespace D3
open PySem PySem.Spec
open PyProof.Rows hiding St
open L2 hiding St
section
variable{X:Cx}
end
end D3
set_option maxRecDepth 100000
set_option maxHeartbeats 1000000
namespace D3
open PySem PySem.Spec
open PyProof.Rows hiding St
open L2 hiding St
section
variable{P:Program}{w:World}{A:Around}{E:Value→Shared→Prop}{s:Shared}
end
section
variable{X:Cx}
end
end D3
namespace D3
open PySem PySem.Spec
open PyProof.Rows hiding St
open L2 hiding St
end D3
set_option maxRecDepth 100000
set_option maxHeartbeats 1000000
namespace D3
open PySem PySem.Spec
open PyProof.Rows hiding St
open L2 hiding St
end D3
set_option maxRecDepth 100000
set_option maxHeartbeats 1000000
namespace D3
open PySem PySem.Spec
open PyProof.Rows hiding St
open L2 hiding St
section
variable{X:Cx}{a b:Expr}{ta:TA}{tA:DTA}{p p0 pos pos0:Pos}
end
end D3
set_option maxRecDepth 100000
set_option maxHeartbeats 1000000
namespace D3
open PySem PySem.Spec
open PyProof.Rows hiding St
open L2 hiding St
section
variable{X:Cx}{e b:Expr}{te tb:DTE}{p2 pos:Pos}
end
end D3
namespace D3
open PySem PySem.Spec
open PyProof.Rows hiding St
open L2 hiding St
end D3
namespace D3
open PySem PySem.Spec
open PyProof.Rows hiding St
open L2 hiding St
section
variable{P:Program}{w:World}{K:W.Frag}{mg:Str→Option Value}{base:Heap}
end
end D3
set_option maxHeartbeats 1000000
namespace D3
open PySem PySem.Spec
open PyProof.Rows hiding St
open L2 hiding St
end D3
set_option maxHeartbeats 1000000
namespace D3
open PySem PySem.Spec
open PyProof.Rows hiding St
open L2 hiding St
section
variable{X:Cx}{elt iter tg kx vx:Expr}{ifs:List Expr}{scope:Scope}{pos:Pos}{ti te tk tv:DTE}{tf:DTT}{g:DTG}{T M:List Str}
end
end D3
set_option maxRecDepth 100000
set_option maxHeartbeats 1000000
namespace D3
open PySem PySem.Spec
open PyProof.Rows hiding St
open L2 hiding St
section
variable{X:Cx}{e:Expr}{te:DTE}{pos:Pos}
end
end D3
set_option maxRecDepth 100000
set_option maxHeartbeats 1000000
namespace D3
open PySem PySem.Spec
open PyProof.Rows hiding St
open L2 hiding St
section
variable{X:Cx}{e:Expr}{ta:DTE}
end
section
variable{X:Cx}{a b:Expr}{ta:TA}{tA:DTA}{p p0 pos pos0:Pos}
end
end D3
set_option maxRecDepth 100000
set_option maxHeartbeats 1000000
namespace D3
open PySem PySem.Spec
open PyProof.Rows hiding St
open L2 hiding St
section
variable{P:Program}{w:World}{A:Around}{R:Result→Shared→Prop}{it S:Addr}{fp wr:List Addr}{n:Nat}{V:Nat→Value→Prop}{st:Nat→Heap→Prop}{bt:Nat→Nat→Bool}{kw:List (Str×Value)}
end
section
variable{P:Program}{w:World}{A:Around}{E:Value→Shared→Prop}{s:Shared}
end
section
variable{X:Cx}{e:Expr}{p pos:Pos}
end
end D3
set_option maxRecDepth 100000
set_option maxHeartbeats 1000000
namespace D3
open PySem PySem.Spec
open PyProof.Rows hiding St
open L2 hiding St
section
variable{X:Cx}{elt iter tg:Expr}{ifs:List Expr}{scope:Scope}{pos:Pos}{ti te:DTE}{tf:DTT}{g:DTG}{T M:List Str}
end
section
variable{X:Cx}{elt iter tg kx vx:Expr}{ifs:List Expr}{scope:Scope}{pos:Pos}{ti te tk tv:DTE}{tf:DTT}{g:DTG}{T M:List Str}
end
end D3
set_option maxRecDepth 100000
set_option maxHeartbeats 1000000
namespace D3
open PySem PySem.Spec
open PyProof.Rows hiding St
open L2 hiding St
section
variable{X:Cx}
end
section
end
section
variable{X:Cx}
end
end D3
set_option maxRecDepth 100000
namespace D3
open PySem PySem.Spec PyProof.Rows L2
section
variable{X:Cx}{pos:Pos}
theorem q_v1{i:Nat}{x:Str}(h:X.N[i]? = some x∧X.env.scope.names.lookup x=some .local∧(x == ("__debug__" : Str))=false∧(x == ("__classdict__" : Str))=false):QE X (.Name x pos) (Aq i):=V3 h.1 (.inl h.2.1) h.2.2.1 h.2.2.2
theorem q_v2{i:Nat}{x:Str}(h:X.N[i]? = some x∧X.env.scope.names.lookup x=some .cell∧(x == ("__debug__" : Str))=false∧(x == ("__classdict__" : Str))=false):QE X (.Name x pos) (Aq i):=V3 h.1 (.inr (.inl h.2.1)) h.2.2.1 h.2.2.2
end
end D3
set_option maxRecDepth 100000
set_option maxHeartbeats 1000000
namespace D3
open PySem PySem.Spec
open PyProof.Rows
def Ol:Bool→Keyed→Array Keyed→Nat→Nat→Nat→StateT SortSt Sem (Option Nat):=sortPriv% PySem.Builtin.gallop
def Fo(P:Program)(w:World)(A:Around)(E:Value→Shared→Prop)(s:Shared)(kd:SortKind)(ok:Keyed→Prop)(rk:Keyed→Int):Prop:=
 ∀(x y:Keyed) (st:SortSt) (Q:Option Bool→SortSt→Prop),kindOf st=kd→ok x→ok y→Q (some (decide (rk x<rk y))) st→wpS (model P w) A E s (lt' x y) Q st
def Af(rk:Keyed→Int)(arr:Array Keyed)(i:Nat):Int:=rk (arr.getD i (.none,.none))
def C4(rk:Keyed→Int)(left:Bool)(key:Keyed)(arr:Array Keyed)(base i:Nat):Bool:=if left=true then decide (Af rk arr (base+i)<rk key) else !decide (rk key<Af rk arr (base+i))
section
variable{P:Program}{w:World}{A:Around}{E:Value→Shared→Prop}{s:Shared}{kd:SortKind}{ok:Keyed→Prop}{rk:Keyed→Int}
theorem Ac{arr:Array Keyed}{i:Nat}{st:SortSt}{Q:Keyed→SortSt→Prop}(h:i<arr.size)(q:Q (arr.getD i (.none,.none)) st):wpS (model P w) A E s (elem' arr i) Q st:=by
 have e:arr[i]? = some (arr.getD i (.none,.none)):=by simp[h]
 rw[elem'_eq,e]
 exact wpS_pure q
theorem Bk{arr:Array Keyed}{i:Nat}(h:i<arr.size)(okA:∀x∈arr,ok x):ok (arr.getD i (.none,.none)):=by
 have e:arr.getD i (.none,.none)=arr[i]:=by simp[h]
 rw[e];exact okA _ (Array.getElem_mem h)
theorem Vs{left:Bool}{key:Keyed}{arr:Array Keyed}{base i:Nat}{st:SortSt}{Q:Option Bool→SortSt→Prop}(ask:Fo P w A E s kd ok rk)(hk:kindOf st=kd)(okA:∀x∈arr,ok x)(okK:ok key)(hi:base+i<arr.size)(q:Q (some (C4 rk left key arr base i)) st) :
  wpS (model P w) A E s (elem' arr (base+i) >>= fun x=>if left=true then lt' x key else lt' key x >>= fun r=>pure (r.map fun b=>!b)) Q st:=by
 refine wpS_bind (Ac hi ?_)
 unfold C4 at q
 cases left with
 |true=>rw[if_pos rfl] at q ⊢;exact ask _ _ _ _ hk (Bk hi okA) okK q
 |false=>rw[if_neg Bool.false_ne_true] at q ⊢;exact wpS_bind (ask _ _ _ _ hk okK (Bk hi okA) (wpS_pure q))
structure Spot(b:Nat→Bool)(n k:Nat):Prop where
 le:k≤n
 lo:∀i,i<k→b i=true
 hi:∀i,k≤i→i<n→b i=false
theorem Ap{left:Bool}{key:Keyed}{arr:Array Keyed}{base n hint:Nat}{st:SortSt}{Q:Option Nat→SortSt→Prop}(ask:Fo P w A E s kd ok rk)(hk:kindOf st=kd)(okA:∀x∈arr,ok x)(okK:ok key)(hn:base+n≤arr.size)(hh:hint<n)(dn:∀i j,i≤j→j<n→C4 rk left key arr base j=true→C4 rk left key arr base i=true)(q:∀k,Spot (C4 rk left key arr base) n k→Q (some k) st):wpS (model P w) A E s (Ol left key arr base n hint) Q st:=by
 generalize hb:C4 rk left key arr base=b at *
 have up:∀i j,i≤j→j<n→b i=false→b j=false:=fun i j h1 h2 h3=>by
  cases z:b j with
  |false=>rfl
  |true=>rw[dn i j h1 h2 z] at h3;cases h3
 have run:∀{i:Nat} {st':SortSt} {Q':Option Bool→SortSt→Prop},kindOf st'=kd→i<n→Q' (some (b i)) st'→wpS (model P w) A E s (elem' arr (base+i) >>= fun x=>if left=true then lt' x key else lt' key x >>= fun r=>pure (r.map fun b=>!b)) Q' st':=fun {i st' Q'} h1 h2 h3=>Vs ask h1 okA okK (by omega) (by rw[hb];exact h3)
 delta Ol
 refine wpS_bind ?_
 refine run hk hh ?_
 dsimp only
 cases hr:b hint with
 |true=>
  rw[if_pos rfl]
  refine wpS_bind (wpS_mono (wpS_forRange (I:=fun i c st'=>st=st'∧∃l o,c=(none,l,o)∧b (hint+l)=true∧l<o∧i+1≤o∧hint+l<n) (Q:=fun c st'=>st=st'∧∃l o,c=(none,l,o)∧b (hint+l)=true∧l<o∧hint+l<n∧(o<n-hint→b (hint+o)=false)) ?s1 ?f1 ⟨rfl,0,1,rfl,hr,by omega,by omega,by omega⟩) ?p1)
  case s1=>
   rintro i c st' _ hi ⟨rfl,l,o,rfl,h1,h2,h3,h4⟩
   dsimp only
   by_cases z:o ≥ n-hint
   ·rw[if_pos z];exact wpS_pure ⟨rfl,l,o,rfl,h1,h2,h4,fun y=>absurd y (by omega)⟩
   ·rw[if_neg z]
    refine wpS_bind (run hk (by omega) ?_)
    dsimp only
    cases hm:b (hint+o) with
    |true=>rw[if_neg (by decide)];exact wpS_pure ⟨rfl,o,2*o+1,rfl,hm,by omega,by omega,by omega⟩
    |false=>rw[if_pos (by decide)];exact wpS_pure ⟨rfl,l,o,rfl,h1,h2,h4,fun _=>hm⟩
  case f1=>
   rintro c st' ⟨rfl,l,o,rfl,h1,h2,h3,h4⟩
   exact⟨rfl,l,o,rfl,h1,h2,h4,fun y=>by omega⟩
  case p1=>
   rintro c st' ⟨rfl,l,o,rfl,h1,h2,h3,h4⟩
   dsimp only
   refine wpS_bind (wpS_mono (wpS_forRange (I:=fun i c st'=>st=st'∧∃u v,c=(none,u,v)∧u≤v∧v≤n∧v-u≤n-i∧(∀j,j<u→b j=true)∧∀j,v≤j→j<n→b j=false) (Q:=fun c st'=>st=st'∧∃u,c=(none,u,u)∧Spot b n u) ?s2 ?f2 ⟨rfl,_,_,rfl,by omega,by omega,by omega,fun j hj=>dn j (hint+l) (by omega) (by omega) h1,fun j hj1 hj2=>by
    by_cases z:o<n-hint
    ·exact up (hint+o) j (by omega) hj2 (h4 z)
    ·omega⟩) ?p2)
   case s2=>
    rintro i c st' _ hi ⟨rfl,u,v,rfl,h1,h2,h3,h4,h5⟩
    dsimp only
    by_cases z:u ≥ v
    ·rw[if_pos z]
     obtain rfl:u=v:=by omega
     exact wpS_pure ⟨rfl,u,rfl,h2,h4,h5⟩
    ·rw[if_neg z]
     refine wpS_bind (run hk (by omega) ?_)
     dsimp only
     cases hm:b (u+(v-u) / 2) with
     |true=>rw[if_pos rfl];exact wpS_pure ⟨rfl,_,v,rfl,by omega,h2,by omega,fun j hj=>dn j (u+(v-u) / 2) (by omega) (by omega) hm,h5⟩
     |false=>rw[if_neg (by decide)];exact wpS_pure ⟨rfl,u,_,rfl,by omega,by omega,by omega,h4,fun j hj1 hj2=>up (u+(v-u) / 2) j hj1 hj2 hm⟩
   case f2=>
    rintro c st' ⟨rfl,u,v,rfl,h1,h2,h3,h4,h5⟩
    obtain rfl:u=v:=by have:max 0 n=n:=Nat.max_eq_right (Nat.zero_le n);omega
    exact⟨rfl,u,rfl,h2,h4,h5⟩
   case p2=>
    rintro c st' ⟨rfl,u,rfl,sp⟩
    exact wpS_pure (q u sp)
 |false=>
  rw[if_neg (by decide)]
  refine wpS_bind (wpS_mono (wpS_forRange (I:=fun i c st'=>st=st'∧∃l o,c=(none,l,o)∧b (hint-l)=false∧l<o∧i+1≤o∧l≤hint) (Q:=fun c st'=>st=st'∧∃l o,c=(none,l,o)∧b (hint-l)=false∧l<o∧l≤hint∧(o<hint+1→b (hint-o)=true)) ?s1 ?f1 ⟨rfl,0,1,rfl,hr,by omega,by omega,by omega⟩) ?p1)
  case s1=>
   rintro i c st' _ hi ⟨rfl,l,o,rfl,h1,h2,h3,h4⟩
   dsimp only
   by_cases z:o ≥ hint+1
   ·rw[if_pos z];exact wpS_pure ⟨rfl,l,o,rfl,h1,h2,h4,fun y=>absurd y (by omega)⟩
   ·rw[if_neg z]
    refine wpS_bind (run hk (by omega) ?_)
    dsimp only
    cases hm:b (hint-o) with
    |true=>rw[if_pos rfl];exact wpS_pure ⟨rfl,l,o,rfl,h1,h2,h4,fun _=>hm⟩
    |false=>rw[if_neg (by decide)];exact wpS_pure ⟨rfl,o,2*o+1,rfl,hm,by omega,by omega,by omega⟩
  case f1=>
   rintro c st' ⟨rfl,l,o,rfl,h1,h2,h3,h4⟩
   exact⟨rfl,l,o,rfl,h1,h2,h4,fun y=>by omega⟩
  case p1=>
   rintro c st' ⟨rfl,l,o,rfl,h1,h2,h3,h4⟩
   dsimp only
   refine wpS_bind (wpS_mono (wpS_forRange (I:=fun i c st'=>st=st'∧∃u v,c=(none,u,v)∧u≤v∧v≤n∧v-u≤n-i∧(∀j,j<u→b j=true)∧∀j,v≤j→j<n→b j=false) (Q:=fun c st'=>st=st'∧∃u,c=(none,u,u)∧Spot b n u) ?s2 ?f2 ⟨rfl,_,_,rfl,by omega,by omega,by omega,fun j hj=>by
    by_cases z:o<hint+1
    ·exact dn j (hint-o) (by omega) (by omega) (h4 z)
    ·omega,fun j hj1 hj2=>up (hint-l) j hj1 hj2 h1⟩) ?p2)
   case s2=>
    rintro i c st' _ hi ⟨rfl,u,v,rfl,h1,h2,h3,h4,h5⟩
    dsimp only
    by_cases z:u ≥ v
    ·rw[if_pos z]
     obtain rfl:u=v:=by omega
     exact wpS_pure ⟨rfl,u,rfl,h2,h4,h5⟩
    ·rw[if_neg z]
     refine wpS_bind (run hk (by omega) ?_)
     dsimp only
     cases hm:b (u+(v-u) / 2) with
     |true=>rw[if_pos rfl];exact wpS_pure ⟨rfl,_,v,rfl,by omega,h2,by omega,fun j hj=>dn j (u+(v-u) / 2) (by omega) (by omega) hm,h5⟩
     |false=>rw[if_neg (by decide)];exact wpS_pure ⟨rfl,u,_,rfl,by omega,by omega,by omega,h4,fun j hj1 hj2=>up (u+(v-u) / 2) j hj1 hj2 hm⟩
   case f2=>
    rintro c st' ⟨rfl,u,v,rfl,h1,h2,h3,h4,h5⟩
    obtain rfl:u=v:=by have:max 0 n=n:=Nat.max_eq_right (Nat.zero_le n);omega
    exact⟨rfl,u,rfl,h2,h4,h5⟩
   case p2=>
    rintro c st' ⟨rfl,u,rfl,sp⟩
    exact wpS_pure (q u sp)
end
end D3
namespace D3
section
variable{α:Type}{rk:α→Int}
def Up(rk:α→Int)(l:List α):Prop:=l.Pairwise fun x y=>rk x≤rk y
theorem Up.app{l r:List α}(h1:Up rk l)(h2:Up rk r)(h:∀x∈l,∀y∈r,rk x≤rk y):Up rk (l++r):=List.pairwise_append.mpr ⟨h1,h2,h⟩
theorem Up.drop{l:List α}(h:Up rk l)(n:Nat):Up rk (l.drop n):=List.Pairwise.sublist (List.drop_sublist n l) h
theorem Up.take{l:List α}(h:Up rk l)(n:Nat):Up rk (l.take n):=List.Pairwise.sublist (List.take_sublist n l) h
theorem Up.cut{l:List α}(h:Up rk l){n:Nat}{x y:α}(hx:x∈l.take n)(hy:y∈l.drop n):rk x≤rk y:=by
 rw[Up,←List.take_append_drop n l] at h
 exact(List.pairwise_append.mp h).2.2 x hx y hy
structure Mg(rk:α→Int)(la lb out:List α)(ia ib:Nat):Prop where
 pm:out.Perm (la.take ia++lb.take ib)
 so:Up rk out
 ba:∀x∈out,∀y∈la.drop ia,rk x≤rk y
 bb:∀x∈out,∀y∈lb.drop ib,rk x≤rk y
 ha:ia≤la.length
 hb:ib≤lb.length
theorem Pb{l:List α}{n k:Nat}:l.take (n+k)=l.take n++(l.drop n).take k:=List.take_add
theorem Mg.pushA{la lb out:List α}{ia ib k:Nat}(m:Mg rk la lb out ia ib)(ua:Up rk la)(hk:ia+k≤la.length)(h:∀x∈(la.drop ia).take k,∀y∈lb.drop ib,rk x≤rk y):Mg rk la lb (out++(la.drop ia).take k) (ia+k) ib:=by
 have e:la.drop (ia+k)=(la.drop ia).drop k:=by rw[List.drop_drop]
 refine⟨?_,m.so.app ((ua.drop ia).take k) fun x hx y hy=>m.ba x hx y (List.mem_of_mem_take hy),fun x hx y hy=>?_,fun x hx y hy=>?_,hk,m.hb⟩
 ·rw[Pb]
  refine(m.pm.append_right _).trans ?_
  rw[List.append_assoc,List.append_assoc]
  exact List.Perm.append_left _ List.perm_append_comm
 ·rw[e] at hy
  rcases List.mem_append.mp hx with z|z
  ·exact m.ba x z y (List.mem_of_mem_drop hy)
  ·exact(ua.drop ia).cut z hy
 ·rcases List.mem_append.mp hx with z|z
  ·exact m.bb x z y hy
  ·exact h x z y hy
theorem Mg.swap{la lb out:List α}{ia ib:Nat}(m:Mg rk la lb out ia ib):Mg rk lb la out ib ia:=⟨m.pm.trans List.perm_append_comm,m.so,m.bb,m.ba,m.hb,m.ha⟩
theorem Mg.pushB{la lb out:List α}{ia ib k:Nat}(m:Mg rk la lb out ia ib)(ub:Up rk lb)(hk:ib+k≤lb.length)(h:∀x∈(lb.drop ib).take k,∀y∈la.drop ia,rk x≤rk y):Mg rk la lb (out++(lb.drop ib).take k) ia (ib+k):=(m.swap.pushA ub hk h).swap
def Merged(rk:α→Int)(la lb res:List α):Prop:=res.Perm (la++lb)∧Up rk res
theorem Mg.endA{la lb out:List α}{ia ib:Nat}(m:Mg rk la lb out ia ib)(ua:Up rk la)(h:ib=lb.length):Merged rk la lb (out++la.drop ia):=by
 subst h
 refine⟨?_,m.so.app (ua.drop ia) m.ba⟩
 refine(m.pm.append_right _).trans ?_
 rw[List.take_length,List.append_assoc]
 refine(List.Perm.append_left _ List.perm_append_comm).trans ?_
 rw[←List.append_assoc,List.take_append_drop]
theorem Merged.swap{la lb res:List α}(h:Merged rk la lb res):Merged rk lb la res:=⟨h.1.trans List.perm_append_comm,h.2⟩
theorem Mg.endB{la lb out:List α}{ia ib:Nat}(m:Mg rk la lb out ia ib)(ub:Up rk lb)(h:ia=la.length):Merged rk la lb (out++lb.drop ib):=(m.swap.endA ub h).swap
theorem Mg.lastA{la lb out:List α}{ia ib:Nat}(m:Mg rk la lb out ia ib)(ua:Up rk la)(ub:Up rk lb)(h:∀x∈lb.drop ib,∀y∈la.drop ia,rk x≤rk y):Merged rk la lb (out++lb.drop ib++la.drop ia):=by
 have hb:=m.hb
 have m2:=m.pushB (k:=lb.length-ib) ub (by omega) fun x hx=>h x (List.mem_of_mem_take hx)
 rw[List.take_of_length_le (by simp)] at m2
 exact m2.endA ua (by omega)
theorem Rr{l:List α}{i:Nat}(h:i<l.length):(l.drop i).take 1=[l[i]]:=by
 rw[List.drop_eq_getElem_cons h];rfl
theorem Ts{l:List α}(u:Up rk l){i:Nat}(h:i<l.length):∀y∈l.drop i,rk l[i]≤rk y:=fun y hy=>by
 have hd:=u.drop i
 rw[List.drop_eq_getElem_cons h] at hd hy
 rcases List.mem_cons.mp hy with e|e
 ·rw[e];exact Int.le_refl _
 ·exact(List.pairwise_cons.mp hd).1 y e
theorem Up.getLe{l:List α}(u:Up rk l){i j:Nat}(hij:i≤j)(hj:j<l.length):rk (l[i]'(by omega))≤rk l[j]:=by
 by_cases e:i=j
 ·subst e;exact Int.le_refl _
 ·exact List.pairwise_iff_getElem.mp u i j (by omega) hj (by omega)
theorem Wx{l:List α}(u:Up rk l):Up (fun x=>- rk x) l.reverse:=by
 rw[Up,List.pairwise_reverse]
 exact u.imp fun h=>by omega
theorem Ua{l:List α}(u:Up (fun x=>- rk x) l):Up rk l.reverse:=by
 rw[Up,List.pairwise_reverse]
 exact u.imp fun {a b} h=>by have h : - rk a≤- rk b:=h;omega
theorem Merged.back{la lb res:List α}(h:Merged (fun x=>- rk x) la.reverse lb.reverse res):Merged rk la lb res.reverse:=by
 refine⟨?_,Ua h.2⟩
 have:=h.1
 rw[←List.reverse_append] at this
 exact(List.reverse_perm res).trans (this.trans ((List.reverse_perm _).trans List.perm_append_comm))
end
end D3
set_option maxRecDepth 100000
set_option maxHeartbeats 1000000
namespace D3
open PySem PySem.Spec
open PyProof.Rows
section
variable{rk:Keyed→Int}{a b out:Array Keyed}{ia ib k:Nat}
abbrev MgA(rk:Keyed→Int)(a b out:Array Keyed)(ia ib:Nat):Prop:=Mg rk a.toList b.toList out.toList ia ib
abbrev MdA(rk:Keyed→Int)(a b r:Array Keyed):Prop:=Merged rk a.toList b.toList r.toList
theorem Dp{a:Array Keyed}{i:Nat}:(a.extract i a.size).toList=a.toList.drop i:=by
 rw[Array.toList_extract,List.extract_eq_take_drop,List.take_of_length_le (by simp)]
theorem Kw{a:Array Keyed}{i k:Nat}:(a.extract i (i+k)).toList=(a.toList.drop i).take k:=by
 rw[Array.toList_extract,List.extract_eq_take_drop,show i+k-i=k by omega]
theorem C6{a:Array Keyed}{i:Nat}(h:i<a.size):Af rk a i=rk (a.toList[i]'(by simpa using h)):=by
 unfold Af;simp[h]
theorem Gm{a:Array Keyed}{i:Nat}(h:i<a.size):a.getD i (.none,.none)=a.toList[i]'(by simpa using h):=by simp[h]
theorem Oe{a:Array Keyed}{i k:Nat}{x:Keyed}(h:x∈(a.toList.drop i).take k):∃j,j<k∧i+j<a.size∧rk x=Af rk a (i+j):=by
 obtain⟨j,hj,e⟩:=List.getElem_of_mem h
 have hj':=hj
 rw[List.length_take,List.length_drop,Array.length_toList] at hj'
 refine⟨j,by omega,by omega,?_⟩
 rw[C6 (by omega),←e,List.getElem_take,List.getElem_drop]
theorem Gn{a:Array Keyed}(u:Up rk a.toList){i:Nat}(h:i<a.size){y:Keyed}(hy:y∈a.toList.drop i):Af rk a i≤rk y:=by
 rw[C6 h];exact Ts u (by simpa using h) y hy
theorem Oy{a:Array Keyed}(u:Up rk a.toList){i j:Nat}(hij:i≤j)(hj:j<a.size):Af rk a i≤Af rk a j:=by
 rw[C6 (show i<a.size by omega),C6 hj];exact u.getLe hij (by simpa using hj)
theorem Mg.more_a(m:MgA rk a b out ia ib)(ua:Up rk a.toList)(ub:Up rk b.toList)(hk:ia+k≤a.size)(hb:ib<b.size)(h:∀i,i<k→Af rk a (ia+i)≤Af rk b ib):MgA rk a b (out++a.extract ia (ia+k)) (ia+k) ib:=by
 show Mg rk _ _ (out++a.extract ia (ia+k)).toList _ _
 rw[Array.toList_append,Kw]
 refine m.pushA ua (by simpa using hk) fun x hx y hy=>?_
 obtain⟨j,h1,_,e⟩:=Oe (rk:=rk) hx
 have:=h j h1
 have:=Gn ub hb hy
 omega
theorem Mg.more_b(m:MgA rk a b out ia ib)(ua:Up rk a.toList)(ub:Up rk b.toList)(hk:ib+k≤b.size)(ha:ia<a.size)(h:∀i,i<k→Af rk b (ib+i)≤Af rk a ia):MgA rk a b (out++b.extract ib (ib+k)) ia (ib+k):=(Mg.more_a m.swap ub ua hk ha h).swap
theorem Si{out b:Array Keyed}{i:Nat}(h:i<b.size):(out.push (b.getD i (.none,.none))).toList=(out++b.extract i (i+1)).toList:=by
 rw[Array.toList_append,Kw,Rr (by simpa using h),Array.toList_push,Gm h]
theorem Mg.one_a(m:MgA rk a b out ia ib)(ua:Up rk a.toList)(ub:Up rk b.toList)(ha:ia<a.size)(hb:ib<b.size)(h:Af rk a ia≤Af rk b ib):MgA rk a b (out.push (a.getD ia (.none,.none))) (ia+1) ib:=by
 show Mg rk _ _ (out.push (a.getD ia (.none,.none))).toList _ _
 rw[Si ha]
 exact m.more_a ua ub (by omega) hb fun i hi=>by rw[show i=0 by omega];exact h
theorem Mg.one_b(m:MgA rk a b out ia ib)(ua:Up rk a.toList)(ub:Up rk b.toList)(ha:ia<a.size)(hb:ib<b.size)(h:Af rk b ib≤Af rk a ia):MgA rk a b (out.push (b.getD ib (.none,.none))) ia (ib+1):=(Mg.one_a m.swap ub ua hb ha h).swap
theorem Mg.fin_b(m:MgA rk a b out ia ib)(ua:Up rk a.toList)(h:ib=b.size):MdA rk a b (out++a.extract ia a.size++b.extract ib b.size):=by
 have:=m.endA ua (by simpa using h)
 show Merged rk _ _ (out++a.extract ia a.size++b.extract ib b.size).toList
 rw[Array.toList_append,Array.toList_append,Dp,Dp,List.drop_of_length_le (l:=b.toList) (by simp[h]),List.append_nil]
 exact this
theorem Mg.fin_a(m:MgA rk a b out ia ib)(ub:Up rk b.toList)(h:ia=a.size):MdA rk a b (out++a.extract ia a.size++b.extract ib b.size):=by
 have:=m.endB ub (by simpa using h)
 show Merged rk _ _ (out++a.extract ia a.size++b.extract ib b.size).toList
 rw[Array.toList_append,Array.toList_append,Dp,Dp,List.drop_of_length_le (l:=a.toList) (by simp[h]),List.append_nil]
 exact this
theorem Mg.fin_last(m:MgA rk a b out ia ib)(ua:Up rk a.toList)(ub:Up rk b.toList)(h:ia+1=a.size)(hl:∀y∈b.toList,rk y≤Af rk a (a.size-1)):MdA rk a b (out++b.extract ib b.size++a.extract ia a.size):=by
 have:=m.lastA ua ub fun x hx y hy=>by
  have h1:=hl x (List.mem_of_mem_drop hx)
  have h2:=Gn ua (show ia<a.size by omega) hy
  rw[show a.size-1=ia by omega] at h1
  omega
 show Merged rk _ _ (out++b.extract ib b.size++a.extract ia a.size).toList
 rw[Array.toList_append,Array.toList_append,Dp,Dp]
 exact this
theorem Mg.size(m:MgA rk a b out ia ib):out.size=ia+ib:=by
 have:=m.pm.length_eq
 have h1:=m.ha
 have h2:=m.hb
 rw[List.length_append,List.length_take,List.length_take,Nat.min_eq_left h1,Nat.min_eq_left h2,Array.length_toList] at this
 exact this
theorem Bl{a:Array Keyed}(u:Up rk a.toList){left:Bool}{key:Keyed}{base n:Nat}(hn:base+n≤a.size):∀i j,i≤j→j<n→C4 rk left key a base j=true→C4 rk left key a base i=true:=fun i j h1 h2 h3=>by
 have:=Oy u (show base+i≤base+j by omega) (show base+j<a.size by omega)
 unfold C4 at h3 ⊢
 cases left with
 |true=>rw[if_pos rfl] at h3 ⊢;have:=of_decide_eq_true h3;exact decide_eq_true (by omega)
 |false=>
  rw[if_neg Bool.false_ne_true] at h3 ⊢
  have h3:decide (rk key<Af rk a (base+j))=false:=by simpa using h3
  have:=of_decide_eq_false h3
  rw[decide_eq_false (show ¬rk key<Af rk a (base+i) by omega)];rfl
theorem bey_f{key:Keyed}{base i:Nat}:(C4 rk false key a base i=true→Af rk a (base+i)≤rk key)∧(C4 rk false key a base i=false→rk key<Af rk a (base+i)):=by
 unfold C4
 rw[if_neg Bool.false_ne_true]
 by_cases z:rk key<Af rk a (base+i)
 ·rw[decide_eq_true z];exact⟨fun h=>(by cases h),fun _=>z⟩
 ·rw[decide_eq_false z];exact⟨fun _=>by omega,fun h=>by cases h⟩
theorem bey_t{key:Keyed}{base i:Nat}:(C4 rk true key a base i=true→Af rk a (base+i)<rk key)∧(C4 rk true key a base i=false→rk key≤Af rk a (base+i)):=by
 unfold C4
 rw[if_pos rfl]
 by_cases z:Af rk a (base+i)<rk key
 ·rw[decide_eq_true z];exact⟨fun _=>z,fun h=>by cases h⟩
 ·rw[decide_eq_false z];exact⟨fun h=>(by cases h),fun _=>by omega⟩
end
end D3
set_option maxRecDepth 100000
set_option maxHeartbeats 1000000
namespace D3
open PySem PySem.Spec
open PyProof.Rows
def K8:Array Keyed→Array Keyed→StateT SortSt Sem (Array Keyed):=sortPriv% PySem.Builtin.mergeLo
structure Like(st st':SortSt):Prop where
 kind:kindOf st'=kindOf st
 arr:arrOf st'=arrOf st
 pend:pendingOf st'=pendingOf st
 failed:failedOf st'=failedOf st
theorem Like.trans{st st' st'':SortSt}(h:Like st st')(h2:Like st' st''):Like st st'':=⟨h2.kind.trans h.kind,h2.arr.trans h.arr,h2.pend.trans h.pend,h2.failed.trans h.failed⟩
theorem Like.refl{st:SortSt}:Like st st:=⟨rfl,rfl,rfl,rfl⟩
def Vz:Nat→StateT SortSt Sem Unit:=sortPriv% PySem.Builtin.setMinGallop
section
variable{P:Program}{w:World}{A:Around}{E:Value→Shared→Prop}{s:Shared}{kd:SortKind}{ok:Keyed→Prop}{rk:Keyed→Int}
theorem Cv{M:Model}{g:Nat}{Q:Unit→SortSt→Prop}{st:SortSt}(h:∀st2,Like st st2→Q () st2):wpS M A E s (Vz g) Q st:=by
 delta Vz
 exact wpS_modify (h _ ⟨rfl,rfl,rfl,rfl⟩)
theorem Ab{M:Model}{α:Type}{c:Prop}[Decidable c]{x y:StateT SortSt Sem α}{Q:α→SortSt→Prop}{st:SortSt}(h1:c→wpS M A E s x Q st)(h2:¬c→wpS M A E s y Q st):wpS M A E s (if c then x else y) Q st:=by
 by_cases z:c
 ·rw[if_pos z];exact h1 z
 ·rw[if_neg z];exact h2 z
theorem L5{a b:Array Keyed}{st:SortSt}{Q:Array Keyed→SortSt→Prop}(ask:Fo P w A E s kd ok rk)(hk:kindOf st=kd)(okA:∀x∈a,ok x)(okB:∀x∈b,ok x)(ua:Up rk a.toList)(ub:Up rk b.toList)(a1:1≤a.size)(b1:1≤b.size)(h0:Af rk b 0≤Af rk a 0)(hl:∀y∈b.toList,rk y≤Af rk a (a.size-1))(q:∀r st',MdA rk a b r→Like st st'→Q r st'):wpS (model P w) A E s (K8 a b) Q st:=by
 have m0:MgA rk a b #[] 0 0:=⟨by simp,List.Pairwise.nil,fun x hx=>by simp at hx,fun x hx=>by simp at hx,Nat.zero_le _,Nat.zero_le _⟩
 have m1:MgA rk a b #[b.getD 0 (.none,.none)] 0 1:=m0.one_b ua ub (by omega) (by omega) h0
 have kn:∀{st'},Like st st'→kindOf st'=kd:=fun l=>l.kind.trans hk
 delta K8
 refine wpS_bind (wpS_lift (wpAny_rule ⟨rfl,?_⟩))
 refine wpS_bind (Ac (by omega) ?_)
 dsimp only
 by_cases z1:(1 == b.size)=true
 ·rw[if_pos z1]
  exact wpS_pure (q _ _ (m1.fin_b ua (by simpa using z1)) .refl)
 rw[if_neg z1]
 by_cases z2:(0+1 == a.size)=true
 ·rw[if_pos z2]
  exact wpS_pure (q _ _ (m1.fin_last ua ub (by simpa using z2) hl) .refl)
 rw[if_neg z2]
 have b2:1<b.size:=by
  have z3:¬1=b.size:=by simpa using z1
  omega
 have a2:1<a.size:=by
  have z3:¬0+1=a.size:=by simpa using z2
  omega
 refine wpS_bind (wpS_get ?_)
 refine wpS_bind (wpS_mono (wpS_forRange (I:=fun i c st'=>Like st st'∧∃out ia ib mg,c=(none,out,ia,ib,mg)∧MgA rk a b out ia ib∧ia+1<a.size∧ib<b.size∧i+1≤out.size) (Q:=fun c st'=>Like st st'∧∃r v,c=(some r,v)∧MdA rk a b r) ?s1 ?f1 ⟨.refl,_,0,1,_,rfl,m1,by omega,by omega,by simp⟩) ?p1)
 case f1=>
  rintro c st' ⟨l,out,ia,ib,mg,rfl,m,ha,hb,hs⟩
  exfalso
  have:=m.size
  have:max 0 (a.size+b.size)=a.size+b.size:=Nat.max_eq_right (Nat.zero_le _)
  omega
 case p1=>
  rintro c st' ⟨l,r,v,rfl,md⟩
  exact wpS_pure (q r st' md l)
 case s1=>
  rintro i c st' _ hi ⟨l,out,ia,ib,mg,rfl,m,ha,hb,hs⟩
  dsimp only
  refine wpS_bind (wpS_mono (wpS_forRange (I:=fun j c st'=>Like st st'∧∃out ia ib ac bc,c=(none,out,ia,ib,ac,bc)∧MgA rk a b out ia ib∧ia+1<a.size∧ib<b.size∧i+1+j≤out.size) (Q:=fun c st'=>Like st st'∧((∃r v,c=(some r,v)∧MdA rk a b r)∨∃out ia ib ac bc,c=(none,out,ia,ib,ac,bc)∧MgA rk a b out ia ib∧ia+1<a.size∧ib<b.size∧i+2≤out.size)) ?s2 ?f2 ⟨l,out,ia,ib,0,0,rfl,m,ha,hb,by omega⟩) ?p2)
  case f2=>
   rintro c st' ⟨l,out,ia,ib,ac,bc,rfl,m,ha,hb,hs⟩
   have:max 0 (a.size+b.size)=a.size+b.size:=Nat.max_eq_right (Nat.zero_le _)
   exact⟨l,.inr ⟨out,ia,ib,ac,bc,rfl,m,ha,hb,by omega⟩⟩
  case s2=>
   rintro j c st' _ hj ⟨l,out,ia,ib,ac,bc,rfl,m,ha,hb,hs⟩
   dsimp only
   refine wpS_bind (Ac hb (wpS_bind (Ac (by omega) (wpS_bind (ask _ _ _ _ (kn l) (Bk hb okB) (Bk (by omega) okA) ?_)))))
   dsimp only
   by_cases z:rk (b.getD ib (.none,.none))<rk (a.getD ia (.none,.none))
   ·rw[decide_eq_true z,if_pos rfl]
    refine wpS_bind (Ac hb ?_)
    have m':=m.one_b ua ub (by omega) hb (Int.le_of_lt z)
    by_cases y:(ib+1 == b.size)=true
    ·rw[if_pos y];exact wpS_pure ⟨l,.inl ⟨_,_,rfl,m'.fin_b ua (by simpa using y)⟩⟩
    ·rw[if_neg y]
     have y:¬ib+1=b.size:=by simpa using y
     have e:=m'.size
     have e0:=m.size
     exact Ab (fun _=>wpS_pure ⟨l,.inr ⟨_,_,_,_,_,rfl,m',ha,by omega,by omega⟩⟩) fun _=>wpS_pure ⟨l,_,_,_,_,_,rfl,m',ha,by omega,by omega⟩
   ·rw[decide_eq_false z,if_neg (by decide)]
    refine wpS_bind (Ac (by omega) ?_)
    have m':=m.one_a ua ub (by omega) hb (show Af rk a ia≤Af rk b ib by unfold Af;omega)
    by_cases y:(ia+1+1 == a.size)=true
    ·rw[if_pos y];exact wpS_pure ⟨l,.inl ⟨_,_,rfl,m'.fin_last ua ub (by simpa using y) hl⟩⟩
    ·rw[if_neg y]
     have y:¬ia+1+1=a.size:=by simpa using y
     have e:=m'.size
     have e0:=m.size
     exact Ab (fun _=>wpS_pure ⟨l,.inr ⟨_,_,_,_,_,rfl,m',by omega,hb,by omega⟩⟩) fun _=>wpS_pure ⟨l,_,_,_,_,_,rfl,m',by omega,hb,by omega⟩
  case p2=>
   rintro c st' ⟨l,⟨r,v,rfl,md⟩|⟨out,ia,ib,ac,bc,rfl,m,ha,hb,hs⟩⟩
   ·exact wpS_pure ⟨l,r,_,rfl,md⟩
   ·dsimp only
    refine wpS_bind (wpS_lift (wpAny_rule ⟨rfl,?_⟩))
    refine wpS_bind (wpS_mono (wpS_forRange (I:=fun j c st'=>Like st st'∧∃out ia ib mg ac bc,c=(none,out,ia,ib,mg,ac,bc)∧MgA rk a b out ia ib∧ia+1<a.size∧ib<b.size∧i+2≤out.size) (Q:=fun c st'=>Like st st'∧((∃r v,c=(some r,v)∧MdA rk a b r)∨∃out ia ib mg ac bc,c=(none,out,ia,ib,mg,ac,bc)∧MgA rk a b out ia ib∧ia+1<a.size∧ib<b.size∧i+2≤out.size)) ?s3 ?f3 ⟨l,out,ia,ib,_,_,_,rfl,m,ha,hb,hs⟩) ?p3)
    case f3=>
     rintro c st' ⟨l,out,ia,ib,mg,ac,bc,rfl,m,ha,hb,hs⟩
     exact⟨l,.inr ⟨out,ia,ib,mg,ac,bc,rfl,m,ha,hb,hs⟩⟩
    case p3=>
     rintro c st' ⟨l,⟨r,v,rfl,md⟩|⟨out,ia,ib,mg,ac,bc,rfl,m,ha,hb,hs⟩⟩
     ·exact wpS_pure ⟨l,r,_,rfl,md⟩
     ·dsimp only
      exact wpS_bind (Cv fun st2 l2=>wpS_pure ⟨l.trans l2,_,_,_,_,rfl,m,ha,hb,by omega⟩)
    case s3=>
     rintro j c st' _ hj ⟨l,out,ia,ib,mg,ac,bc,rfl,m,ha,hb,hs⟩
     refine Ab (fun _=>?_) fun _=>?_
     ·refine wpS_bind (Cv fun st2 l2'=>?_)
      have l2:=l.trans l2'
      dsimp only
      refine wpS_bind (Ac hb ?_)
      refine wpS_bind (Ap (left:=false) ask (kn l2) okA (Bk hb okB) (by omega) (by omega) (Bl ua (by omega)) fun k sp=>?_)
      have le1:=sp.le
      have e0:=m.size
      dsimp only
      refine Ab (fun k0=>?_) fun k0=>?_
      ·have mA:=m.more_a (k:=k) ua ub (by omega) hb fun i hi=>bey_f.1 (sp.lo i hi)
       have eA:=mA.size
       refine Ab (fun y=>wpS_pure ⟨l2,.inl ⟨_,_,rfl,mA.fin_last ua ub (by simpa using y) hl⟩⟩) fun y=>?_
       refine Ab (fun y2=>wpS_pure ⟨l2,.inl ⟨_,_,rfl,mA.fin_a ub (by simpa using y2)⟩⟩) fun y2=>?_
       have y:¬ia+k+1=a.size:=by simpa using y
       have y2:¬ia+k=a.size:=by simpa using y2
       refine wpS_bind (Ac hb ?_)
       have mB:=mA.one_b ua ub (by omega) hb (by have:=bey_f.2 (sp.hi k (Nat.le_refl _) (by omega));exact Int.le_of_lt this)
       have eB:=mB.size
       refine Ab (fun y=>wpS_pure ⟨l2,.inl ⟨_,_,rfl,mB.fin_b ua (by simpa using y)⟩⟩) fun y=>?_
       have y:¬ib+1=b.size:=by simpa using y
       refine wpS_bind (Ac (by omega) ?_)
       refine wpS_bind (Ap (left:=true) ask (kn l2) okB (Bk (by omega) okA) (by omega) (by omega) (Bl ub (by omega)) fun k2 sp2=>?_)
       have le2:=sp2.le
       dsimp only
       refine Ab (fun j0=>?_) fun j0=>?_
       ·have mC:=mB.more_b (k:=k2) ua ub (by omega) (by omega) fun i hi=>Int.le_of_lt (bey_t.1 (sp2.lo i hi))
        have eC:=mC.size
        refine Ab (fun y=>wpS_pure ⟨l2,.inl ⟨_,_,rfl,mC.fin_b ua (by simpa using y)⟩⟩) fun y=>?_
        have y:¬ib+1+k2=b.size:=by simpa using y
        refine wpS_bind (Ac (by omega) ?_)
        have mD:=mC.one_a ua ub (by omega) (by omega) (by have:=bey_t.2 (sp2.hi k2 (Nat.le_refl _) (by omega));exact this)
        have eD:=mD.size
        refine Ab (fun y=>wpS_pure ⟨l2,.inl ⟨_,_,rfl,mD.fin_last ua ub (by simpa using y) hl⟩⟩) fun y=>?_
        have y:¬ia+k+1+1=a.size:=by simpa using y
        exact Ab (fun _=>wpS_pure ⟨l2,.inr ⟨_,_,_,_,_,_,rfl,mD,by omega,by omega,by omega⟩⟩) fun _=>wpS_pure ⟨l2,_,_,_,_,_,_,rfl,mD,by omega,by omega,by omega⟩
       ·obtain rfl:k2=0:=by omega
        refine wpS_bind (Ac (by omega) ?_)
        have mD:=mB.one_a ua ub (by omega) (by omega) (by have:=bey_t.2 (sp2.hi 0 (Nat.le_refl _) (by omega));exact this)
        have eD:=mD.size
        refine Ab (fun y=>wpS_pure ⟨l2,.inl ⟨_,_,rfl,mD.fin_last ua ub (by simpa using y) hl⟩⟩) fun y=>?_
        have y:¬ia+k+1+1=a.size:=by simpa using y
        exact Ab (fun _=>wpS_pure ⟨l2,.inr ⟨_,_,_,_,_,_,rfl,mD,by omega,by omega,by omega⟩⟩) fun _=>wpS_pure ⟨l2,_,_,_,_,_,_,rfl,mD,by omega,by omega,by omega⟩
      ·obtain rfl:k=0:=by omega
       refine wpS_bind (Ac hb ?_)
       have mB:=m.one_b ua ub (by omega) hb (by have:=bey_f.2 (sp.hi 0 (Nat.le_refl _) (by omega));exact Int.le_of_lt this)
       have eB:=mB.size
       refine Ab (fun y=>wpS_pure ⟨l2,.inl ⟨_,_,rfl,mB.fin_b ua (by simpa using y)⟩⟩) fun y=>?_
       have y:¬ib+1=b.size:=by simpa using y
       refine wpS_bind (Ac (by omega) ?_)
       refine wpS_bind (Ap (left:=true) ask (kn l2) okB (Bk (by omega) okA) (by omega) (by omega) (Bl ub (by omega)) fun k2 sp2=>?_)
       have le2:=sp2.le
       dsimp only
       refine Ab (fun j0=>?_) fun j0=>?_
       ·have mC:=mB.more_b (k:=k2) ua ub (by omega) (by omega) fun i hi=>Int.le_of_lt (bey_t.1 (sp2.lo i hi))
        have eC:=mC.size
        refine Ab (fun y=>wpS_pure ⟨l2,.inl ⟨_,_,rfl,mC.fin_b ua (by simpa using y)⟩⟩) fun y=>?_
        have y:¬ib+1+k2=b.size:=by simpa using y
        refine wpS_bind (Ac (by omega) ?_)
        have mD:=mC.one_a ua ub (by omega) (by omega) (by have:=bey_t.2 (sp2.hi k2 (Nat.le_refl _) (by omega));exact this)
        have eD:=mD.size
        refine Ab (fun y=>wpS_pure ⟨l2,.inl ⟨_,_,rfl,mD.fin_last ua ub (by simpa using y) hl⟩⟩) fun y=>?_
        have y:¬ia+1+1=a.size:=by simpa using y
        exact Ab (fun _=>wpS_pure ⟨l2,.inr ⟨_,_,_,_,_,_,rfl,mD,by omega,by omega,by omega⟩⟩) fun _=>wpS_pure ⟨l2,_,_,_,_,_,_,rfl,mD,by omega,by omega,by omega⟩
       ·obtain rfl:k2=0:=by omega
        refine wpS_bind (Ac (by omega) ?_)
        have mD:=mB.one_a ua ub (by omega) (by omega) (by have:=bey_t.2 (sp2.hi 0 (Nat.le_refl _) (by omega));exact this)
        have eD:=mD.size
        refine Ab (fun y=>wpS_pure ⟨l2,.inl ⟨_,_,rfl,mD.fin_last ua ub (by simpa using y) hl⟩⟩) fun y=>?_
        have y:¬ia+1+1=a.size:=by simpa using y
        exact Ab (fun _=>wpS_pure ⟨l2,.inr ⟨_,_,_,_,_,_,rfl,mD,by omega,by omega,by omega⟩⟩) fun _=>wpS_pure ⟨l2,_,_,_,_,_,_,rfl,mD,by omega,by omega,by omega⟩
     ·refine wpS_bind (Cv fun st2 l2'=>?_)
      have l2:=l.trans l2'
      dsimp only
      refine wpS_bind (Ac hb ?_)
      refine wpS_bind (Ap (left:=false) ask (kn l2) okA (Bk hb okB) (by omega) (by omega) (Bl ua (by omega)) fun k sp=>?_)
      have le1:=sp.le
      have e0:=m.size
      dsimp only
      refine Ab (fun k0=>?_) fun k0=>?_
      ·have mA:=m.more_a (k:=k) ua ub (by omega) hb fun i hi=>bey_f.1 (sp.lo i hi)
       have eA:=mA.size
       refine Ab (fun y=>wpS_pure ⟨l2,.inl ⟨_,_,rfl,mA.fin_last ua ub (by simpa using y) hl⟩⟩) fun y=>?_
       refine Ab (fun y2=>wpS_pure ⟨l2,.inl ⟨_,_,rfl,mA.fin_a ub (by simpa using y2)⟩⟩) fun y2=>?_
       have y:¬ia+k+1=a.size:=by simpa using y
       have y2:¬ia+k=a.size:=by simpa using y2
       refine wpS_bind (Ac hb ?_)
       have mB:=mA.one_b ua ub (by omega) hb (by have:=bey_f.2 (sp.hi k (Nat.le_refl _) (by omega));exact Int.le_of_lt this)
       have eB:=mB.size
       refine Ab (fun y=>wpS_pure ⟨l2,.inl ⟨_,_,rfl,mB.fin_b ua (by simpa using y)⟩⟩) fun y=>?_
       have y:¬ib+1=b.size:=by simpa using y
       refine wpS_bind (Ac (by omega) ?_)
       refine wpS_bind (Ap (left:=true) ask (kn l2) okB (Bk (by omega) okA) (by omega) (by omega) (Bl ub (by omega)) fun k2 sp2=>?_)
       have le2:=sp2.le
       dsimp only
       refine Ab (fun j0=>?_) fun j0=>?_
       ·have mC:=mB.more_b (k:=k2) ua ub (by omega) (by omega) fun i hi=>Int.le_of_lt (bey_t.1 (sp2.lo i hi))
        have eC:=mC.size
        refine Ab (fun y=>wpS_pure ⟨l2,.inl ⟨_,_,rfl,mC.fin_b ua (by simpa using y)⟩⟩) fun y=>?_
        have y:¬ib+1+k2=b.size:=by simpa using y
        refine wpS_bind (Ac (by omega) ?_)
        have mD:=mC.one_a ua ub (by omega) (by omega) (by have:=bey_t.2 (sp2.hi k2 (Nat.le_refl _) (by omega));exact this)
        have eD:=mD.size
        refine Ab (fun y=>wpS_pure ⟨l2,.inl ⟨_,_,rfl,mD.fin_last ua ub (by simpa using y) hl⟩⟩) fun y=>?_
        have y:¬ia+k+1+1=a.size:=by simpa using y
        exact Ab (fun _=>wpS_pure ⟨l2,.inr ⟨_,_,_,_,_,_,rfl,mD,by omega,by omega,by omega⟩⟩) fun _=>wpS_pure ⟨l2,_,_,_,_,_,_,rfl,mD,by omega,by omega,by omega⟩
       ·obtain rfl:k2=0:=by omega
        refine wpS_bind (Ac (by omega) ?_)
        have mD:=mB.one_a ua ub (by omega) (by omega) (by have:=bey_t.2 (sp2.hi 0 (Nat.le_refl _) (by omega));exact this)
        have eD:=mD.size
        refine Ab (fun y=>wpS_pure ⟨l2,.inl ⟨_,_,rfl,mD.fin_last ua ub (by simpa using y) hl⟩⟩) fun y=>?_
        have y:¬ia+k+1+1=a.size:=by simpa using y
        exact Ab (fun _=>wpS_pure ⟨l2,.inr ⟨_,_,_,_,_,_,rfl,mD,by omega,by omega,by omega⟩⟩) fun _=>wpS_pure ⟨l2,_,_,_,_,_,_,rfl,mD,by omega,by omega,by omega⟩
      ·obtain rfl:k=0:=by omega
       refine wpS_bind (Ac hb ?_)
       have mB:=m.one_b ua ub (by omega) hb (by have:=bey_f.2 (sp.hi 0 (Nat.le_refl _) (by omega));exact Int.le_of_lt this)
       have eB:=mB.size
       refine Ab (fun y=>wpS_pure ⟨l2,.inl ⟨_,_,rfl,mB.fin_b ua (by simpa using y)⟩⟩) fun y=>?_
       have y:¬ib+1=b.size:=by simpa using y
       refine wpS_bind (Ac (by omega) ?_)
       refine wpS_bind (Ap (left:=true) ask (kn l2) okB (Bk (by omega) okA) (by omega) (by omega) (Bl ub (by omega)) fun k2 sp2=>?_)
       have le2:=sp2.le
       dsimp only
       refine Ab (fun j0=>?_) fun j0=>?_
       ·have mC:=mB.more_b (k:=k2) ua ub (by omega) (by omega) fun i hi=>Int.le_of_lt (bey_t.1 (sp2.lo i hi))
        have eC:=mC.size
        refine Ab (fun y=>wpS_pure ⟨l2,.inl ⟨_,_,rfl,mC.fin_b ua (by simpa using y)⟩⟩) fun y=>?_
        have y:¬ib+1+k2=b.size:=by simpa using y
        refine wpS_bind (Ac (by omega) ?_)
        have mD:=mC.one_a ua ub (by omega) (by omega) (by have:=bey_t.2 (sp2.hi k2 (Nat.le_refl _) (by omega));exact this)
        have eD:=mD.size
        refine Ab (fun y=>wpS_pure ⟨l2,.inl ⟨_,_,rfl,mD.fin_last ua ub (by simpa using y) hl⟩⟩) fun y=>?_
        have y:¬ia+1+1=a.size:=by simpa using y
        exact Ab (fun _=>wpS_pure ⟨l2,.inr ⟨_,_,_,_,_,_,rfl,mD,by omega,by omega,by omega⟩⟩) fun _=>wpS_pure ⟨l2,_,_,_,_,_,_,rfl,mD,by omega,by omega,by omega⟩
       ·obtain rfl:k2=0:=by omega
        refine wpS_bind (Ac (by omega) ?_)
        have mD:=mB.one_a ua ub (by omega) (by omega) (by have:=bey_t.2 (sp2.hi 0 (Nat.le_refl _) (by omega));exact this)
        have eD:=mD.size
        refine Ab (fun y=>wpS_pure ⟨l2,.inl ⟨_,_,rfl,mD.fin_last ua ub (by simpa using y) hl⟩⟩) fun y=>?_
        have y:¬ia+1+1=a.size:=by simpa using y
        exact Ab (fun _=>wpS_pure ⟨l2,.inr ⟨_,_,_,_,_,_,rfl,mD,by omega,by omega,by omega⟩⟩) fun _=>wpS_pure ⟨l2,_,_,_,_,_,_,rfl,mD,by omega,by omega,by omega⟩
end
end D3
set_option maxRecDepth 100000
set_option maxHeartbeats 1000000
namespace D3
open PySem PySem.Spec
open PyProof.Rows
section
variable{rk:Keyed→Int}{a b out:Array Keyed}{na nb:Nat}
structure MhA(rk:Keyed→Int)(a b out:Array Keyed)(na nb:Nat):Prop where
 mg:MgA (fun x=>- rk x) a.reverse b.reverse out (a.size-na) (b.size-nb)
 la:na≤a.size
 lb:nb≤b.size
theorem Rl{a:Array Keyed}{i:Nat}(h:i<a.size):Af (fun x=>- rk x) a.reverse (a.size-1-i) = - Af rk a i:=by
 unfold Af
 have h2:a.size-1-i<a.reverse.size:=by rw[Array.size_reverse];omega
 have e:a.reverse.getD (a.size-1-i) (.none,.none)=a.getD i (.none,.none):=by
  simp only[Array.getD_eq_getD_getElem?]
  rw[Array.getElem?_reverse (by omega),show a.size-1-(a.size-1-i)=i by omega]
 rw[e]
theorem E2{a:Array Keyed}(u:Up rk a.toList):Up (fun x=>- rk x) a.reverse.toList:=by rw[Array.toList_reverse];exact Wx u
theorem Vj{a:Array Keyed}{m n:Nat}(h:m≤n)(hn:n≤a.size):(a.reverse.extract (a.size-n) (a.size-n+(n-m))).toList=(a.extract m n).reverse.toList:=by
 rw[Kw,Array.toList_reverse,Array.toList_reverse,Array.toList_extract,List.extract_eq_take_drop,List.drop_reverse,List.take_reverse,List.length_take,Array.length_toList]
 congr 1
 rw[List.drop_take,show min (a.size-(a.size-n)) a.size-(n-m)=m by omega,show a.size-(a.size-n)-m=n-m by omega]
theorem MhA.more_a{m:Nat}(h:MhA rk a b out na nb)(ua:Up rk a.toList)(ub:Up rk b.toList)(hm:m≤na)(hb:0<nb)(hx:∀i,m≤i→i<na→Af rk b (nb-1)≤Af rk a i):MhA rk a b (out++(a.extract m na).reverse) m nb:=by
 have h1:=h.la
 have h2:=h.lb
 refine⟨?_,by omega,h2⟩
 have:=h.mg.more_a (k:=na-m) (E2 ua) (E2 ub) (by rw[Array.size_reverse];omega) (by rw[Array.size_reverse];omega) fun i hi=>by
  have e1:=Rl (rk:=rk) (a:=a) (i:=na-1-i) (by omega)
  have e2:=Rl (rk:=rk) (a:=b) (i:=nb-1) (by omega)
  rw[show a.size-1-(na-1-i)=a.size-na+i by omega] at e1
  rw[show b.size-1-(nb-1)=b.size-nb by omega] at e2
  have:=hx (na-1-i) (by omega) (by omega)
  omega
 show Mg _ _ _ (out++(a.extract m na).reverse).toList _ _
 rw[Array.toList_append,←Vj hm h1,←Array.toList_append,show a.size-m=a.size-na+(na-m) by omega]
 exact this
theorem MhA.swap(h:MhA rk a b out na nb):MhA rk b a out nb na:=⟨h.mg.swap,h.lb,h.la⟩
theorem MhA.more_b{m:Nat}(h:MhA rk a b out na nb)(ua:Up rk a.toList)(ub:Up rk b.toList)(hm:m≤nb)(ha:0<na)(hx:∀i,m≤i→i<nb→Af rk a (na-1)≤Af rk b i):MhA rk a b (out++(b.extract m nb).reverse) na m:=(h.swap.more_a ub ua hm ha hx).swap
theorem MhA.one_a(h:MhA rk a b out na nb)(ua:Up rk a.toList)(ub:Up rk b.toList)(ha:0<na)(hb:0<nb)(hx:Af rk b (nb-1)≤Af rk a (na-1)):MhA rk a b (out.push (a.getD (na-1) (.none,.none))) (na-1) nb:=by
 have h1:=h.la
 have:=h.more_a (m:=na-1) ua ub (by omega) hb fun i i1 i2=>by rw[show i=na-1 by omega];exact hx
 refine⟨?_,this.la,this.lb⟩
 have e:(out.push (a.getD (na-1) (.none,.none))).toList=(out++(a.extract (na-1) na).reverse).toList:=by
  rw[Array.toList_append,Array.toList_push,Array.toList_reverse,show a.extract (na-1) na=a.extract (na-1) (na-1+1) by rw[show na-1+1=na by omega],Kw,Rr (by simp;omega),Gm (by omega)];rfl
 show Mg _ _ _ (out.push (a.getD (na-1) (.none,.none))).toList _ _
 rw[e];exact this.mg
theorem MhA.one_b(h:MhA rk a b out na nb)(ua:Up rk a.toList)(ub:Up rk b.toList)(ha:0<na)(hb:0<nb)(hx:Af rk a (na-1)≤Af rk b (nb-1)):MhA rk a b (out.push (b.getD (nb-1) (.none,.none))) na (nb-1):=(h.swap.one_a ub ua hb ha hx).swap
theorem Hv{a:Array Keyed}{n:Nat}:(a.extract 0 n).toList=a.toList.take n:=by
 rw[Array.toList_extract,List.extract_eq_take_drop,List.drop_zero,Nat.sub_zero]
theorem C3{a:Array Keyed}{n:Nat}(h:n≤a.size):(a.reverse.toList.drop (a.size-n)).reverse=a.toList.take n:=by
 rw[Array.toList_reverse,List.drop_reverse,List.reverse_reverse,Array.length_toList,show a.size-(a.size-n)=n by omega]
theorem MhA.fin_a(h:MhA rk a b out na nb)(ub:Up rk b.toList)(h0:na=0):MdA rk a b (a.extract 0 na++b.extract 0 nb++out.reverse):=by
 have:=h.mg.endB (E2 ub) (by rw[h0];simp)
 rw[Array.toList_reverse,Array.toList_reverse] at this
 have:=this.back
 show Merged rk _ _ (a.extract 0 na++b.extract 0 nb++out.reverse).toList
 rw[List.reverse_append,←Array.toList_reverse (xs:=b),C3 h.lb] at this
 rw[Array.toList_append,Array.toList_append,Hv,Hv,Array.toList_reverse,h0,List.take_zero,List.nil_append]
 exact this
theorem MhA.fin_b(h:MhA rk a b out na nb)(ua:Up rk a.toList)(h0:nb=0):MdA rk a b (a.extract 0 na++b.extract 0 nb++out.reverse):=by
 have:=h.mg.endA (E2 ua) (by rw[h0];simp)
 rw[Array.toList_reverse,Array.toList_reverse] at this
 have:=this.back
 show Merged rk _ _ (a.extract 0 na++b.extract 0 nb++out.reverse).toList
 rw[List.reverse_append,←Array.toList_reverse (xs:=a),C3 h.la] at this
 rw[Array.toList_append,Array.toList_append,Hv,Hv,Array.toList_reverse,h0,List.take_zero,List.append_nil]
 exact this
theorem P0{a:Array Keyed}(u:Up rk a.toList){n:Nat}{x:Keyed}(h:x∈a.toList.take n):Af rk a 0≤rk x:=by
 have hm:=List.mem_of_mem_take h
 have hp:0<a.size:=by rw[←Array.length_toList];exact List.length_pos_of_mem hm
 exact Gn u hp (by simpa using hm)
theorem MhA.fin_first(h:MhA rk a b out na nb)(ua:Up rk a.toList)(ub:Up rk b.toList)(h1:nb=1)(h0:Af rk b 0≤Af rk a 0):MdA rk a b (b.extract 0 nb++a.extract 0 na++out.reverse):=by
 have hlb:=h.lb
 have:=h.mg.swap.lastA (E2 ub) (E2 ua) fun x hx y hy=>by
  have hx':x∈a.toList.take na:=by rw[←C3 h.la];exact List.mem_reverse.mpr hx
  have hy':y∈b.toList.take nb:=by rw[←C3 h.lb];exact List.mem_reverse.mpr hy
  have e1:=P0 ua hx'
  have e2:rk y=Af rk b 0:=by
   rw[h1] at hy'
   obtain⟨j,j1,_,e⟩:=Oe (rk:=rk) (a:=b) (i:=0) (k:=1) (x:=y) (by simpa using hy')
   rw[e,show 0+j=0 by omega]
  omega
 rw[Array.toList_reverse,Array.toList_reverse] at this
 have:=this.swap.back
 show Merged rk _ _ (b.extract 0 nb++a.extract 0 na++out.reverse).toList
 rw[List.reverse_append,List.reverse_append,←Array.toList_reverse (xs:=a),←Array.toList_reverse (xs:=b),C3 h.la,C3 h.lb] at this
 rw[Array.toList_append,Array.toList_append,Hv,Hv,Array.toList_reverse,List.append_assoc]
 exact this
theorem MhA.size(h:MhA rk a b out na nb):out.size+na+nb=a.size+b.size:=by
 have:=h.mg.size
 have h1:=h.la
 have h2:=h.lb
 omega
end
end D3
set_option maxRecDepth 100000
set_option maxHeartbeats 1000000
namespace D3
open PySem PySem.Spec
open PyProof.Rows
def K9:Array Keyed→Array Keyed→StateT SortSt Sem (Array Keyed):=sortPriv% PySem.Builtin.mergeHi
section
variable{P:Program}{w:World}{A:Around}{E:Value→Shared→Prop}{s:Shared}{kd:SortKind}{ok:Keyed→Prop}{rk:Keyed→Int}
theorem L6{a b:Array Keyed}{st:SortSt}{Q:Array Keyed→SortSt→Prop}(ask:Fo P w A E s kd ok rk)(hk:kindOf st=kd)(okA:∀x∈a,ok x)(okB:∀x∈b,ok x)(ua:Up rk a.toList)(ub:Up rk b.toList)(a1:1≤a.size)(b1:1≤b.size)(h0:Af rk b 0≤Af rk a 0)(hl:Af rk b (b.size-1)≤Af rk a (a.size-1))(q:∀r st',MdA rk a b r→Like st st'→Q r st'):wpS (model P w) A E s (K9 a b) Q st:=by
 have m0:MhA rk a b #[] a.size b.size:=⟨by rw[Nat.sub_self,Nat.sub_self];exact⟨by simp,List.Pairwise.nil,fun x hx=>by simp at hx,fun x hx=>by simp at hx,Nat.zero_le _,Nat.zero_le _⟩,Nat.le_refl _,Nat.le_refl _⟩
 have m1:MhA rk a b #[a.getD (a.size-1) (.none,.none)] (a.size-1) b.size:=m0.one_a ua ub (by omega) (by omega) hl
 have kn:∀{st'},Like st st'→kindOf st'=kd:=fun l=>l.kind.trans hk
 delta K9
 refine wpS_bind (wpS_lift (wpAny_rule ⟨rfl,?_⟩))
 refine wpS_bind (Ac (by omega) ?_)
 dsimp only
 refine Ab (fun z=>wpS_pure (q _ _ (m1.fin_a ub (by simpa using z)) .refl)) fun z1=>?_
 refine Ab (fun z=>wpS_pure (q _ _ (m1.fin_first ua ub (by simpa using z) h0) .refl)) fun z2=>?_
 have z1:¬a.size-1=0:=by simpa using z1
 have z2:¬b.size=1:=by simpa using z2
 refine wpS_bind (wpS_get ?_)
 refine wpS_bind (wpS_mono (wpS_forRange (I:=fun i c st'=>Like st st'∧∃na nb out mg,c=(none,na,nb,out,mg)∧MhA rk a b out na nb∧0<na∧1<nb∧i+1≤out.size) (Q:=fun c st'=>Like st st'∧∃r v,c=(some r,v)∧MdA rk a b r) ?s1 ?f1 ⟨.refl,_,_,_,_,rfl,m1,by omega,by omega,by simp⟩) ?p1)
 case f1=>
  rintro c st' ⟨l,na,nb,out,mg,rfl,m,ha,hb,hs⟩
  exfalso
  have:=m.size
  have:max 0 (a.size+b.size)=a.size+b.size:=Nat.max_eq_right (Nat.zero_le _)
  omega
 case p1=>
  rintro c st' ⟨l,r,v,rfl,md⟩
  exact wpS_pure (q r st' md l)
 case s1=>
  rintro i c st' _ hi ⟨l,na,nb,out,mg,rfl,m,ha,hb,hs⟩
  dsimp only
  refine wpS_bind (wpS_mono (wpS_forRange (I:=fun j c st'=>Like st st'∧∃na nb out ac bc,c=(none,na,nb,out,ac,bc)∧MhA rk a b out na nb∧0<na∧1<nb∧i+1+j≤out.size) (Q:=fun c st'=>Like st st'∧((∃r v,c=(some r,v)∧MdA rk a b r)∨∃na nb out ac bc,c=(none,na,nb,out,ac,bc)∧MhA rk a b out na nb∧0<na∧1<nb∧i+2≤out.size)) ?s2 ?f2 ⟨l,na,nb,out,0,0,rfl,m,ha,hb,by omega⟩) ?p2)
  case f2=>
   rintro c st' ⟨l,na,nb,out,ac,bc,rfl,m,ha,hb,hs⟩
   have:max 0 (a.size+b.size)=a.size+b.size:=Nat.max_eq_right (Nat.zero_le _)
   exact⟨l,.inr ⟨na,nb,out,ac,bc,rfl,m,ha,hb,by omega⟩⟩
  case s2=>
   rintro j c st' _ hj ⟨l,na,nb,out,ac,bc,rfl,m,ha,hb,hs⟩
   have hla:=m.la
   have hlb:=m.lb
   have e0:=m.size
   dsimp only
   refine wpS_bind (Ac (by omega) (wpS_bind (Ac (by omega) (wpS_bind (ask _ _ _ _ (kn l) (Bk (by omega) okB) (Bk (by omega) okA) ?_)))))
   dsimp only
   by_cases z:rk (b.getD (nb-1) (.none,.none))<rk (a.getD (na-1) (.none,.none))
   ·rw[decide_eq_true z,if_pos rfl]
    refine wpS_bind (Ac (by omega) ?_)
    have m':=m.one_a ua ub ha (by omega) (Int.le_of_lt z)
    have e:=m'.size
    refine Ab (fun y=>wpS_pure ⟨l,.inl ⟨_,_,rfl,m'.fin_a ub (by simpa using y)⟩⟩) fun y=>?_
    have y:¬na-1=0:=by simpa using y
    exact Ab (fun _=>wpS_pure ⟨l,.inr ⟨_,_,_,_,_,rfl,m',by omega,hb,by omega⟩⟩) fun _=>wpS_pure ⟨l,_,_,_,_,_,rfl,m',by omega,hb,by omega⟩
   ·rw[decide_eq_false z,if_neg (by decide)]
    refine wpS_bind (Ac (by omega) ?_)
    have m':=m.one_b ua ub ha (by omega) (show Af rk a (na-1)≤Af rk b (nb-1) by unfold Af;omega)
    have e:=m'.size
    refine Ab (fun y=>wpS_pure ⟨l,.inl ⟨_,_,rfl,m'.fin_first ua ub (by simpa using y) h0⟩⟩) fun y=>?_
    have y:¬nb-1=1:=by simpa using y
    exact Ab (fun _=>wpS_pure ⟨l,.inr ⟨_,_,_,_,_,rfl,m',ha,by omega,by omega⟩⟩) fun _=>wpS_pure ⟨l,_,_,_,_,_,rfl,m',ha,by omega,by omega⟩
  case p2=>
   rintro c st' ⟨l,⟨r,v,rfl,md⟩|⟨na,nb,out,ac,bc,rfl,m,ha,hb,hs⟩⟩
   ·exact wpS_pure ⟨l,r,_,rfl,md⟩
   ·dsimp only
    refine wpS_bind (wpS_lift (wpAny_rule ⟨rfl,?_⟩))
    refine wpS_bind (wpS_mono (wpS_forRange (I:=fun j c st'=>Like st st'∧∃na nb out mg ac bc,c=(none,na,nb,out,mg,ac,bc)∧MhA rk a b out na nb∧0<na∧1<nb∧i+2≤out.size) (Q:=fun c st'=>Like st st'∧((∃r v,c=(some r,v)∧MdA rk a b r)∨∃na nb out mg ac bc,c=(none,na,nb,out,mg,ac,bc)∧MhA rk a b out na nb∧0<na∧1<nb∧i+2≤out.size)) ?s3 ?f3 ⟨l,na,nb,out,_,_,_,rfl,m,ha,hb,hs⟩) ?p3)
    case f3=>
     rintro c st' ⟨l,na,nb,out,mg,ac,bc,rfl,m,ha,hb,hs⟩
     exact⟨l,.inr ⟨na,nb,out,mg,ac,bc,rfl,m,ha,hb,hs⟩⟩
    case p3=>
     rintro c st' ⟨l,⟨r,v,rfl,md⟩|⟨na,nb,out,mg,ac,bc,rfl,m,ha,hb,hs⟩⟩
     ·exact wpS_pure ⟨l,r,_,rfl,md⟩
     ·dsimp only
      exact wpS_bind (Cv fun st2 l2=>wpS_pure ⟨l.trans l2,_,_,_,_,rfl,m,ha,hb,by omega⟩)
    case s3=>
     rintro j c st' _ hj ⟨l,na,nb,out,mg,ac,bc,rfl,m,ha,hb,hs⟩
     refine Ab (fun _=>?_) fun _=>?_
     ·refine wpS_bind (Cv fun st2 l2'=>?_)
      have l2:=l.trans l2'
      have hla:=m.la
      have hlb:=m.lb
      dsimp only
      refine wpS_bind (Ac (by omega) ?_)
      refine wpS_bind (Ap (left:=false) ask (kn l2) okA (Bk (by omega) okB) (by omega) (by omega) (Bl ua (by omega)) fun k sp=>?_)
      have le1:=sp.le
      have e0:=m.size
      dsimp only
      refine Ab (fun k0=>?_) fun k0=>?_
      ·have mA:=m.more_a (m:=k) ua ub le1 (by omega) fun i i1 i2=>by have:=bey_f.2 (sp.hi i i1 i2);rw[Nat.zero_add] at this;exact Int.le_of_lt this
       have eA:=mA.size
       refine Ab (fun y=>wpS_pure ⟨l2,.inl ⟨_,_,rfl,mA.fin_a ub (by simpa using y)⟩⟩) fun y=>?_
       have y:¬k=0:=by simpa using y
       refine wpS_bind (Ac (by omega) ?_)
       have mB:=mA.one_b ua ub (by omega) (by omega) (by have:=bey_f.1 (sp.lo (k-1) (by omega));rw[Nat.zero_add] at this;exact this)
       have eB:=mB.size
       refine Ab (fun y=>wpS_pure ⟨l2,.inl ⟨_,_,rfl,mB.fin_first ua ub (by simpa using y) h0⟩⟩) fun y=>?_
       have y:¬nb-1=1:=by simpa using y
       refine wpS_bind (Ac (by omega) ?_)
       refine wpS_bind (Ap (left:=true) ask (kn l2) okB (Bk (by omega) okA) (by omega) (by omega) (Bl ub (by omega)) fun k2 sp2=>?_)
       have le2:=sp2.le
       dsimp only
       refine Ab (fun j0=>?_) fun j0=>?_
       ·have mC:=mB.more_b (m:=k2) ua ub le2 (by omega) fun i i1 i2=>by have:=bey_t.2 (sp2.hi i i1 i2);rw[Nat.zero_add] at this;exact this
        have eC:=mC.size
        refine Ab (fun y=>wpS_pure ⟨l2,.inl ⟨_,_,rfl,mC.fin_first ua ub (by simpa using y) h0⟩⟩) fun y3=>?_
        refine Ab (fun y=>wpS_pure ⟨l2,.inl ⟨_,_,rfl,mC.fin_b ua (by simpa using y)⟩⟩) fun y4=>?_
        have y3:¬k2=1:=by simpa using y3
        have y4:¬k2=0:=by simpa using y4
        refine wpS_bind (Ac (by omega) ?_)
        have mD:=mC.one_a ua ub (by omega) (by omega) (Int.le_of_lt (by have:=bey_t.1 (sp2.lo (k2-1) (by omega));rw[Nat.zero_add] at this;exact this))
        have eD:=mD.size
        refine Ab (fun y=>wpS_pure ⟨l2,.inl ⟨_,_,rfl,mD.fin_a ub (by simpa using y)⟩⟩) fun y=>?_
        have y:¬k-1=0:=by simpa using y
        exact Ab (fun _=>wpS_pure ⟨l2,.inr ⟨_,_,_,_,_,_,rfl,mD,by omega,by omega,by omega⟩⟩) fun _=>wpS_pure ⟨l2,_,_,_,_,_,_,rfl,mD,by omega,by omega,by omega⟩
       ·obtain rfl:k2=nb-1:=by omega
        refine wpS_bind (Ac (by omega) ?_)
        have mD:=mB.one_a ua ub (by omega) (by omega) (Int.le_of_lt (by have:=bey_t.1 (sp2.lo ((nb-1)-1) (by omega));rw[Nat.zero_add] at this;exact this))
        have eD:=mD.size
        refine Ab (fun y=>wpS_pure ⟨l2,.inl ⟨_,_,rfl,mD.fin_a ub (by simpa using y)⟩⟩) fun y=>?_
        have y:¬k-1=0:=by simpa using y
        exact Ab (fun _=>wpS_pure ⟨l2,.inr ⟨_,_,_,_,_,_,rfl,mD,by omega,by omega,by omega⟩⟩) fun _=>wpS_pure ⟨l2,_,_,_,_,_,_,rfl,mD,by omega,by omega,by omega⟩
      ·obtain rfl:k=na:=by omega
       refine wpS_bind (Ac (by omega) ?_)
       have mB:=m.one_b ua ub (by omega) (by omega) (by have:=bey_f.1 (sp.lo (k-1) (by omega));rw[Nat.zero_add] at this;exact this)
       have eB:=mB.size
       refine Ab (fun y=>wpS_pure ⟨l2,.inl ⟨_,_,rfl,mB.fin_first ua ub (by simpa using y) h0⟩⟩) fun y=>?_
       have y:¬nb-1=1:=by simpa using y
       refine wpS_bind (Ac (by omega) ?_)
       refine wpS_bind (Ap (left:=true) ask (kn l2) okB (Bk (by omega) okA) (by omega) (by omega) (Bl ub (by omega)) fun k2 sp2=>?_)
       have le2:=sp2.le
       dsimp only
       refine Ab (fun j0=>?_) fun j0=>?_
       ·have mC:=mB.more_b (m:=k2) ua ub le2 (by omega) fun i i1 i2=>by have:=bey_t.2 (sp2.hi i i1 i2);rw[Nat.zero_add] at this;exact this
        have eC:=mC.size
        refine Ab (fun y=>wpS_pure ⟨l2,.inl ⟨_,_,rfl,mC.fin_first ua ub (by simpa using y) h0⟩⟩) fun y3=>?_
        refine Ab (fun y=>wpS_pure ⟨l2,.inl ⟨_,_,rfl,mC.fin_b ua (by simpa using y)⟩⟩) fun y4=>?_
        have y3:¬k2=1:=by simpa using y3
        have y4:¬k2=0:=by simpa using y4
        refine wpS_bind (Ac (by omega) ?_)
        have mD:=mC.one_a ua ub (by omega) (by omega) (Int.le_of_lt (by have:=bey_t.1 (sp2.lo (k2-1) (by omega));rw[Nat.zero_add] at this;exact this))
        have eD:=mD.size
        refine Ab (fun y=>wpS_pure ⟨l2,.inl ⟨_,_,rfl,mD.fin_a ub (by simpa using y)⟩⟩) fun y=>?_
        have y:¬k-1=0:=by simpa using y
        exact Ab (fun _=>wpS_pure ⟨l2,.inr ⟨_,_,_,_,_,_,rfl,mD,by omega,by omega,by omega⟩⟩) fun _=>wpS_pure ⟨l2,_,_,_,_,_,_,rfl,mD,by omega,by omega,by omega⟩
       ·obtain rfl:k2=nb-1:=by omega
        refine wpS_bind (Ac (by omega) ?_)
        have mD:=mB.one_a ua ub (by omega) (by omega) (Int.le_of_lt (by have:=bey_t.1 (sp2.lo ((nb-1)-1) (by omega));rw[Nat.zero_add] at this;exact this))
        have eD:=mD.size
        refine Ab (fun y=>wpS_pure ⟨l2,.inl ⟨_,_,rfl,mD.fin_a ub (by simpa using y)⟩⟩) fun y=>?_
        have y:¬k-1=0:=by simpa using y
        exact Ab (fun _=>wpS_pure ⟨l2,.inr ⟨_,_,_,_,_,_,rfl,mD,by omega,by omega,by omega⟩⟩) fun _=>wpS_pure ⟨l2,_,_,_,_,_,_,rfl,mD,by omega,by omega,by omega⟩
     ·refine wpS_bind (Cv fun st2 l2'=>?_)
      have l2:=l.trans l2'
      have hla:=m.la
      have hlb:=m.lb
      dsimp only
      refine wpS_bind (Ac (by omega) ?_)
      refine wpS_bind (Ap (left:=false) ask (kn l2) okA (Bk (by omega) okB) (by omega) (by omega) (Bl ua (by omega)) fun k sp=>?_)
      have le1:=sp.le
      have e0:=m.size
      dsimp only
      refine Ab (fun k0=>?_) fun k0=>?_
      ·have mA:=m.more_a (m:=k) ua ub le1 (by omega) fun i i1 i2=>by have:=bey_f.2 (sp.hi i i1 i2);rw[Nat.zero_add] at this;exact Int.le_of_lt this
       have eA:=mA.size
       refine Ab (fun y=>wpS_pure ⟨l2,.inl ⟨_,_,rfl,mA.fin_a ub (by simpa using y)⟩⟩) fun y=>?_
       have y:¬k=0:=by simpa using y
       refine wpS_bind (Ac (by omega) ?_)
       have mB:=mA.one_b ua ub (by omega) (by omega) (by have:=bey_f.1 (sp.lo (k-1) (by omega));rw[Nat.zero_add] at this;exact this)
       have eB:=mB.size
       refine Ab (fun y=>wpS_pure ⟨l2,.inl ⟨_,_,rfl,mB.fin_first ua ub (by simpa using y) h0⟩⟩) fun y=>?_
       have y:¬nb-1=1:=by simpa using y
       refine wpS_bind (Ac (by omega) ?_)
       refine wpS_bind (Ap (left:=true) ask (kn l2) okB (Bk (by omega) okA) (by omega) (by omega) (Bl ub (by omega)) fun k2 sp2=>?_)
       have le2:=sp2.le
       dsimp only
       refine Ab (fun j0=>?_) fun j0=>?_
       ·have mC:=mB.more_b (m:=k2) ua ub le2 (by omega) fun i i1 i2=>by have:=bey_t.2 (sp2.hi i i1 i2);rw[Nat.zero_add] at this;exact this
        have eC:=mC.size
        refine Ab (fun y=>wpS_pure ⟨l2,.inl ⟨_,_,rfl,mC.fin_first ua ub (by simpa using y) h0⟩⟩) fun y3=>?_
        refine Ab (fun y=>wpS_pure ⟨l2,.inl ⟨_,_,rfl,mC.fin_b ua (by simpa using y)⟩⟩) fun y4=>?_
        have y3:¬k2=1:=by simpa using y3
        have y4:¬k2=0:=by simpa using y4
        refine wpS_bind (Ac (by omega) ?_)
        have mD:=mC.one_a ua ub (by omega) (by omega) (Int.le_of_lt (by have:=bey_t.1 (sp2.lo (k2-1) (by omega));rw[Nat.zero_add] at this;exact this))
        have eD:=mD.size
        refine Ab (fun y=>wpS_pure ⟨l2,.inl ⟨_,_,rfl,mD.fin_a ub (by simpa using y)⟩⟩) fun y=>?_
        have y:¬k-1=0:=by simpa using y
        exact Ab (fun _=>wpS_pure ⟨l2,.inr ⟨_,_,_,_,_,_,rfl,mD,by omega,by omega,by omega⟩⟩) fun _=>wpS_pure ⟨l2,_,_,_,_,_,_,rfl,mD,by omega,by omega,by omega⟩
       ·obtain rfl:k2=nb-1:=by omega
        refine wpS_bind (Ac (by omega) ?_)
        have mD:=mB.one_a ua ub (by omega) (by omega) (Int.le_of_lt (by have:=bey_t.1 (sp2.lo ((nb-1)-1) (by omega));rw[Nat.zero_add] at this;exact this))
        have eD:=mD.size
        refine Ab (fun y=>wpS_pure ⟨l2,.inl ⟨_,_,rfl,mD.fin_a ub (by simpa using y)⟩⟩) fun y=>?_
        have y:¬k-1=0:=by simpa using y
        exact Ab (fun _=>wpS_pure ⟨l2,.inr ⟨_,_,_,_,_,_,rfl,mD,by omega,by omega,by omega⟩⟩) fun _=>wpS_pure ⟨l2,_,_,_,_,_,_,rfl,mD,by omega,by omega,by omega⟩
      ·obtain rfl:k=na:=by omega
       refine wpS_bind (Ac (by omega) ?_)
       have mB:=m.one_b ua ub (by omega) (by omega) (by have:=bey_f.1 (sp.lo (k-1) (by omega));rw[Nat.zero_add] at this;exact this)
       have eB:=mB.size
       refine Ab (fun y=>wpS_pure ⟨l2,.inl ⟨_,_,rfl,mB.fin_first ua ub (by simpa using y) h0⟩⟩) fun y=>?_
       have y:¬nb-1=1:=by simpa using y
       refine wpS_bind (Ac (by omega) ?_)
       refine wpS_bind (Ap (left:=true) ask (kn l2) okB (Bk (by omega) okA) (by omega) (by omega) (Bl ub (by omega)) fun k2 sp2=>?_)
       have le2:=sp2.le
       dsimp only
       refine Ab (fun j0=>?_) fun j0=>?_
       ·have mC:=mB.more_b (m:=k2) ua ub le2 (by omega) fun i i1 i2=>by have:=bey_t.2 (sp2.hi i i1 i2);rw[Nat.zero_add] at this;exact this
        have eC:=mC.size
        refine Ab (fun y=>wpS_pure ⟨l2,.inl ⟨_,_,rfl,mC.fin_first ua ub (by simpa using y) h0⟩⟩) fun y3=>?_
        refine Ab (fun y=>wpS_pure ⟨l2,.inl ⟨_,_,rfl,mC.fin_b ua (by simpa using y)⟩⟩) fun y4=>?_
        have y3:¬k2=1:=by simpa using y3
        have y4:¬k2=0:=by simpa using y4
        refine wpS_bind (Ac (by omega) ?_)
        have mD:=mC.one_a ua ub (by omega) (by omega) (Int.le_of_lt (by have:=bey_t.1 (sp2.lo (k2-1) (by omega));rw[Nat.zero_add] at this;exact this))
        have eD:=mD.size
        refine Ab (fun y=>wpS_pure ⟨l2,.inl ⟨_,_,rfl,mD.fin_a ub (by simpa using y)⟩⟩) fun y=>?_
        have y:¬k-1=0:=by simpa using y
        exact Ab (fun _=>wpS_pure ⟨l2,.inr ⟨_,_,_,_,_,_,rfl,mD,by omega,by omega,by omega⟩⟩) fun _=>wpS_pure ⟨l2,_,_,_,_,_,_,rfl,mD,by omega,by omega,by omega⟩
       ·obtain rfl:k2=nb-1:=by omega
        refine wpS_bind (Ac (by omega) ?_)
        have mD:=mB.one_a ua ub (by omega) (by omega) (Int.le_of_lt (by have:=bey_t.1 (sp2.lo ((nb-1)-1) (by omega));rw[Nat.zero_add] at this;exact this))
        have eD:=mD.size
        refine Ab (fun y=>wpS_pure ⟨l2,.inl ⟨_,_,rfl,mD.fin_a ub (by simpa using y)⟩⟩) fun y=>?_
        have y:¬k-1=0:=by simpa using y
        exact Ab (fun _=>wpS_pure ⟨l2,.inr ⟨_,_,_,_,_,_,rfl,mD,by omega,by omega,by omega⟩⟩) fun _=>wpS_pure ⟨l2,_,_,_,_,_,_,rfl,mD,by omega,by omega,by omega⟩
end
end D3
set_option maxRecDepth 100000
set_option maxHeartbeats 1000000
namespace D3
open PySem PySem.Spec
open PyProof.Rows
def Ip:Nat→Nat→StateT SortSt Sem (Option Nat):=sortPriv% PySem.Builtin.countRun
def Fl:Nat→Nat→Nat→StateT SortSt Sem Bool:=sortPriv% PySem.Builtin.binarySort
def UpSeg(rk:Keyed→Int)(arr:Array Keyed)(lo hi:Nat):Prop:=∀i j,lo≤i→i≤j→j<hi→Af rk arr i≤Af rk arr j
structure Bas(rk:Keyed→Int)(kd:SortKind)(ok:Keyed→Prop)(a0:Array Keyed)(st:SortSt):Prop where
 kind:kindOf st=kd
 perm:(arrOf st).Perm a0
 fail:failedOf st=none
 okA:∀x∈a0,ok x
 dist:(a0.toList.map rk).Nodup
section
variable{P:Program}{w:World}{A:Around}{E:Value→Shared→Prop}{s:Shared}{kd:SortKind}{ok:Keyed→Prop}{rk:Keyed→Int}{a0:Array Keyed}{st:SortSt}
theorem Bas.size(b:Bas rk kd ok a0 st):(arrOf st).size=a0.size:=b.perm.size_eq
theorem Bas.oks(b:Bas rk kd ok a0 st):∀x∈arrOf st,ok x:=fun x hx=>b.okA x (b.perm.mem_iff.mp hx)
theorem Bas.ne(b:Bas rk kd ok a0 st){i j:Nat}(hij:i<j)(hj:j<(arrOf st).size):Af rk (arrOf st) i≠Af rk (arrOf st) j:=by
 have nd:((arrOf st).toList.map rk).Nodup:=((Array.perm_iff_toList_perm.mp b.perm).map rk).nodup_iff.mpr b.dist
 rw[C6 (show i<(arrOf st).size by omega),C6 hj]
 have:=List.pairwise_iff_getElem.mp nd i j (by simp;omega) (by simp;omega) hij
 simpa using this
theorem C0{i j:Nat}{Q:Option Bool→SortSt→Prop}(ask:Fo P w A E s kd ok rk)(b:Bas rk kd ok a0 st)(hi:i<a0.size)(hj:j<a0.size)(q:Q (some (decide (Af rk (arrOf st) i<Af rk (arrOf st) j))) st):wpS (model P w) A E s (ltAt' i j) Q st:=by
 have e:=b.size
 rw[ltAt'_eq]
 refine wpS_bind (wpS_get ?_)
 refine wpS_bind (Ac (by omega) (wpS_bind (Ac (by omega) ?_)))
 exact ask _ _ _ _ b.kind (Bk (by omega) b.oks) (Bk (by omega) b.oks) q
structure Ahead(lo:Nat)(st st':SortSt):Prop where
 at_:∀i,i<lo→(arrOf st')[i]? = (arrOf st)[i]?
 pend:pendingOf st'=pendingOf st
theorem Ahead.refl{lo:Nat}{st:SortSt}:Ahead lo st st:=⟨fun _ _=>rfl,rfl⟩
theorem Ahead.trans{lo:Nat}{st st' st'':SortSt}(h:Ahead lo st st')(g:Ahead lo st' st''):Ahead lo st st'':=⟨fun i hi=>(g.at_ i hi).trans (h.at_ i hi),g.pend.trans h.pend⟩
theorem Bp{a b:Array Keyed}{i j:Nat}(h:a[i]? = b[j]?):Af rk a i=Af rk b j:=by
 unfold Af
 rw[Array.getD_eq_getD_getElem?,Array.getD_eq_getD_getElem?,h]
theorem N1{arr:Array Keyed}{lo n:Nat}(u:UpSeg rk arr lo (lo+n))(hn:1≤n)(h:Af rk arr (lo+n-1)≤Af rk arr (lo+n)):UpSeg rk arr lo (lo+n+1):=fun i j h1 h2 h3=>by
 by_cases z:j<lo+n
 ·exact u i j h1 h2 z
 ·by_cases y:i=j
  ·subst y;exact Int.le_refl _
  ·have e:j=lo+n:=by omega
   subst e
   have:=u i (lo+n-1) h1 (by omega) (by omega)
   omega
theorem Uh{M:Model}{i j:Nat}{Q:Unit→SortSt→Prop}(h:Q () (setArr st (mirror (arrOf st) i j ((j-i) / 2)))):wpS M A E s (reverseSlice' i j) Q st:=by
 rw[reverseSlice'_eq];exact wpS_modify h
theorem Bas.arr(b:Bas rk kd ok a0 st){xs:Array Keyed}(h:xs.Perm (arrOf st)):Bas rk kd ok a0 (setArr st xs):=⟨b.kind,h.trans b.perm,b.fail,b.okA,b.dist⟩
theorem Ke{lo nrem:Nat}{Q:Option Nat→SortSt→Prop}(ask:Fo P w A E s kd ok rk)(b:Bas rk kd ok a0 st)(h1:1≤nrem)(hs:lo+nrem≤a0.size)(q:∀n st',Bas rk kd ok a0 st'→Ahead lo st st'→1≤n→n≤nrem→UpSeg rk (arrOf st') lo (lo+n)→Q (some n) st'):wpS (model P w) A E s (Ip lo nrem) Q st:=by
 delta Ip
 refine wpS_bind (wpS_mono (wpS_forRange (I:=fun i c st'=>st=st'∧∃n,c=(none,n)∧n=i∧n≤nrem∧UpSeg rk (arrOf st) lo (lo+n)) (Q:=fun c st'=>st=st'∧∃n,c=(none,n)∧1≤n∧n≤nrem∧UpSeg rk (arrOf st) lo (lo+n)∧(n<nrem→Af rk (arrOf st) (lo+n)<Af rk (arrOf st) (lo+n-1))) ?s1 ?f1 ⟨rfl,1,rfl,rfl,h1,fun i j a1 a2 a3=>by rw[show i=j by omega];exact Int.le_refl _⟩) ?p1)
 case f1=>
  rintro c st' ⟨rfl,n,rfl,hn,h2,u⟩
  exact⟨rfl,n,rfl,by omega,h2,u,fun z=>by omega⟩
 case s1=>
  rintro i c st' hi1 hi2 ⟨rfl,n,rfl,rfl,h2,u⟩
  dsimp only
  refine wpS_bind (C0 ask b (by omega) (by omega) ?_)
  dsimp only
  by_cases z:Af rk (arrOf st) (lo+n)<Af rk (arrOf st) (lo+n-1)
  ·rw[decide_eq_true z,if_pos rfl]
   exact wpS_pure ⟨rfl,n,rfl,hi1,h2,u,fun _=>z⟩
  ·rw[decide_eq_false z,if_neg (by decide)]
   exact wpS_pure ⟨rfl,n+1,rfl,rfl,by omega,N1 u hi1 (by omega)⟩
 case p1=>
  rintro c st' ⟨rfl,n,rfl,n1,n2,u,last⟩
  dsimp only
  refine Ab (fun z=>wpS_pure (q n st b .refl n1 n2 u)) fun z=>?_
  have z:¬n=nrem:=by simpa using z
  have bs:=b.size
  refine Ab (fun g=>?_) fun g=>?_
  ·refine wpS_bind (C0 ask b (by omega) (by omega) ?_)
   dsimp only
   have e1:=u lo (lo+n-1) (Nat.le_refl _) (by omega) (by omega)
   have e2:=b.ne (i:=lo) (j:=lo+n-1) (by omega) (by omega)
   rw[decide_eq_true (show Af rk (arrOf st) lo<Af rk (arrOf st) (lo+n-1) by omega),if_pos rfl]
   exact wpS_pure (q n st b .refl n1 n2 u)
  ·obtain rfl:n=1:=by omega
   refine wpS_bind (wpS_lift (wpAny_rule ⟨rfl,?_⟩))
   have l0:=last (by omega)
   refine wpS_bind (wpS_mono (wpS_forRange (I:=fun i c st'=>st=st'∧∃m,c=(none,m,0)∧m=i∧m≤nrem∧∀i j,lo≤i→i≤j→j<lo+m→Af rk (arrOf st) j≤Af rk (arrOf st) i) (Q:=fun c st'=>st=st'∧∃m,c=(none,m,0)∧2≤m∧m≤nrem∧∀i j,lo≤i→i≤j→j<lo+m→Af rk (arrOf st) j≤Af rk (arrOf st) i) ?s2 ?f2 ⟨rfl,1+1,rfl,rfl,by omega,?d0⟩) ?p2)
   case d0=>
    intro i j a1 a2 a3
    by_cases y:i=j
    ·subst y;exact Int.le_refl _
    ·rw[show i=lo by omega,show j=lo+1 by omega]
     rw[show lo+1-1=lo by omega] at l0
     omega
   case f2=>
    rintro c st' ⟨rfl,m,rfl,hm,h2,dn⟩
    exact⟨rfl,m,rfl,by omega,h2,dn⟩
   case s2=>
    rintro i c st' hi1 hi2 ⟨rfl,m,rfl,rfl,h2,dn⟩
    dsimp only
    refine wpS_bind (C0 ask b (by omega) (by omega) ?_)
    dsimp only
    by_cases y:Af rk (arrOf st) (lo+m)<Af rk (arrOf st) (lo+m-1)
    ·rw[decide_eq_true y,if_pos rfl,if_neg (by decide)]
     refine wpS_pure ⟨rfl,m+1,rfl,rfl,by omega,fun i j a1 a2 a3=>?_⟩
     by_cases x:j<lo+m
     ·exact dn i j a1 a2 x
     ·by_cases x2:i=j
      ·subst x2;exact Int.le_refl _
      ·have:=dn i (lo+m-1) a1 (by omega) (by omega)
       rw[show j=lo+m by omega];omega
    ·rw[decide_eq_false y,if_neg (by decide)]
     refine wpS_bind (C0 ask b (by omega) (by omega) ?_)
     dsimp only
     have e2:=b.ne (i:=lo+m-1) (j:=lo+m) (by omega) (by omega)
     rw[decide_eq_true (show Af rk (arrOf st) (lo+m-1)<Af rk (arrOf st) (lo+m) by omega),if_pos rfl]
     exact wpS_pure ⟨rfl,m,rfl,hi1,h2,dn⟩
   case p2=>
    rintro c st' ⟨rfl,m,rfl,m1,m2,dn⟩
    dsimp only
    rw[if_neg (by decide)]
    refine wpS_bind (Uh ?_)
    have b2:=b.arr (mirror_perm (arrOf st) lo (lo+m) ((lo+m-lo) / 2))
    have gt:∀k,(mirror (arrOf st) lo (lo+m) ((lo+m-lo) / 2))[k]? = if lo≤k∧k<lo+m then (arrOf st)[lo+(lo+m)-1-k]? else (arrOf st)[k]?:=getElem?_mirror_all (by omega)
    have a2:Ahead lo st (setArr st (mirror (arrOf st) lo (lo+m) ((lo+m-lo) / 2))):=⟨fun i hi=>by show(mirror _ _ _ _)[i]? = _;rw[gt i,if_neg (by omega)],rfl⟩
    have u2:UpSeg rk (mirror (arrOf st) lo (lo+m) ((lo+m-lo) / 2)) lo (lo+m):=fun i j a1 a2 a3=>by
     have gi:=gt i
     have gj:=gt j
     rw[if_pos (by omega)] at gi gj
     rw[Bp gi,Bp gj]
     exact dn _ _ (by omega) (by omega) (by omega)
    have s2:arrOf (setArr st (mirror (arrOf st) lo (lo+m) ((lo+m-lo) / 2)))=mirror (arrOf st) lo (lo+m) ((lo+m-lo) / 2):=rfl
    rw[←s2] at u2
    generalize setArr st (mirror (arrOf st) lo (lo+m) ((lo+m-lo) / 2))=st2 at *
    refine wpS_bind (wpS_mono (wpS_forRange (I:=fun i c st'=>st2=st'∧∃n,c=(none,n)∧n=i∧n≤nrem∧UpSeg rk (arrOf st2) lo (lo+n)) (Q:=fun c st'=>st2=st'∧∃n,c=(none,n)∧1≤n∧n≤nrem∧UpSeg rk (arrOf st2) lo (lo+n)) ?s3 ?f3 ⟨rfl,m,rfl,rfl,m2,u2⟩) ?p3)
    case f3=>
     rintro c st' ⟨rfl,n,rfl,hn,h2,u⟩
     exact⟨rfl,n,rfl,by omega,h2,u⟩
    case s3=>
     rintro i c st' hi1 hi2 ⟨rfl,n,rfl,rfl,h2,u⟩
     dsimp only
     refine wpS_bind (C0 ask b2 (by omega) (by omega) ?_)
     dsimp only
     by_cases z:Af rk (arrOf st2) (lo+n)<Af rk (arrOf st2) (lo+n-1)
     ·rw[decide_eq_true z,if_pos rfl]
      exact wpS_pure ⟨rfl,n,rfl,by omega,h2,u⟩
     ·rw[decide_eq_false z,if_neg (by decide)]
      exact wpS_pure ⟨rfl,n+1,rfl,rfl,by omega,N1 u (by omega) (by omega)⟩
    case p3=>
     rintro c st' ⟨rfl,n,rfl,h1,h2,u⟩
     exact wpS_pure (q n st2 b2 a2 h1 h2 u)
theorem S8{M:Model}{i j:Nat}{Q:Unit→SortSt→Prop}(h:Q () (setArr st (bubble (arrOf st) i (i-j)))):wpS M A E s (moveDown' i j) Q st:=by
 rw[moveDown'_eq];exact wpS_modify h
theorem Hj{lo n g:Nat}{Q:Bool→SortSt→Prop}(ask:Fo P w A E s kd ok rk)(b:Bas rk kd ok a0 st)(hg:1≤g)(hgn:g≤n)(hs:lo+n≤a0.size)(u:UpSeg rk (arrOf st) lo (lo+g))(q:∀st',Bas rk kd ok a0 st'→Ahead lo st st'→UpSeg rk (arrOf st') lo (lo+n)→Q true st'):wpS (model P w) A E s (Fl lo n g) Q st:=by
 delta Fl
 refine wpS_bind (wpS_mono (wpS_forRange (I:=fun k c st'=>Bas rk kd ok a0 st'∧Ahead lo st st'∧c=(none,())∧UpSeg rk (arrOf st') lo (lo+k)) (Q:=fun c st'=>Bas rk kd ok a0 st'∧Ahead lo st st'∧c=(none,())∧UpSeg rk (arrOf st') lo (lo+n)) ?s1 ?f1 ⟨b,.refl,rfl,by rw[Nat.max_eq_left hg];exact u⟩) ?p1)
 case f1=>
  rintro c st' ⟨b1,a1,rfl,u1⟩
  refine⟨b1,a1,rfl,?_⟩
  rw[show max (max g 1) n=n by omega] at u1
  exact u1
 case p1=>
  rintro c st' ⟨b1,a1,rfl,u1⟩
  exact wpS_pure (q st' b1 a1 u1)
 case s1=>
  rintro k c st1 hk1 hk2 ⟨b1,a1,rfl,u1⟩
  have bs:=b1.size
  dsimp only
  refine wpS_bind (wpS_mono (wpS_forRange (I:=fun i c st'=>st1=st'∧∃l r,c=(none,l,r)∧l≤r∧r≤k∧r-l≤k-i∧(∀j,j<l→Af rk (arrOf st1) (lo+j)≤Af rk (arrOf st1) (lo+k))∧∀j,r≤j→j<k→Af rk (arrOf st1) (lo+k)<Af rk (arrOf st1) (lo+j)) (Q:=fun c st'=>st1=st'∧∃l,c=(none,l,l)∧l≤k∧(∀j,j<l→Af rk (arrOf st1) (lo+j)≤Af rk (arrOf st1) (lo+k))∧∀j,l≤j→j<k→Af rk (arrOf st1) (lo+k)<Af rk (arrOf st1) (lo+j)) ?s2 ?f2 ⟨rfl,0,k,rfl,by omega,by omega,by omega,fun j hj=>absurd hj (by omega),fun j h1 h2=>absurd h1 (by omega)⟩) ?p2)
  case f2=>
   rintro c st' ⟨rfl,l,r,rfl,h1,h2,h3,h4,h5⟩
   have:max 0 k=k:=Nat.max_eq_right (Nat.zero_le _)
   obtain rfl:l=r:=by omega
   exact⟨rfl,l,rfl,h2,h4,h5⟩
  case s2=>
   rintro i c st' _ hi ⟨rfl,l,r,rfl,h1,h2,h3,h4,h5⟩
   dsimp only
   refine Ab (fun z=>?_) fun z=>?_
   ·obtain rfl:l=r:=by omega
    exact wpS_pure ⟨rfl,l,rfl,h2,h4,h5⟩
   ·refine wpS_bind (C0 ask b1 (by omega) (by omega) ?_)
    dsimp only
    by_cases y:Af rk (arrOf st1) (lo+k)<Af rk (arrOf st1) (lo+(l+r) / 2)
    ·rw[decide_eq_true y,if_pos rfl]
     exact wpS_pure ⟨rfl,l,_,rfl,by omega,by omega,by omega,h4,fun j j1 j2=>by
      have:=u1 (lo+(l+r) / 2) (lo+j) (by omega) (by omega) (by omega);omega⟩
    ·rw[decide_eq_false y,if_neg (by decide)]
     exact wpS_pure ⟨rfl,_,r,rfl,by omega,h2,by omega,fun j j1=>by
      have:=u1 (lo+j) (lo+(l+r) / 2) (by omega) (by omega) (by omega);omega,h5⟩
  case p2=>
   rintro c st' ⟨rfl,l,rfl,h2,h4,h5⟩
   dsimp only
   refine wpS_bind (S8 ?_)
   have gt:∀x,(bubble (arrOf st1) (lo+k) (lo+k-(lo+l)))[x]? = if x=lo+k-(lo+k-(lo+l)) then (arrOf st1)[lo+k]? else if lo+k-(lo+k-(lo+l))<x∧x≤lo+k then (arrOf st1)[x-1]? else (arrOf st1)[x]?:=getElem?_bubble (by omega) _ (by omega)
   refine wpS_pure ⟨b1.arr (bubble_perm _ _ _),a1.trans ⟨fun i hi=>by show(bubble _ _ _)[i]? = _;rw[gt i,if_neg (by omega),if_neg (by omega)],rfl⟩,rfl,fun i j i1 i2 i3=>?_⟩
   show Af rk (bubble (arrOf st1) (lo+k) (lo+k-(lo+l))) i≤Af rk (bubble (arrOf st1) (lo+k) (lo+k-(lo+l))) j
   have gi:=gt i
   have gj:=gt j
   by_cases x1:i=lo+l
   ·rw[if_pos (by omega)] at gi
    rw[Bp gi]
    by_cases x2:j=lo+l
    ·rw[if_pos (by omega)] at gj;rw[Bp gj];exact Int.le_refl _
    ·rw[if_neg (by omega),if_pos (by omega)] at gj
     rw[Bp gj]
     have:=h5 (j-1-lo) (by omega) (by omega)
     rw[show lo+(j-1-lo)=j-1 by omega] at this
     omega
   ·by_cases x2:j=lo+l
    ·rw[if_pos (by omega)] at gj
     rw[if_neg (by omega),if_neg (by omega)] at gi
     rw[Bp gi,Bp gj]
     have:=h4 (i-lo) (by omega)
     rw[show lo+(i-lo)=i by omega] at this
     exact this
    ·by_cases x3:i<lo+l
     ·rw[if_neg (by omega),if_neg (by omega)] at gi
      rw[Bp gi]
      by_cases x4:j<lo+l
      ·rw[if_neg (by omega),if_neg (by omega)] at gj
       rw[Bp gj];exact u1 i j i1 i2 (by omega)
      ·rw[if_neg (by omega),if_pos (by omega)] at gj
       rw[Bp gj];exact u1 i (j-1) i1 (by omega) (by omega)
     ·rw[if_neg (by omega),if_pos (by omega)] at gi
      rw[if_neg (by omega),if_pos (by omega)] at gj
      rw[Bp gi,Bp gj]
      exact u1 (i-1) (j-1) (by omega) (by omega) (by omega)
end
end D3
set_option maxRecDepth 100000
set_option maxHeartbeats 1000000
namespace D3
open PySem PySem.Spec
open PyProof.Rows
section
variable{P:Program}{w:World}{A:Around}{E:Value→Shared→Prop}{s:Shared}{kd:SortKind}{ok:Keyed→Prop}{rk:Keyed→Int}{a0:Array Keyed}{st:SortSt}
theorem T7{M:Model}{x:SortSt}{Q:PUnit→SortSt→Prop}(h:Q ⟨⟩ x):wpS M A E s (set x:StateT SortSt Sem PUnit) Q st:=by
 unfold wpS;rw[StateT.run_set];exact wpAny_pure ⟨rfl,h⟩
theorem N8{α:Type}{base:Nat}:∀{m:List α} {k:Nat} {arr:Array α} {x:Nat},((m.zipIdx k).foldl (fun a y=>a.setIfInBounds (base+y.2) y.1) arr)[x]? = if base+k≤x∧x<base+k+m.length∧x<arr.size then m[x-base-k]? else arr[x]?
 |[],k,arr,x=>by
  rw[if_neg (by simp only[List.length_nil];omega)];rfl
 |p::r,k,arr,x=>by
  rw[List.zipIdx_cons,List.foldl_cons,N8 (m:=r) (k:=k+1)]
  rw[Array.size_setIfInBounds,Array.getElem?_setIfInBounds,List.length_cons]
  by_cases z:base+(k+1)≤x∧x<base+(k+1)+r.length∧x<arr.size
  ·rw[if_pos z,if_pos (by omega),show x-base-k=(x-base-(k+1))+1 by omega];rfl
  ·rw[if_neg z]
   by_cases y:base+k=x
   ·rw[if_pos y]
    by_cases v:x<arr.size
    ·rw[if_pos (by omega),if_pos (by omega),show x-base-k=0 by omega];rfl
    ·rw[if_neg (by omega),if_neg (by omega),Array.getElem?_eq_none (by omega)]
   ·rw[if_neg y,if_neg (by omega)]
def Fh(base:Nat)(m:Array Keyed)(arr:Array Keyed):Array Keyed:=m.toList.zipIdx.foldl (fun a y=>a.setIfInBounds (base+y.2) y.1) arr
theorem Id{base:Nat}{m arr:Array Keyed}(h:base+m.size≤arr.size)(x:Nat):(Fh base m arr)[x]? = if base≤x∧x<base+m.size then m[x-base]? else arr[x]?:=by
 unfold Fh
 rw[N8,Array.length_toList,Nat.add_zero,Nat.sub_zero]
 by_cases z:base≤x∧x<base+m.size
 ·rw[if_pos (by omega),if_pos z,Array.getElem?_toList]
 ·rw[if_neg (by omega),if_neg z]
theorem M6{base:Nat}{m arr:Array Keyed}(h:base+m.size≤arr.size):(Fh base m arr).toList=arr.toList.take base++m.toList++arr.toList.drop (base+m.size):=by
 apply List.ext_getElem?
 intro x
 rw[Array.getElem?_toList,Id h,List.append_assoc]
 by_cases z1:x<base
 ·rw[if_neg (by omega),List.getElem?_append_left (by simp;omega),List.getElem?_take_of_lt z1,Array.getElem?_toList]
 ·rw[List.getElem?_append_right (by simp;omega),List.length_take,Array.length_toList,Nat.min_eq_left (by omega)]
  by_cases z2:x<base+m.size
  ·rw[if_pos (by omega),List.getElem?_append_left (by simp;omega),Array.getElem?_toList]
  ·rw[if_neg (by omega),List.getElem?_append_right (by simp;omega),List.getElem?_drop,Array.length_toList,Array.getElem?_toList]
   congr 1;omega
theorem Vn{L:List Keyed}{i j k:Nat}:L.take i++((L.drop i).take j++(L.drop (i+j)).take k)++L.drop (i+(j+k))=L:=by
 have e1:(L.drop (i+j)).take k++L.drop (i+(j+k))=L.drop (i+j):=by
  rw[show L.drop (i+(j+k))=(L.drop (i+j)).drop k by rw[List.drop_drop];congr 1;omega,List.take_append_drop]
 rw[List.append_assoc,List.append_assoc,e1,show L.drop (i+j)=(L.drop i).drop j by rw[List.drop_drop],List.take_append_drop,List.take_append_drop]
theorem Bq{a:Array Keyed}{i j x:Nat}(hj:j≤a.size)(hx:i+x<j):Af rk (a.extract i j) x=Af rk a (i+x):=by
 apply Bp
 rw[Array.getElem?_extract,if_pos (by omega)]
theorem Ev{a:Array Keyed}{i j:Nat}(hj:j≤a.size):(a.extract i j).size=j-i:=by
 rw[Array.size_extract];omega
theorem Hz{a:Array Keyed}(h:∀i j,i≤j→j<a.size→Af rk a i≤Af rk a j):Up rk a.toList:=by
 refine List.pairwise_iff_getElem.mpr fun i j hi hj hij=>?_
 have hj':j<a.size:=by simpa using hj
 have:=h i j (by omega) hj'
 rw[C6 (by omega),C6 hj'] at this
 exact this
theorem Fd{a:Array Keyed}{x:Keyed}(h:x∈a.toList):∃i,i<a.size∧rk x=Af rk a i:=by
 obtain⟨i,hi,e⟩:=List.getElem_of_mem h
 have hi':i<a.size:=by simpa using hi
 exact⟨i,hi',by rw[C6 hi',e]⟩
theorem P1{a:Array Keyed}{i:Nat}(h:i<a.size):a.getD i (.none,.none)∈a.toList:=by
 rw[Gm h];exact List.getElem_mem _
theorem Ia{arr r:Array Keyed}{sa k na nb n2:Nat}(hs:sa+na+nb≤arr.size)(u1:UpSeg rk arr sa (sa+na))(u2:UpSeg rk arr (sa+na) (sa+na+nb))(hk:k<na)(h2:0<n2)(hn:n2≤nb)(lo1:∀i,i<k→Af rk arr (sa+i)≤Af rk arr (sa+na))(hi2:∀i,n2≤i→i<nb→Af rk arr (sa+na-1)≤Af rk arr (sa+na+i))(md:MdA rk (arr.extract (sa+k) (sa+na)) (arr.extract (sa+na) (sa+na+n2)) r):(Fh (sa+k) r arr).Perm arr∧UpSeg rk (Fh (sa+k) r arr) sa (sa+na+nb)∧∀x,x<sa∨sa+na+nb≤x→(Fh (sa+k) r arr)[x]? = arr[x]?:=by
 have xs:=Ev (a:=arr) (i:=sa+k) (j:=sa+na) (by omega)
 have ys:=Ev (a:=arr) (i:=sa+na) (j:=sa+na+n2) (by omega)
 have rs:r.size=(na-k)+n2:=by
  have:=md.1.length_eq
  rw[List.length_append,Array.length_toList,Array.length_toList,Array.length_toList,xs,ys] at this
  omega
 have hb:sa+k+r.size≤arr.size:=by omega
 have gt:=Id (m:=r) (arr:=arr) hb
 -- where a thing that was merged came from
 have from_:∀x,sa+k≤x→x<sa+na+n2→∃y,Af rk (Fh (sa+k) r arr) x=Af rk arr y∧((sa+k≤y∧y<sa+na)∨(sa+na≤y∧y<sa+na+n2)):=fun x h1 h2=>by
  have g:=gt x
  rw[if_pos (by omega)] at g
  rw[Bp g]
  have hm:=P1 (a:=r) (i:=x-(sa+k)) (by omega)
  rcases List.mem_append.mp (md.1.mem_iff.mp hm) with z|z
  ·obtain⟨i,hi,e⟩:=Fd (rk:=rk) z
   rw[xs] at hi
   rw[Bq (by omega) (by omega)] at e
   exact⟨sa+k+i,e,.inl (by omega)⟩
  ·obtain⟨i,hi,e⟩:=Fd (rk:=rk) z
   rw[ys] at hi
   rw[Bq (by omega) (by omega)] at e
   exact⟨sa+na+i,e,.inr (by omega)⟩
 have same:∀x,x<sa+k∨sa+na+n2≤x→Af rk (Fh (sa+k) r arr) x=Af rk arr x:=fun x h=>by
  have g:=gt x
  rw[if_neg (by omega)] at g
  exact Bp g
 refine⟨?_,fun i j i1 i2 i3=>?_,fun x hx=>by rw[gt x,if_neg (by omega)]⟩
 ·refine Array.perm_iff_toList_perm.mpr ?_
  rw[M6 hb]
  have e:arr.toList.take (sa+k)++((arr.toList.drop (sa+k)).take (na-k)++(arr.toList.drop (sa+k+(na-k))).take n2)++arr.toList.drop (sa+k+((na-k)+n2))=arr.toList:=Vn
  have ex:(arr.extract (sa+k) (sa+na)).toList=(arr.toList.drop (sa+k)).take (na-k):=by
   rw[Array.toList_extract,List.extract_eq_take_drop,show sa+na-(sa+k)=na-k by omega]
  have ey:(arr.extract (sa+na) (sa+na+n2)).toList=(arr.toList.drop (sa+k+(na-k))).take n2:=by
   rw[Kw,show sa+k+(na-k)=sa+na by omega]
  have p:=md.1
  rw[ex,ey] at p
  rw[rs]
  refine((List.Perm.append_left _ p).append_right _).trans ?_
  rw[e]
 ·by_cases a1:i<sa+k
  ·rw[same i (.inl a1)]
   have k1:Af rk arr i≤Af rk arr (sa+na):=by have:=lo1 (i-sa) (by omega);rw[show sa+(i-sa)=i by omega] at this;exact this
   by_cases a2:j<sa+k
   ·rw[same j (.inl a2)];exact u1 i j i1 i2 (by omega)
   ·by_cases a3:j<sa+na+n2
    ·obtain⟨y,e,hy|hy⟩:=from_ j (by omega) a3
     ·rw[e];exact u1 i y i1 (by omega) (by omega)
     ·rw[e];have:=u2 (sa+na) y (Nat.le_refl _) (by omega) (by omega);omega
    ·rw[same j (.inr (by omega))]
     have:=u2 (sa+na) j (Nat.le_refl _) (by omega) (by omega);omega
  ·by_cases a2:i<sa+na+n2
   ·by_cases a3:j<sa+na+n2
    ·have gi:=gt i
     have gj:=gt j
     rw[if_pos (by omega)] at gi gj
     rw[Bp gi,Bp gj]
     exact Oy md.2 (by omega) (by omega)
    ·rw[same j (.inr (by omega))]
     obtain⟨y,e,hy|hy⟩:=from_ i (by omega) a2
     ·rw[e]
      have e1:=u1 y (sa+na-1) (by omega) (by omega) (by omega)
      have e2:=hi2 (j-(sa+na)) (by omega) (by omega)
      rw[show sa+na+(j-(sa+na))=j by omega] at e2
      omega
     ·rw[e];exact u2 y j (by omega) (by omega) (by omega)
   ·rw[same i (.inr (by omega)),same j (.inr (by omega))]
    exact u2 i j (by omega) i2 i3
theorem Rg{arr:Array Keyed}{left:Bool}{key:Keyed}{base n:Nat}(u:UpSeg rk arr base (base+n)):∀i j,i≤j→j<n→C4 rk left key arr base j=true→C4 rk left key arr base i=true:=fun i j h1 h2 h3=>by
 have:=u (base+i) (base+j) (by omega) (by omega) (by omega)
 cases left with
 |true=>
  cases z:C4 rk true key arr base i with
  |true=>rfl
  |false=>have e1:=bey_t.1 h3;have e2:=bey_t.2 z;omega
 |false=>
  cases z:C4 rk false key arr base i with
  |true=>rfl
  |false=>have e1:=bey_f.1 h3;have e2:=bey_f.2 z;omega
theorem L7{i sa na nb pw pw':Nat}{Q:Bool→SortSt→Prop}(ask:Fo P w A E s kd ok rk)(b:Bas rk kd ok a0 st)(h1:(pendingOf st)[i]? = some (sa,na,pw))(h2:(pendingOf st)[i+1]? = some (sa+na,nb,pw'))(hna:0<na)(hnb:0<nb)(hs:sa+na+nb≤a0.size)(u1:UpSeg rk (arrOf st) sa (sa+na))(u2:UpSeg rk (arrOf st) (sa+na) (sa+na+nb))(q:∀st',Bas rk kd ok a0 st'→pendingOf st'=((pendingOf st).setIfInBounds i (sa,na+nb,pw)).eraseIdxIfInBounds (i+1)→UpSeg rk (arrOf st') sa (sa+na+nb)→(∀x,x<sa∨sa+na+nb≤x→(arrOf st')[x]? = (arrOf st)[x]?)→Q true st'):wpS (model P w) A E s (mergeAt' i) Q st:=by
 have bs:=b.size
 have bs2:((sortPriv% PySem.Builtin.SortState.a) st).size=a0.size:=b.size
 have kk:=b.kind
 delta mergeAt'
 refine wpS_bind (wpS_get ?_)
 rw[h1,h2]
 dsimp only
 refine wpS_bind (T7 ?_)
 refine wpS_bind (Ac (by omega) ?_)
 refine wpS_bind (Ap (left:=false) ask kk b.oks (Bk (by omega) b.oks) (by omega) (by omega) (Rg u1) fun k sp=>?_)
 have le1:=sp.le
 have lo1:∀i,i<k→Af rk (arrOf st) (sa+i)≤Af rk (arrOf st) (sa+na):=fun i hi=>bey_f.1 (sp.lo i hi)
 dsimp only
 refine Ab (fun z=>?_) fun z=>?_
 ·have z:na-k=0:=by simpa using z
  obtain rfl:k=na:=by omega
  refine wpS_pure (q _ ⟨kk,b.perm,b.fail,b.okA,b.dist⟩ rfl (fun x y x1 x2 x3=>?_) fun x _=>rfl)
  by_cases y1:y<sa+k
  ·exact u1 x y x1 x2 y1
  ·by_cases y2:sa+k≤x
   ·exact u2 x y y2 x2 x3
   ·have e1:=lo1 (x-sa) (by omega)
    rw[show sa+(x-sa)=x by omega] at e1
    have e2:=u2 (sa+k) y (Nat.le_refl _) (by omega) x3
    exact Int.le_trans e1 e2
 have z:¬na-k=0:=by simpa using z
 refine wpS_bind (Ac (by omega) ?_)
 refine wpS_bind (Ap (left:=true) ask kk b.oks (Bk (by omega) b.oks) (by omega) (by omega) (Rg u2) fun n2 sp2=>?_)
 have le2:=sp2.le
 have kl:sa+k+(na-k)-1=sa+na-1:=by omega
 have hi2:∀i,n2≤i→i<nb→Af rk (arrOf st) (sa+na-1)≤Af rk (arrOf st) (sa+na+i):=fun i i1 i2=>by
  have:=bey_t.2 (sp2.hi i i1 i2)
  rw[kl] at this
  exact this
 have lo2:∀i,i<n2→Af rk (arrOf st) (sa+na+i)<Af rk (arrOf st) (sa+na-1):=fun i hi=>by
  have:=bey_t.1 (sp2.lo i hi)
  rw[kl] at this
  exact this
 dsimp only
 refine Ab (fun y=>?_) fun y=>?_
 ·have y:n2=0:=by simpa using y
  subst y
  refine wpS_pure (q _ ⟨kk,b.perm,b.fail,b.okA,b.dist⟩ rfl (fun x y x1 x2 x3=>?_) fun x _=>rfl)
  by_cases y1:y<sa+na
  ·exact u1 x y x1 x2 y1
  ·by_cases y2:sa+na≤x
   ·exact u2 x y y2 x2 x3
   ·have e1:=u1 x (sa+na-1) x1 (by omega) (by omega)
    have e2:=hi2 (y-(sa+na)) (by omega) (by omega)
    rw[show sa+na+(y-(sa+na))=y by omega] at e2
    exact Int.le_trans e1 e2
 have y:¬n2=0:=by simpa using y
 have xs:=Ev (a:=arrOf st) (i:=sa+k) (j:=sa+na) (by omega)
 have ys:=Ev (a:=arrOf st) (i:=sa+na) (j:=sa+na+n2) (by omega)
 have x1:1≤((arrOf st).extract (sa+k) (sa+na)).size:=by omega
 have y1:1≤((arrOf st).extract (sa+na) (sa+na+n2)).size:=by omega
 have okX:∀v∈(arrOf st).extract (sa+k) (sa+na),ok v:=fun v hv=>b.oks v (by
  obtain⟨j,h,e⟩:=Array.mem_extract_iff_getElem.mp hv
  rw[←e];exact Array.getElem_mem _)
 have okY:∀v∈(arrOf st).extract (sa+na) (sa+na+n2),ok v:=fun v hv=>b.oks v (by
  obtain⟨j,h,e⟩:=Array.mem_extract_iff_getElem.mp hv
  rw[←e];exact Array.getElem_mem _)
 have upX:Up rk ((arrOf st).extract (sa+k) (sa+na)).toList:=Hz fun i j i1 i2=>by
  rw[xs] at i2
  rw[Bq (by omega) (by omega),Bq (by omega) (by omega)]
  exact u1 _ _ (by omega) (by omega) (by omega)
 have upY:Up rk ((arrOf st).extract (sa+na) (sa+na+n2)).toList:=Hz fun i j i1 i2=>by
  rw[ys] at i2
  rw[Bq (by omega) (by omega),Bq (by omega) (by omega)]
  exact u2 _ _ (by omega) (by omega) (by omega)
 have f0:Af rk ((arrOf st).extract (sa+na) (sa+na+n2)) 0≤Af rk ((arrOf st).extract (sa+k) (sa+na)) 0:=by
  rw[Bq (by omega) (by omega),Bq (by omega) (by omega)]
  have:=bey_f.2 (sp.hi k (Nat.le_refl _) (by omega))
  exact Int.le_of_lt this
 have fl:∀i,i<n2→Af rk (arrOf st) (sa+na+i)≤Af rk ((arrOf st).extract (sa+k) (sa+na)) (((arrOf st).extract (sa+k) (sa+na)).size-1):=fun i hi=>by
  rw[xs,Bq (by omega) (by omega),show sa+k+(sa+na-(sa+k)-1)=sa+na-1 by omega]
  exact Int.le_of_lt (lo2 i hi)
 refine Ab (fun _=>?_) fun _=>?_
 ·refine wpS_bind (L5 ask kk okX okY upX upY x1 y1 f0 (fun v hv=>?_) fun r st2 md lk=>?_)
  ·obtain⟨i,hi,e⟩:=Fd (rk:=rk) hv
   rw[ys] at hi
   rw[Bq (by omega) (by omega)] at e
   rw[e];exact fl i (by omega)
  ·have sm:=Ia (by omega) u1 u2 (by omega) (by omega) le2 lo1 hi2 md
   refine wpS_bind (wpS_modify (wpS_bind (wpS_get ?_)))
   have la:arrOf st2=arrOf st:=lk.arr
   have lf:failedOf st2=none:=lk.failed.trans b.fail
   have e:(failedOf st2).isNone=true:=by rw[lf];rfl
   refine wpS_pure ?_
   show Q (failedOf st2).isNone _
   rw[e]
   have la':(sortPriv% PySem.Builtin.SortState.a) st2=arrOf st:=la
   simp only[la']
   exact q _ ⟨lk.kind.trans kk,sm.1.trans b.perm,lf,b.okA,b.dist⟩ lk.pend sm.2.1 sm.2.2
 ·refine wpS_bind (L6 ask kk okX okY upX upY x1 y1 f0 ?_ fun r st2 md lk=>?_)
  ·rw[ys,Bq (by omega) (by omega)]
   exact fl _ (by omega)
  ·have sm:=Ia (by omega) u1 u2 (by omega) (by omega) le2 lo1 hi2 md
   refine wpS_bind (wpS_modify (wpS_bind (wpS_get ?_)))
   have la:arrOf st2=arrOf st:=lk.arr
   have lf:failedOf st2=none:=lk.failed.trans b.fail
   have e:(failedOf st2).isNone=true:=by rw[lf];rfl
   refine wpS_pure ?_
   show Q (failedOf st2).isNone _
   rw[e]
   have la':(sortPriv% PySem.Builtin.SortState.a) st2=arrOf st:=la
   simp only[la']
   exact q _ ⟨lk.kind.trans kk,sm.1.trans b.perm,lf,b.okA,b.dist⟩ lk.pend sm.2.1 sm.2.2
end
end D3
set_option maxRecDepth 100000
set_option maxHeartbeats 1000000
namespace D3
open PySem PySem.Spec
open PyProof.Rows
section
variable{P:Program}{w:World}{A:Around}{E:Value→Shared→Prop}{s:Shared}{kd:SortKind}{ok:Keyed→Prop}{rk:Keyed→Int}{a0:Array Keyed}{st:SortSt}
def RunsTo(rk:Keyed→Int)(arr:Array Keyed):Nat→List (Nat×Nat×Nat)→Nat→Prop
 |x,[],y=>x=y
 |x,(a,n,_)::r,y=>a=x∧0<n∧UpSeg rk arr x (x+n)∧RunsTo rk arr (x+n) r y
theorem RunsTo.le{arr:Array Keyed}:∀{l:List (Nat×Nat×Nat)} {x y:Nat},RunsTo rk arr x l y→x+l.length≤y
 |[],x,y,h=>by have h:x=y:=h;simp;omega
 |(a,n,_)::r,x,y,⟨_,h1,_,h⟩=>by have:=RunsTo.le h;rw[List.length_cons];omega
theorem RunsTo.app{arr:Array Keyed}:∀{l r:List (Nat×Nat×Nat)} {x y:Nat},RunsTo rk arr x (l++r) y→∃z,RunsTo rk arr x l z∧RunsTo rk arr z r y
 |[],r,x,y,h=>⟨x,rfl,h⟩
 |(a,n,p)::l,r,x,y,⟨h1,h2,h3,h⟩=>by
  obtain⟨z,g1,g2⟩:=RunsTo.app h
  exact⟨z,⟨h1,h2,h3,g1⟩,g2⟩
theorem RunsTo.join{arr:Array Keyed}:∀{l r:List (Nat×Nat×Nat)} {x y z:Nat},RunsTo rk arr x l z→RunsTo rk arr z r y→RunsTo rk arr x (l++r) y
 |[],r,x,y,z,h,g=>by have h:x=z:=h;subst h;exact g
 |(a,n,p)::l,r,x,y,z,⟨h1,h2,h3,h⟩,g=>⟨h1,h2,h3,RunsTo.join h g⟩
theorem UpSeg.same{arr arr':Array Keyed}{lo hi:Nat}(u:UpSeg rk arr lo hi)(h:∀i,lo≤i→i<hi→arr'[i]? = arr[i]?):UpSeg rk arr' lo hi:=fun i j h1 h2 h3=>by
 rw[Bp (h i h1 (by omega)),Bp (h j (by omega) h3)];exact u i j h1 h2 h3
theorem RunsTo.same{arr arr':Array Keyed}:∀{l:List (Nat×Nat×Nat)} {x y:Nat},RunsTo rk arr x l y→(∀i,x≤i→i<y→arr'[i]? = arr[i]?)→RunsTo rk arr' x l y
 |[],x,y,h,_=>h
 |(a,n,p)::l,x,y,⟨h1,h2,h3,h⟩,e=>by
  have:=h.le
  exact⟨h1,h2,h3.same fun i i1 i2=>e i i1 (by omega),h.same fun i i1 i2=>e i (by omega) i2⟩
theorem Sd{l:List (Nat×Nat×Nat)}{i:Nat}(h:i+1<l.length):∃l1 u v l2,l=l1++u::v::l2∧l1.length=i:=by
 refine⟨l.take i,l[i],l[i+1],l.drop (i+2),?_,by rw[List.length_take];omega⟩
 rw[←List.drop_eq_getElem_cons,←List.drop_eq_getElem_cons,List.take_append_drop]
theorem Gy{i hi:Nat}{Q:Bool→SortSt→Prop}(ask:Fo P w A E s kd ok rk)(b:Bas rk kd ok a0 st)(r:RunsTo rk (arrOf st) 0 (pendingOf st).toList hi)(hs:hi≤a0.size)(h:i+1<(pendingOf st).size)(q:∀st',Bas rk kd ok a0 st'→RunsTo rk (arrOf st') 0 (pendingOf st').toList hi→(∀x,hi≤x→(arrOf st')[x]? = (arrOf st)[x]?)→(pendingOf st').size+1=(pendingOf st).size→Q true st'):wpS (model P w) A E s (mergeAt' i) Q st:=by
 obtain⟨l1,⟨sa,na,pw⟩,⟨sb,nb,pw'⟩,l2,e,el⟩:=Sd (l:=(pendingOf st).toList) (i:=i) (by simpa using h)
 rw[e] at r
 obtain⟨z,r1,⟨rfl,hna,u1,⟨rfl,hnb,u2,r2⟩⟩⟩:=r.app
 have le2:=r2.le
 have le1:=r1.le
 refine L7 ask b (sa:=sa) (na:=na) (nb:=nb) (pw:=pw) (pw':=pw') ?_ ?_ hna hnb (by omega) u1 u2 fun st' b' ep u' same=>?_
 ·rw[←Array.getElem?_toList,e,List.getElem?_append_right (by omega),el,Nat.sub_self];rfl
 ·rw[←Array.getElem?_toList,e,List.getElem?_append_right (by omega),el,show i+1-i=1 by omega];rfl
 ·have el':(pendingOf st').toList=l1++(sa,na+nb,pw)::l2:=by
   rw[ep,Array.eraseIdxIfInBounds,dif_pos (by rw[Array.size_setIfInBounds];exact h),Array.toList_eraseIdx,Array.toList_setIfInBounds,e,←el]
   rw[List.set_append_right _ _ (Nat.le_refl _),Nat.sub_self,List.set_cons_zero]
   rw[List.eraseIdx_append_of_length_le (by omega),show l1.length+1-l1.length=1 by omega];rfl
  refine q st' b' ?_ (fun x hx=>same x (.inr (by omega))) ?_
  ·rw[el']
   refine RunsTo.join (r1.same fun x x1 x2=>same x (.inl x2)) ⟨rfl,by omega,?_,?_⟩
   ·rw[←Nat.add_assoc];exact u'
   ·rw[←Nat.add_assoc];exact r2.same fun x x1 x2=>same x (.inr x1)
  ·have e1:=congrArg List.length el'
   have e2:=congrArg List.length e
   rw[Array.length_toList,List.length_append,List.length_cons] at e1
   rw[Array.length_toList,List.length_append,List.length_cons,List.length_cons] at e2
   omega
theorem RunsTo.power{arr:Array Keyed}{pw:Nat}:∀{l:List (Nat×Nat×Nat)} {x y i:Nat},RunsTo rk arr x l y→RunsTo rk arr x (l.modify i fun u=>(u.1,u.2.1,pw)) y
 |[],x,y,i,h=>by cases i<;>exact h
 |(a,n,p)::l,x,y,0,h=>h
 |(a,n,p)::l,x,y,i+1,⟨h1,h2,h3,h⟩=>⟨h1,h2,h3,RunsTo.power h⟩
theorem Bas.pending{p:Array (Nat×Nat×Nat)}(b:Bas rk kd ok a0 st):Bas rk kd ok a0 (setPending st p):=⟨b.kind,b.perm,b.fail,b.okA,b.dist⟩
theorem J5{Q:Unit→SortSt→Prop}(ask:Fo P w A E s kd ok rk)(b:Bas rk kd ok a0 st)(h2:2≤a0.size)(hp:pendingOf st=#[])(q:∀st',Bas rk kd ok a0 st'→UpSeg rk (arrOf st') 0 a0.size→Q () st'):wpS (model P w) A E s sortRuns' Q st:=by
 have bs:=b.size
 rw[sortRuns'_eq]
 refine wpS_bind (wpS_get ?_)
 dsimp only
 rw[bs]
 generalize minRun' a0.size a0.size 0=mr
 refine wpS_bind (wpS_mono (wpS_forRange (I:=fun i c st'=>Bas rk kd ok a0 st'∧∃lo,c=(none,lo)∧i≤lo∧lo≤a0.size∧RunsTo rk (arrOf st') 0 (pendingOf st').toList lo) (Q:=fun c st'=>Bas rk kd ok a0 st'∧c=(none,a0.size)∧RunsTo rk (arrOf st') 0 (pendingOf st').toList a0.size) ?s1 ?f1 ⟨b,0,rfl,Nat.le_refl _,Nat.zero_le _,by rw[hp];rfl⟩) ?p1)
 case f1=>
  rintro c st' ⟨b',lo,rfl,h1,h2,r⟩
  have:max 0 a0.size=a0.size:=Nat.max_eq_right (Nat.zero_le _)
  obtain rfl:lo=a0.size:=by omega
  exact⟨b',rfl,r⟩
 case s1=>
  rintro i c st1 _ hi ⟨b1,lo,rfl,h1,h3,r⟩
  dsimp only
  refine Ab (fun z=>?_) fun z=>?_
  ·obtain rfl:lo=a0.size:=by omega
   exact wpS_pure ⟨b1,rfl,r⟩
  ·refine wpS_bind (Ke ask b1 (by omega) (by omega) fun n st2 b2 ah n1 n2 u=>?_)
   have r2:RunsTo rk (arrOf st2) 0 (pendingOf st2).toList lo:=by rw[ah.pend];exact r.same fun x _ x2=>ah.at_ x x2
   dsimp only
   refine Ab (fun z1=>wpS_bind (wpS_lift (wpAny_rule ⟨rfl,wpS_bind (Hj ask b2 n1 (n:=min (a0.size-lo) mr) (by omega) (by omega) u fun st3 b3 ah3 u3=>?g1)⟩))) (fun z1=>?g2)
   case' g1=>
    rw[if_neg (by decide)]
    have r3:RunsTo rk (arrOf st3) 0 (pendingOf st3).toList lo:=by rw[ah3.pend];exact r2.same fun x _ x2=>ah3.at_ x x2
    obtain⟨m,hm⟩:∃m,min (a0.size-lo) mr=m:=⟨_,rfl⟩
    rw[hm] at u3 ⊢
    have m1:1≤m:=by omega
    have m2:lo+m≤a0.size:=by omega
   case' g2=>
    obtain⟨m,hm⟩:∃m,n=m:=⟨_,rfl⟩
    rw[hm] at n1 n2 u ⊢
    have m2:lo+m≤a0.size:=by omega
    have b3:=b2;have r3:=r2;have m1:=n1;have u3:=u
   all_goals
    refine wpS_bind (wpS_get ?_)
    have last:∀(arr:Array Keyed) (p:Array (Nat×Nat×Nat)),RunsTo rk arr 0 p.toList lo→UpSeg rk arr lo (lo+m)→RunsTo rk arr 0 (p.push (lo,m,0)).toList (lo+m):=fun arr p r4 u4=>by
      rw[Array.toList_push];exact r4.join ⟨rfl,by omega,u4,rfl⟩
    split
    ·rename_i s1 n1' p1 hb
     refine wpS_bind (wpS_mono (wpS_forRange (I:=fun j c st'=>Bas rk kd ok a0 st'∧c=(none,())∧RunsTo rk (arrOf st') 0 (pendingOf st').toList lo∧UpSeg rk (arrOf st') lo (lo+m)) (Q:=fun c st'=>Bas rk kd ok a0 st'∧c=(none,())∧RunsTo rk (arrOf st') 0 (pendingOf st').toList lo∧UpSeg rk (arrOf st') lo (lo+m)) ?s3 (fun _ _ h=>h) ⟨b3,rfl,r3,u3⟩) ?p3)
     case s3=>
      rintro j c st4 _ _ ⟨b4,rfl,r4,u4⟩
      refine wpS_bind (wpS_get ?_)
      split
      ·rename_i x1 x2 older he
       refine Ab (fun _=>wpS_pure ⟨b4,rfl,r4,u4⟩) fun _=>?_
       have hz:(pendingOf st4).size>1:=by
        by_cases hz:(pendingOf st4).size>1
        ·exact hz
        ·rw[if_neg hz] at he;cases he
       refine wpS_bind (Gy ask b4 r4 h3 (by omega) fun st5 b5 r5 same _=>?_)
       rw[if_neg (by decide)]
       exact wpS_pure ⟨b5,rfl,r5,u4.same fun x x1 x2=>same x x1⟩
      ·exact wpS_pure ⟨b4,rfl,r4,u4⟩
     case p3=>
      rintro c st4 ⟨b4,rfl,r4,u4⟩
      dsimp only
      refine wpS_bind (wpS_modify ?_)
      refine wpS_bind (wpS_modify (wpS_pure ⟨b4.pending.pending,_,rfl,by omega,m2,?_⟩))
      exact last (arrOf st4) ((pendingOf st4).modify _ _) (by rw[Array.toList_modify];exact r4.power) u4
    ·exact wpS_bind (wpS_modify (wpS_pure ⟨b3.pending,_,rfl,by omega,m2,last _ _ r3 u3⟩))
 case p1=>
  rintro c st1 ⟨b1,rfl,r⟩
  dsimp only
  refine wpS_bind (wpS_mono (wpS_forRange (I:=fun i c st'=>Bas rk kd ok a0 st'∧c=(none,())∧RunsTo rk (arrOf st') 0 (pendingOf st').toList a0.size∧(pendingOf st').size+i≤a0.size) (Q:=fun c st'=>Bas rk kd ok a0 st'∧c=(none,())∧RunsTo rk (arrOf st') 0 (pendingOf st').toList a0.size∧(pendingOf st').size≤1) ?s2 ?f2 ⟨b1,rfl,r,by have:=r.le;rw[Array.length_toList] at this;omega⟩) ?p2)
  case f2=>
   rintro c st' ⟨b',rfl,r',hn⟩
   have:max 0 a0.size=a0.size:=Nat.max_eq_right (Nat.zero_le _)
   exact⟨b',rfl,r',by omega⟩
  case p2=>
   rintro c st' ⟨b',rfl,r',hn⟩
   refine wpS_pure (q st' b' ?_)
   match e:(pendingOf st').toList,r' with
   |[],r'=>have:0=a0.size:=r';omega
   |[(x,n,p)],⟨_,_,u,(h:0+n=a0.size)⟩=>rw[h] at u;exact u
   |_::_::_,_=>
    have:=congrArg List.length e
    rw[Array.length_toList] at this
    simp at this
    omega
  case s2=>
   rintro i c st' _ hi ⟨b',rfl,r',hn⟩
   refine wpS_bind (wpS_get ?_)
   refine Ab (fun z=>wpS_pure ⟨b',rfl,r',z⟩) fun z=>?_
   have hi2:∀c:Bool,(if c=true then (pendingOf st').size-2-1 else (pendingOf st').size-2)+1<(pendingOf st').size:=fun c=>by split<;>omega
   refine wpS_bind (Gy ask b' r' (Nat.le_refl _) (hi2 _) fun st5 b5 r5 _ hn5=>?_)
   rw[if_neg (by decide)]
   exact wpS_pure ⟨b5,rfl,r5,by omega⟩
end
end D3
set_option maxRecDepth 100000
set_option maxHeartbeats 1000000
namespace D3
open PySem PySem.Spec
open PyProof.Rows
section
variable{P:Program}{w:World}{A:Around}{E:Value→Shared→Prop}{s:Shared}{kd:SortKind}{ok:Keyed→Prop}{rk:Keyed→Int}
theorem De:∀vs:List Value,vs.zip vs=vs.map fun v=>(v,v)
 |[]=>rfl
 |v::r=>by rw[List.zip_cons_cons,De r];rfl
theorem Sb{vs:List Value}{arr:Array Keyed}(hp:arr.Perm (pairsOf vs))(u:UpSeg rk arr 0 (pairsOf vs).size)(hd:(vs.map fun v=>rk (v,v)).Nodup) :
  ∃out:List Value,arr.map (·.2)=out.toArray∧out.Perm vs∧out.Pairwise fun x y=>rk (x,x)<rk (y,y):=by
 have hl:arr.toList.Perm (vs.map fun v=>(v,v)):=by
  have:=Array.perm_iff_toList_perm.mp hp
  rw[pairsOf_toList,De] at this;exact this
 have hm:∀x∈arr.toList,(x.2,x.2)=x:=fun x hx=>by
  obtain⟨v,_,rfl⟩:=List.mem_map.mp (hl.mem_iff.mp hx);rfl
 have e1:(arr.toList.map (·.2)).map (fun v=>(v,v))=arr.toList:=by
  rw[List.map_map]
  exact(List.map_congr_left hm).trans (List.map_id _)
 have hpo:(arr.toList.map (·.2)).Perm vs:=by
  have:=hl.map (·.2)
  rw[List.map_map] at this
  exact this.trans (by rw[show((fun x:Keyed=>x.2) ∘ fun v:Value=>(v,v))=id from rfl,List.map_id])
 refine⟨arr.toList.map (·.2),by rw[←Array.toList_map],hpo,?_⟩
 have hnd:((arr.toList.map (·.2)).map fun v=>rk (v,v)).Nodup:=((hpo.map _).nodup_iff).mpr hd
 have hsz:(pairsOf vs).size=arr.size:=hp.size_eq.symm
 rw[List.pairwise_iff_getElem]
 intro i j hi hj hij
 have hi':i<arr.size:=by simpa using hi
 have hj':j<arr.size:=by simpa using hj
 have key:∀k (hk:k<arr.size),Af rk arr k=rk ((arr[k]).2,(arr[k]).2):=fun k hk=>by
  unfold Af
  rw[Array.getD_eq_getD_getElem?,Array.getElem?_eq_getElem hk,Option.getD_some,hm _ (by simp)]
 have le:=u i j (Nat.zero_le _) (Nat.le_of_lt hij) (by omega)
 rw[key i hi',key j hj'] at le
 have ne:rk ((arr[i]).2,(arr[i]).2)≠rk ((arr[j]).2,(arr[j]).2):=fun e=>by
  have:=List.pairwise_iff_getElem.mp hnd i j (by simpa using hi') (by simpa using hj') hij
  simp only[List.getElem_map,Array.getElem_toList] at this
  exact this e
 simp only[List.getElem_map,Array.getElem_toList]
 omega
theorem Dj{a:Addr}{vs:List Value}{n:Nat}{Q:Fin→Shared→Prop}(ho:s.heap.get? a=some (seqObj "list" vs.toArray n))(hz:vs.length≤10000)(hkind:∀s6:Shared,(∀b o,b≠a→s.heap.get? b=some o→s6.heap.get? b=some o)→∀R:SortKind→Shared→Prop,R kd s6→2≤vs.length→wpAny (model P w) A (keyKind' vs.toArray) R E s6)(hask:∀s6:Shared,(∀b o,b≠a→s.heap.get? b=some o→s6.heap.get? b=some o)→Fo P w A E s6 kd ok rk)(okA:∀v∈vs,ok (v,v))(hd:(vs.map fun v=>rk (v,v)).Nodup)(h:∀out:List Value,out.Perm vs→(out.Pairwise fun x y=>rk (x,x)<rk (y,y))→Q (.done (.ret .none)) { s with heap:=sortedHeap s.heap a vs out.toArray }) :
  wpAny (model P w) A (Builtin.«list.sort» ⟨[.ref a],[]⟩) Q E s:=by
 rw[list_sort_plain]
 have ha:a<s.heap.objs.size:=Heap.lt_size ho
 have hsl:vs.toArray.size≤sizeLine:=by rw[List.size_toArray,sizeLine_eq];omega
 refine wpAny_bind (listItems_at ho rfl ?_)
 refine wpAny_bind (listUpdate_at ho rfl ?_ hsl (Nat.zero_le _))
 obtain⟨e1,ho1⟩:∃e1,(s.heap.update a (Obj.mapSeq fun _=>#[])).get? a=some (seqObj "list" #[] e1):=⟨_,get?_update_seq ho (fun _=>#[])⟩
 refine wpAny_bind (seqEpoch_at ho1 rfl ?_)
 refine wpAny_bind (wpAny_newTuple ?_ (by rw[sizeLine_eq];show vs.length≤_;omega))
 refine wpAny_bind (wpAny_newList ?_ (Nat.zero_le _))
 refine wpAny_holding ?_
 have ho6:(((s.heap.update a (Obj.mapSeq fun _=>#[])).push (seqObj "tuple" vs.toArray 0)).push (seqObj "list" #[] 0)).get? a=some (seqObj "list" #[] e1):=Heap.get?_push_of_some _ (Heap.get?_push_of_some _ ho1)
 have same:∀b o,b≠a→s.heap.get? b=some o→(((s.heap.update a (Obj.mapSeq fun _=>#[])).push (seqObj "tuple" vs.toArray 0)).push (seqObj "list" #[] 0)).get? b=some o:=fun b o hb e=>by
  refine Heap.get?_push_of_some _ (Heap.get?_push_of_some _ ?_)
  rw[Heap.get?_update_ne _ _ _ _ hb];exact e
 show wpAny (model P w) A _ Q E { s with heap:=((s.heap.update a (Obj.mapSeq fun _=>#[])).push (seqObj "tuple" vs.toArray 0)).push (seqObj "list" #[] 0) }
 dsimp only
 by_cases h2:vs.toArray.size<2
 ·rw[if_pos h2,if_pos h2]
  refine wpAny_bind (wpAny_pure ?_)
  rw[StateT.run_pure]
  refine wpAny_bind (wpAny_pure ?_)
  dsimp only
  have em:(arrOf (SortSt.mk' general' (vs.toArray.zip vs.toArray) #[] 7 none)).map (·.2)=vs.toArray:=by
   show(vs.toArray.zip vs.toArray).map (·.2)=_
   rw[List.zip_toArray,De,List.map_toArray,List.map_map,show((fun x:Keyed=>x.2) ∘ fun v:Value=>(v,v))=id from rfl,List.map_id]
  rw[em]
  refine wpAny_bind (seqEpoch_at ho6 rfl ?_)
  refine wpAny_bind (listUpdate_at ho6 rfl ?_ (Nat.zero_le _) (Nat.le_succ_of_le hsl))
  simp only[bne_self_eq_false,Bool.false_eq_true,if_false]
  refine wpAny_pure (h vs (List.Perm.refl _) ?_)
  match vs,h2 with
  |[],_=>exact .nil
  |[x],_=>exact List.pairwise_singleton _ _
  |x::y::r,h2=>simp at h2;omega
 ·rw[if_neg h2,if_neg h2]
  have h2':2≤vs.length:=by rw[List.size_toArray] at h2;omega
  refine wpAny_bind (hkind _ same _ ?_ h2')
  refine wpAny_bind (wpAny_mono (J5 (a0:=pairsOf vs) (st:=SortSt.mk' kd (vs.toArray.zip vs.toArray) #[] 7 none) (rk:=rk) (ok:=ok) (kd:=kd)
   (Q:=fun _ st'=>(arrOf st').Perm (pairsOf vs)∧failedOf st'=none∧UpSeg rk (arrOf st') 0 (pairsOf vs).size) (hask _ same) ⟨rfl,Array.Perm.refl _,rfl,?_,?_⟩ (by rw[pairsOf_size];exact h2') rfl fun st' b' u=>⟨b'.perm,b'.fail,u⟩) ?_ fun _ _ e=>e)
  ·intro x hx
   have hx:x∈(pairsOf vs).toList:=by simpa using hx
   rw[pairsOf_toList,De] at hx
   obtain⟨v,hv,rfl⟩:=List.mem_map.mp hx
   exact okA v hv
  ·rw[pairsOf_toList,De,List.map_map];exact hd
  rintro⟨⟨⟩,st'⟩ s' ⟨rfl,hp,hf,hu⟩
  obtain⟨out,e,p2,pw⟩:=Sb hp hu hd
  dsimp only
  rw[e]
  refine wpAny_bind (seqEpoch_at ho6 rfl ?_)
  refine wpAny_bind (listUpdate_at ho6 rfl ?_ (Nat.zero_le _) (by rw[List.size_toArray,p2.length_eq,sizeLine_eq];omega))
  rw[hf]
  simp only[bne_self_eq_false,Bool.false_eq_true,if_false]
  exact wpAny_pure (h out p2 pw)
def Bm(h:Heap)(v:Value)(ij:Int×Int):Prop:=∃a o t u n,v=.ref a∧h.get? a=some o∧o.cls=.type "tuple"∧o.data=.seq #[.int ij.1 t,.int ij.2 u] n
def rkP(key:Value→Int×Int)(x:Keyed):Int:=(key x.1).1*1000+(key x.1).2
theorem He{key:Value→Int×Int}{vs:List Value}(hv:∀v∈vs,Bm s.heap v (key v))(hb:∀v∈vs,0≤(key v).2∧(key v).2<1000):Fo P w A E s (tuples' true) (fun x=>x.1∈vs) (rkP key):=by
 intro x y st Q hk ox oy q
 obtain⟨a,o,t,u,n,ea,ha,ca,da⟩:=hv _ ox
 obtain⟨b,o',t',u',n',eb,hb',cb,db⟩:=hv _ oy
 have b1:=hb _ ox
 have b2:=hb _ oy
 rw[lt'_eq]
 refine wpS_bind (wpS_get ?_)
 rw[hk,ea,eb]
 refine wpS_bind (wpS_lift (wpAny_attempt (PySem.W.kat_lt ha da hb' db ?_)))
 have fin:∀c:Bool,c=decide (rkP key x<rkP key y)→s=s∧wpS (model P w) A E s (pure (some c)) Q st:=fun c hc=>⟨rfl,by rw[hc];exact wpS_pure q⟩
 unfold rkP at fin
 refine PySem.W.kat_cons (wpAny_eqBool_int (PySem.W.kat_go (fun e=>PySem.W.kat_yes ?_) fun e=>PySem.W.kat_no ?_))
 ·have e:=beq_iff_eq.mp e
  refine PySem.W.kat_cons (wpAny_eqBool_int (PySem.W.kat_go (fun e2=>PySem.W.kat_yes ?_) fun e2=>PySem.W.kat_no ?_))
  ·have e2:=beq_iff_eq.mp e2
   refine PySem.W.kat_nil (fin _ ?_)
   rw[decide_eq_false (by simp),decide_eq_false (by omega)]
  ·refine PySem.W.kat_one _ _ (wpAny_lt_int (fin _ ?_))
   rw[e];congr 1;exact propext ⟨fun z=>by omega,fun z=>by omega⟩
 ·have e:(key x.1).1≠(key y.1).1:=fun z=>by rw[z] at e;simp at e
  refine oneLt_int (fin _ ?_)
  congr 1;exact propext ⟨fun z=>by omega,fun z=>by omega⟩
theorem Ha{key:Value→Int×Int}{vs:List Value}{R:SortKind→Shared→Prop}(hv:∀v∈vs,Bm s.heap v (key v))(h2:2≤vs.length)(q:R (tuples' true) s):wpAny (model P w) A (keyKind' vs.toArray) R E s:=by
 have ht:∀{l:List Value},(∀v∈l,Bm s.heap v (key v))→∃fs:List Value,PySem.W.KatTups s.heap l fs∧fs.length=l.length∧∀f∈fs,∃i t,f=Value.int i t:=fun {l}=>by
  induction l with
  |nil=>exact fun _=>⟨[],trivial,rfl,fun _ h=>by cases h⟩
  |cons v r ih=>
   intro hl
   obtain⟨fs,k,el,hf⟩:=ih fun x hx=>hl x (List.mem_cons_of_mem _ hx)
   obtain⟨a,o,t,u,n,ea,ha,ca,da⟩:=hl v (List.mem_cons_self ..)
   subst ea
   refine⟨.int _ t::fs,.cons ha ca da rfl k,by simp[el],fun f hf'=>?_⟩
   rcases List.mem_cons.mp hf' with rfl|hf'
   ·exact⟨_,_,rfl⟩
   ·exact hf f hf'
 obtain⟨fs,k,el,hf⟩:=ht hv
 refine PySem.W.kat_kind (T:=.type "int") k (by omega) (fun v hv=>?_) (by decide) q
 obtain⟨i,t,rfl⟩:=hf v hv
 exact PySem.W.Looks.of_pure rfl
end
end D3
set_option maxRecDepth 100000
set_option maxHeartbeats 1000000
namespace D3
open PySem PySem.Spec
open PyProof.Rows
def RawD(h:Heap)(d:Addr)(es:Array DictEntry)(ep:Nat):Prop:=∃o,h.get? d=some o∧o.ExactDict∧o.data=.dict es ep
theorem RawD.keep{h g:Heap}{d:Addr}{es:Array DictEntry}{ep:Nat}(r:RawD h d es ep)(k:∀o,h.get? d=some o→g.get? d=some o):RawD g d es ep:=let ⟨o,a,b⟩:=r;⟨o,k o a,b⟩
theorem RawD.lt{h:Heap}{d:Addr}{es:Array DictEntry}{ep:Nat}(r:RawD h d es ep):d<h.objs.size:=let ⟨_,a,_⟩:=r;Heap.lt_size a
section
variable{P:Program}{w:World}{A:Around}{E:Value→Shared→Prop}{s:Shared}{d it:Addr}{es:Array DictEntry}{ep i:Nat}
theorem RawD.ty(r:RawD s.heap d es ep):s.TypeIs (.ref d) "dict":=let ⟨o,a,b,_⟩:=r;⟨o,a,b.1⟩
theorem Sf{Q:Value→Shared→Prop}(nd:(d == sysModules)=false)(r:RawD s.heap d es ep)(q:Q (.ref s.heap.objs.size) { s with heap:=s.heap.push { cls:=.type "dict_keyiterator",data:=.fields #[.ref d,.int 0 0,.int es.size 0,.int ep 0] } }):wpAny (model P w) A (pyIter (.ref d)) Q E s:=by
 obtain⟨o,a,b,c⟩:=id r
 refine wpAny_pyIter_slot r.ty F.slot_dict_iter (wpAny_call_entry F.slot_dict_iter r.ty F.entry_dict_iter ?_ (F.args_dict_iter_1 _))
 unfold Builtin.«dict.__iter__» Builtin.Dict.dictSlotNone
 refine wpAny_bind (wpAny_bind (wpAny_notOrdered_dict r.ty ?_))
 refine wpAny_pure (a:=Value.ref d) ?_
 show wpAny _ _ (Builtin.Dict.showsAll d >>= _) _ _ s
 unfold Builtin.Dict.showsAll
 rw[if_neg (by rw[nd];decide)]
 refine wpAny_bind (wpAny_pure (wpAny_bind (wpAny_dictEntries a c (wpAny_bind (wpAny_dictEpoch a c ?_)))))
 exact wpAny_bind (wpAny_newObj_type (wpAny_pure ⟨_,rfl, "dict_keyiterator",_,⟨_,Heap.get?_push_size _ rfl,rfl⟩,F.slot_dict_keyiterator_next.lookup,by simpa[rawInt] using q⟩))
theorem Se{Q:Option Value→Shared→Prop}(hit:s.heap.IsKeyIter it d i es.size ep)(r:RawD s.heap d es ep)(hi:i<es.size)(q:∀g,g.IsKeyIter it d (i+1) es.size ep→Heap.SameBut it s.heap g→Q (some es[i].key) { s with heap:=g }):wpAny (model P w) A (pyNext (.ref it)) Q E s:=by
 obtain⟨oi,ai,bi,ci⟩:=id hit
 obtain⟨o,a,b,c⟩:=id r
 unfold pyNext
 refine wpAny_bind (wpAny_attempt (wpAny_callSpecial?_slot (name:=Str.ofString "__next__") hit.typeIs F.slot_dict_keyiterator_next (wpAny_call_entry F.slot_dict_keyiterator_next hit.typeIs F.entry_dict_keyiterator_next ?_ (F.args_dict_keyiterator_next_1 _))))
 refine wpAny_bind (wpAny_pure (wpAny_bind (wpAny_bind ?_)))
 first|refine wpAny_bind (wpAny_typeNameOfWhole_keyiter hit.typeIs (wpAny_pure (wpAny_bind (wpAny_fieldsOf ai ci ?_))))|refine wpAny_bind (wpAny_typeNameOf_keyiter hit.typeIs (wpAny_pure (wpAny_bind (wpAny_fieldsOf ai ci ?_))))
 simp only[show Builtin.Dict_items.ownsTuple "dict_keyiterator" = false by decide,Bool.false_eq_true,if_false]
 refine wpAny_ite_split (fun z=>absurd (show(Value.ref d == Value.none)=true from z) (by intro z;cases z)) fun _=>?_
 refine wpAny_bind (wpAny_pure (wpAny_bind (wpAny_dictEntries a c ?_)))
 rw[if_neg (by simp)]
 refine wpAny_bind (wpAny_pure (wpAny_bind (wpAny_dictEpoch a c ?_)))
 rw[if_neg (by simp)]
 refine wpAny_pure ?_
 simp only[show ¬((i:Int)<0) from by omega,if_false,Int.toNat_natCast,Array.getElem?_eq_getElem hi]
 refine wpAny_bind ?_
 first|refine wpAny_bind (wpAny_typeNameOfWhole_keyiter hit.typeIs (wpAny_pure (wpAny_bind (wpAny_isOneOf_keyiter hit.typeIs ?_))))|refine wpAny_bind (wpAny_typeNameOf_keyiter hit.typeIs (wpAny_pure (wpAny_bind (wpAny_isOneOf_keyiter hit.typeIs ?_))))
 have hit2:(s.heap.update it (Obj.mapFields fun x=>x.setIfInBounds 1 (rawInt ((i:Int)+1)))).IsKeyIter it d (i+1) es.size ep:=
  ⟨_,Heap.get?_update_self _ ai (Obj.isFreed_of_fields (Obj.data_mapFields ci _)),(Obj.cls_mapFields ..).trans bi,by rw[Obj.data_mapFields ci];simp[rawInt]⟩
 refine wpAny_bind (wpAny_setField (i:=1) ai ci (by simp) (wpAny_bind (wpAny_holding (wpAny_bind (wpAny_isOneOf_keyiter hit2.typeIs ?_)))))
 refine wpAny_pure (a:=es[i].key) (wpAny_pure ⟨_,rfl,wpAny_pure (q _ hit2 (Heap.SameBut.update ..))⟩)
theorem Uk{Q:Option Value→Shared→Prop}(hh:A.handled=none)(hit:s.heap.IsKeyIter it d es.size es.size ep)(r:RawD s.heap d es ep)(q:∀g,Heap.ExtBut it s.heap g→Q none { s with heap:=g }):wpAny (model P w) A (pyNext (.ref it)) Q E s:=by
 obtain⟨oi,ai,bi,ci⟩:=id hit
 obtain⟨o,a,b,c⟩:=id r
 unfold pyNext
 refine wpAny_bind (wpAny_attempt (wpAny_callSpecial?_slot (name:=Str.ofString "__next__") hit.typeIs F.slot_dict_keyiterator_next (wpAny_call_entry F.slot_dict_keyiterator_next hit.typeIs F.entry_dict_keyiterator_next ?_ (F.args_dict_keyiterator_next_1 _))))
 refine wpAny_bind (wpAny_pure (wpAny_bind (wpAny_bind ?_)))
 first|refine wpAny_bind (wpAny_typeNameOfWhole_keyiter hit.typeIs (wpAny_pure (wpAny_bind (wpAny_fieldsOf ai ci ?_))))|refine wpAny_bind (wpAny_typeNameOf_keyiter hit.typeIs (wpAny_pure (wpAny_bind (wpAny_fieldsOf ai ci ?_))))
 simp only[show Builtin.Dict_items.ownsTuple "dict_keyiterator" = false by decide,Bool.false_eq_true,if_false]
 refine wpAny_ite_split (fun z=>absurd (show(Value.ref d == Value.none)=true from z) (by intro z;cases z)) fun _=>?_
 refine wpAny_bind (wpAny_pure (wpAny_bind (wpAny_dictEntries a c ?_)))
 rw[if_neg (by simp)]
 refine wpAny_bind (wpAny_pure (wpAny_bind (wpAny_dictEpoch a c ?_)))
 rw[if_neg (by simp)]
 refine wpAny_pure ?_
 simp only[show ¬((es.size:Int)<0) from by omega,if_false,Int.toNat_natCast,Array.getElem?_eq_none (Nat.le_refl es.size)]
 refine wpAny_bind ?_
 first|refine wpAny_bind (wpAny_typeNameOfWhole_keyiter hit.typeIs (wpAny_pure ?_))|refine wpAny_bind (wpAny_typeNameOf_keyiter hit.typeIs (wpAny_pure ?_))
 refine wpAny_bind (wpAny_setField (i:=0) ai ci (by simp) (wpAny_bind ?_))
 simp only[newExc,newTuple]
 refine wpAny_bind (wpAny_newObj_type (wpAny_bind (m:=firstArgMember _ _) (wpAny_of_eq (a:=Value.none) (by first|rfl|(simp only[firstArgMember];rfl)) (wpAny_newObj_type ?_ (by size_fits)))) (by size_fits))
 simp only[raiseNew]
 refine wpAny_bind (wpAny_handled ?_)
 rw[show A.in1.handled=none from hh]
 refine wpAny_bind (wpAny_pure (wpAny_throw ?_))
 refine wpAny_bind (wpAny_isInstance (b:=true) (T:="StopIteration") ⟨_,Heap.get?_push_size _ rfl,rfl⟩ isSubtype_stop ?_)
 exact wpAny_pure (q _ (((Heap.SameBut.update ..).extBut.push _).push _))
theorem Po(hh:A.handled=none)(I:Addr)(hne:d≠I):Walks P w A I [I,d] [I] es.size (fun i v=>∃h:i<es.size,v=es[i].key) (fun i h=>h.IsKeyIter I d i es.size ep∧RawD h d es ep) where
 sub:=fun b hb=>by rw[List.mem_singleton.mp hb];exact List.mem_cons_self ..
 frame:=fun _ _ _ st hk=>⟨st.1.at fun o e=>hk I (by simp) o e,st.2.keep fun o e=>hk d (by simp) o e⟩
 item:=fun i s Q E hi st hQ=>Se st.1 st.2 hi fun g hit' hs'=>hQ _ g s.toks ⟨hi,rfl⟩ ⟨hit',st.2.keep fun o e=>hs'.extBut d o hne e⟩ fun b o hb e=>hs'.extBut b o (fun h=>hb (by simp[h])) e
 done:=fun s Q E st hQ=>Uk hh st.1 st.2 fun g he'=>hQ g s.toks fun b o hb e=>he' b o (fun h=>hb (by simp[h])) e
 self:=fun _ _ _ _ st hQ=>wpAny_pyIter_keyiter st.1 hQ
theorem Uj(nd:(d == sysModules)=false):PySem.W.KdlSrc P w "dict" d d es.size (fun i v=>∃h:i<es.size,v=es[i].key) (fun h=>RawD h d es ep) where
 type:=fun _ r=>r.ty
 there:=fun _ r=>⟨r.lt,r.lt⟩
 keep:=fun _ _ r k=>r.keep fun o e=>k d (.inl rfl) o e
 notList:=by decide
 notTuple:=by decide
 hint:=fun _ _ _ _ r q=>PySem.W.kdl_hint_dict r.ty q
 iter:=fun _ _ hh r=>⟨_,_,fun _ _ q=>Sf nd r q,Po hh _ (Nat.ne_of_lt r.lt),⟨⟨_,Heap.get?_push_size _ rfl,rfl,rfl⟩,r.keep fun o e=>Heap.get?_push_of_some _ e⟩⟩
end
end D3
set_option maxRecDepth 100000
set_option maxHeartbeats 1000000
namespace D3
open PySem PySem.Spec
open PyProof.Rows hiding St
open L2 hiding St
section
variable{P:Program}{w:World}{A:Around}{E:Value→Shared→Prop}{s:Shared}{d:Addr}{es:Array DictEntry}{ep:Nat}
theorem Tp{L:Addr}{R:Result→Shared→Prop}(hh:A.handled=none)(nd:(d == sysModules)=false)(r:RawD s.heap d es ep)(hz:es.size≤sizeLine)(ne:L≠d)(hL:s.heap.get? L=some { cls:=.type "list",data:=.seq #[] 0 })(q:∀h' tk acc' c',(∀b o,b≠L→s.heap.get? b=some o→h'.get? b=some o)→h'.get? L=some { cls:=.type "list",dict:=none,data:=.seq acc' c',slots:=#[] }→acc'.toList=es.toList.map (·.key)→R (.ok (.ret (.ref L))) { s with heap:=h',toks:=tk }) :
  codeAny (model P w) A (.builtin "list.__iadd__" ⟨[.ref L,.ref d],[]⟩) R s:=by
 refine codeAny_builtin PySem.F.entry_list_iadd ?_
 rw[Around.under_plainId PySem.F.plain_list_iadd _]
 refine PySem.W.kdl_extend (R:=R) (Uj nd) hh r L ne ne (.ref L) 0 hL (fun h' tk acc' c' hk hS' hacc=>q h' tk acc' c' hk hS' ?_) hz
 apply List.ext_getElem?
 intro i
 by_cases hi:i<acc'.size
 ·obtain⟨h1,h2⟩:=hacc.2 i acc'[i] (by simp[hi])
  rw[List.getElem?_map]
  simp[hi,h2,h1]
 ·rw[List.getElem?_eq_none (by simpa using hi),List.getElem?_eq_none (by have:=hacc.1;simp;omega)]
theorem Ma{Q:List Value→Shared→Prop}(hh:A.handled=none)(nd:(d == sysModules)=false)(r:RawD s.heap d es ep)(hz:es.size≤sizeLine)(q:∀(g:Heap) (tk:Nat),s.heap.objs.size≤g.objs.size→(∀b o,s.heap.get? b=some o→g.get? b=some o)→Q (es.toList.map (·.key)) { s with heap:=g,toks:=tk }):wpAny (model P w) A (collect (.ref d)) Q E s:=by
 have hlt:=r.lt
 unfold collect
 refine wpAny_bind (wpAny_runValue (codeAny_builtin PySem.F.entry_proto_collect ?_));rw[Around.under_plainId PySem.F.plain_proto_collect _]
 show wpAny _ A.in1 (newList [] >>= fun l=>again (.builtin "list.__iadd__" ⟨[l,.ref d],[]⟩)) _ _ s
 refine wpAny_bind (wpAny_newObj_type (wpAny_pure ⟨plainId_quiet PySem.F.plain_list_iadd _,Tp hh nd (r.keep fun o e=>Heap.get?_push_of_some _ e) hz (Nat.ne_of_gt hlt) (Heap.get?_push_size _ rfl) fun h' tk acc' c' hk hS' e=>?_⟩))
 show wpAny _ A (load s.heap.objs.size >>= _) _ _ _;refine wpAny_bind (wpAny_load hS' (wpAny_pure ?_))
 rw[e]
 exact q _ _ (Nat.le_of_lt (Heap.lt_size hS')) fun b o h1=>hk b o (Nat.ne_of_lt (Heap.lt_size h1)) (Heap.get?_push_of_some _ h1)
theorem M1{key:Value→Int×Int}{Q:Value→Shared→Prop}(hh:A.handled=none)(nd:(d == sysModules)=false)(r:RawD s.heap d es ep)(hz:es.size≤10000)(hv:∀v∈es.toList.map (·.key),Bm s.heap v (key v))(hb:∀v∈es.toList.map (·.key),0≤(key v).2∧(key v).2<1000)(hd:((es.toList.map (·.key)).map fun v=>rkP key (v,v)).Nodup)(q:∀(g h':Heap) (out:List Value) (n tk:Nat),out.Perm (es.toList.map (·.key))→(out.Pairwise fun x y=>rkP key (x,x)<rkP key (y,y))→s.heap.objs.size≤g.objs.size→(∀b o,s.heap.get? b=some o→h'.get? b=some o)→h'.get? g.objs.size=some { cls:=.type "list",data:=.seq out.toArray n }→Q (.ref g.objs.size) { s with heap:=h',toks:=tk }) :
  wpAny (model P w) A (call (.builtin "sorted") [.ref d]) Q E s:=by
 refine Calls.call_function_entry kind_sorted plain_sorted entry_sorted (args_sorted1 _) ?_
 unfold Builtin.«sorted»
 refine wpAny_bind (m:=checkCount "sorted" 1 1 _) (wpAny_pure (wpAny_bind (Ma (A:=A.in1) hh nd r (by rw[sizeLine_eq];omega) fun g tk big keep=>?_)))
 have hl:(es.toList.map (·.key)).length=es.size:=by simp
 generalize es.toList.map (·.key)=vs at *
 refine wpAny_bind (wpAny_newList ?_ (by rw[sizeLine_eq];omega))
 have hoL:(g.push (seqObj "list" vs.toArray 0)).get? g.objs.size=some (seqObj "list" vs.toArray 0):=Heap.get?_push_size _ rfl
 show wpAny _ _ _ _ _ { s with toks:=tk,heap:=g.push (seqObj "list" vs.toArray 0) }
 have pairs:∀s6:Shared,(∀b o,b≠g.objs.size→(g.push (seqObj "list" vs.toArray 0)).get? b=some o→s6.heap.get? b=some o)→∀v∈vs,Bm s6.heap v (key v):=fun s6 h6 v hv'=>by
  obtain⟨a,o,t,u,n,x1,x2,x3⟩:=hv v hv'
  have x4:=keep _ _ x2
  exact⟨a,o,t,u,n,x1,h6 _ _ (Nat.ne_of_lt (Heap.lt_size x4)) (Heap.get?_push_of_some _ x4),x3⟩
 refine wpAny_bind (wpAny_holding (wpAny_call_entry slot_list_sort ⟨_,hoL,rfl⟩ entry_list_sort (Dj (kd:=tuples' true) (ok:=fun x=>x.1∈vs) (rk:=rkP key) hoL (by omega) (fun s6 h6 R qR h2=>Ha (pairs s6 h6) h2 qR) (fun s6 h6=>He (pairs s6 h6) hb) (fun v hv=>hv) hd fun out a1 a2=>⟨_,rfl,?_⟩) (args_list_sort _)))
 obtain⟨n,hn⟩:=sortedHeap_at (vs:=vs) (out:=out.toArray) hoL
 refine wpAny_pure ⟨_,rfl,q g _ out n tk a1 a2 big (fun b o h0=>?_) hn⟩
 have h1:=keep _ _ h0
 have hb':b<g.objs.size:=Heap.lt_size h1
 show(sortedHeap _ _ _ _).get? b=some o
 rw[sortedHeap_old (Nat.ne_of_lt hb') (by rw[size_push'];exact Nat.lt_succ_of_lt hb')]
 exact Heap.get?_push_of_some _ h1
end
end D3
set_option maxRecDepth 100000
set_option maxHeartbeats 1000000
namespace D3
open PySem PySem.Spec
open PyProof.Rows hiding St
open L2 hiding St
def Au(k:Int×Int):List Key:=[.inl k.1,.inl k.2]
def Ae(k:Int×Int):D:=.tup [.int k.1,.int k.2]
def Bf(a b:Int×Int):Prop:=a.1<b.1∨(a.1=b.1∧a.2<b.2)
theorem Sx{h:Heap}{v:Value}{a b:Int×Int}(x:Bm h v a)(y:Bm h v b):a=b:=by
 obtain⟨p,o,t,u,n,e1,e2,_,e3⟩:=x
 obtain⟨p',o',t',u',n',f1,f2,_,f3⟩:=y
 rw[e1] at f1;cases f1
 rw[e2] at f2;cases f2
 rw[e3] at f3
 injection f3 with g1 _
 have g2:=congrArg Array.toList g1
 simp only[List.cons.injEq,Value.int.injEq,and_true] at g2
 exact Prod.ext g2.1.1 g2.2.1
open Classical in
noncomputable def Ay(h:Heap)(v:Value):Int×Int:=if z:∃ij,Bm h v ij then Classical.choose z else (0,0)
theorem C1{h:Heap}{v:Value}{a:Int×Int}(x:Bm h v a):Ay h v=a:=by
 have z:∃ij,Bm h v ij:=⟨a,x⟩
 unfold Ay
 rw[dif_pos z]
 exact Sx (Classical.choose_spec z) x
theorem Gf{α β γ:Type}{R:β→γ→Prop}{f:α→β}:∀{ks:List α} {ys:List γ},Paired R (ks.map f) ys→Paired (fun k y=>R (f k) y) ks ys
 |[],_,.nil=>.nil
 |_::_,_,.cons h t=>.cons h (Gf t)
theorem E9{α β γ:Type}{R:α→β→Prop}{f:α→γ}{g:β→γ}(h:∀a b,R a b→f a=g b):∀{ks:List α} {ys:List β},Paired R ks ys→ks.map f=ys.map g
 |[],_,.nil=>rfl
 |_::_,_,.cons x t=>by rw[List.map_cons,List.map_cons,h _ _ x,E9 h t]
theorem K6{α β:Type}{R:α→β→Prop}:∀{ks:List α} {ys:List β},Paired R ks ys→∀y∈ys,∃k∈ks,R k y
 |[],_,.nil,y,h=>by cases h
 |k::_,_,.cons x t,y,h=>by
  rcases List.mem_cons.mp h with rfl|h
  ·exact⟨k,List.mem_cons_self ..,x⟩
  ·obtain⟨k',h1,h2⟩:=K6 t y h
   exact⟨k',List.mem_cons_of_mem _ h1,h2⟩
theorem Jt{α β γ:Type}{R:β→γ→Prop}{f:α→β}{g:α→γ}:∀{l:List α},(∀x∈l,R (f x) (g x))→Paired R (l.map f) (l.map g)
 |[],_=>.nil
 |x::r,h=>.cons (h x (List.mem_cons_self ..)) (Jt fun y hy=>h y (List.mem_cons_of_mem _ hy))
def Fi:Value→Addr
 |.ref a=>a
 |_=>0
theorem F9{α β:Type}{f:α→β}:∀{l:List α},l.Nodup→(∀x∈l,∀y∈l,f x=f y→x=y)→(l.map f).Nodup
 |[],_,_=>List.nodup_nil
 |x::r,h,hf=>by
  obtain⟨h1,h2⟩:=List.nodup_cons.mp h
  rw[List.map_cons,List.nodup_cons]
  refine⟨fun z=>?_,F9 h2 fun a ha b hb=>hf a (List.mem_cons_of_mem _ ha) b (List.mem_cons_of_mem _ hb)⟩
  obtain⟨y,hy,e⟩:=List.mem_map.mp z
  exact h1 (hf x (List.mem_cons_self ..) y (List.mem_cons_of_mem _ hy) e.symm ▸ hy)
section
variable{X:Cx}
theorem Kf(hcalm:X.calm=true):CallR X (.builtin "sorted") (fun xs H Q=>∃(a:Addr) (ks:List ((Int×Int)×V)),xs=[.ref a]∧H a=some (.dT (ks.map fun k=>(Au k.1,k.2)))∧ks.length≤10000∧(∀k∈ks,0≤k.1.2∧k.1.2<1000)∧
  ∀p (ms:List (Int×Int)) (bs:List Addr),H p=none→ms.Perm (ks.map (·.1))→ms.Pairwise Bf→Paired (fun b m=>H b=some (.tup [.int m.1,.int m.2])) bs ms→Q (.ref p) (upd H p (.lst (bs.map V.ref)))):=by
 intro pins s σ H xs us Q I r h
 obtain⟨a,ks,rfl,ha,hz,hb,q⟩:=h
 obtain⟨u,rfl,rx⟩:=Dc r
 cases rx
 obtain⟨_,nd,ys,pr,o,es,ep,h1,h2,h3,h4,h5⟩:=(show ObjOk X.prog X.w H s.heap a (.dT _) from I.hok a _ ha)
 have raw:RawD s.heap a es ep:=⟨o,h1,h2,h3⟩
 have pr:=Gf pr
 have pairs:∀y∈ys,∃k∈ks,H y.2.1=some (.tup [.int k.1.1,.int k.1.2])∧Bm s.heap (.ref y.2.1) k.1:=fun y hy=>by
  obtain⟨k,hk,_,e,_⟩:=K6 pr y hy
  have e:H y.2.1=some (.tup [.int k.1.1,.int k.1.2]):=e
  obtain⟨_,its,rv,ox,hx,hc,n,hd⟩:=(show ObjOk X.prog X.w H s.heap y.2.1 (.tup _) from I.hok _ _ e)
  match its,rv,hd with
  |[_,_],.cons ⟨t1,rfl⟩ (.cons ⟨t2,rfl⟩ .nil),hd=>exact⟨k,hk,e,_,ox,t1,t2,n,rfl,hx,hc,hd⟩
 have ek:es.toList.map (·.key)=ys.map fun y=>Value.ref y.2.1:=by rw[h4,List.map_map];rfl
 have eks:(ys.map fun y=>Value.ref y.2.1).map (Ay s.heap)=ks.map (·.1):=by
  rw[List.map_map]
  refine(E9 (R:=fun k y=>H y.2.1=some (.tup [V.int k.1.1,.int k.1.2])∧y∈ys) (fun k y h=>?_) ?_).symm
  ·obtain⟨k',hk',e',pa⟩:=pairs y h.2
   rw[h.1] at e'
   injection e' with e';injection e' with e'
   simp only[List.cons.injEq,V.int.injEq,and_true] at e'
   show k.1=Ay s.heap (.ref y.2.1)
   rw[C1 pa];exact Prod.ext e'.1 e'.2
  ·have:∀{a:List ((Int×Int)×V)} {b:List (List Key×Addr×Value)},Paired (fun k y=>(Au k.1,k.2).1=y.1∧H y.2.1=some (.tup ((Au k.1,k.2).1.map kV))∧L2.RelV (Au k.1,k.2).2 y.2.2) a b→(∀y∈b,y∈ys)→Paired (fun k y=>H y.2.1=some (.tup [V.int k.1.1,.int k.1.2])∧y∈ys) a b:=fun {a b} h=>by
    induction h with
    |nil=>exact fun _=>.nil
    |cons x t ih=>exact fun hm=>.cons ⟨x.2.1,hm _ (List.mem_cons_self ..)⟩ (ih fun y hy=>hm y (List.mem_cons_of_mem _ hy))
   exact this pr fun _ h=>h
 have hk1:(ks.map (·.1)).Nodup:=by
  have e:ks.map (fun k=>Au k.1)=ys.map (·.1):=E9 (fun k y h=>h.1) pr
  rw[←e] at h5
  have:(ks.map (·.1)).map Au=ks.map fun k=>Au k.1:=by rw[List.map_map];rfl
  rw[←this] at h5
  exact List.Pairwise.of_map Au (fun a b h e=>h (congrArg Au e)) h5
 have hb2:∀m∈ks.map (·.1),0≤m.2∧m.2<1000:=fun m hm=>by obtain⟨k,hk,rfl⟩:=List.mem_map.mp hm;exact hb k hk
 have rk:∀v,rkP (Ay s.heap) (v,v)=(Ay s.heap v).1*1000+(Ay s.heap v).2:=fun _=>rfl
 have hes:es.size≤10000:=by
  have:=congrArg List.length ek
  have:=congrArg List.length eks
  simp at *;omega
 refine M1 (key:=Ay s.heap) (I.ok.hd hcalm) nd raw hes ?_ ?_ ?_ fun g h' out n tk hp pw big keep hn=>?_
 ·rw[ek];intro v hv
  obtain⟨y,hy,rfl⟩:=List.mem_map.mp hv
  obtain⟨k,_,_,pa⟩:=pairs y hy
  rw[C1 pa];exact pa
 ·rw[ek];intro v hv
  have:Ay s.heap v∈ks.map (·.1):=by rw[←eks];exact List.mem_map_of_mem hv
  exact hb2 _ this
 ·rw[ek]
  have e:((ys.map fun y=>Value.ref y.2.1).map fun v=>rkP (Ay s.heap) (v,v))=(ks.map (·.1)).map fun m=>m.1*1000+m.2:=by rw[←eks];simp only[List.map_map];rfl
  rw[e]
  refine F9 hk1 fun x hx y hy e=>?_
  have:=hb2 x hx;have:=hb2 y hy
  exact Prod.ext (by omega) (by omega)
 ·rw[ek] at hp
  have hm:(out.map (Ay s.heap)).Perm (ks.map (·.1)):=by rw[←eks];exact hp.map _
  have hin:∀v∈out,∃b m,v=.ref b∧Ay s.heap v=m∧H b=some (.tup [.int m.1,.int m.2]):=fun v hv=>by
   obtain⟨y,hy,rfl⟩:=List.mem_map.mp (hp.mem_iff.mp hv)
   obtain⟨k,_,e,pa⟩:=pairs y hy
   exact⟨_,k.1,rfl,C1 pa,e⟩
  have hbs:Vals ((out.map Fi).map V.ref) out:=by
   have:∀{l:List Value},(∀v∈l,∃b m,v=Value.ref b∧Ay s.heap v=m∧H b=some (.tup [.int m.1,.int m.2]))→Vals ((l.map Fi).map V.ref) l:=fun {l}=>by
    induction l with
    |nil=>exact fun _=>.nil
    |cons v r ih=>
     intro hl
     obtain⟨b,m,rfl,_⟩:=hl v (List.mem_cons_self ..)
     exact .cons rfl (ih fun x hx=>hl x (List.mem_cons_of_mem _ hx))
   exact this hin
  have I2:=I.laid (h':=h') (t':=tk) (o:=.lst ((out.map Fi).map V.ref)) keep big (show ObjOk X.prog X.w _ _ _ (.lst _) from⟨by rw[List.length_map,List.length_map,hp.length_eq,List.length_map,sizeLine_eq];have:=congrArg List.length eks;simp at this;omega,out,n,hbs,hn⟩)
  refine⟨.ref g.objs.size,_,I2,rfl,q _ (out.map (Ay s.heap)) (out.map Fi) (I.hok.fresh big) hm ?_ ?_⟩
  ·rw[List.pairwise_map]
   refine pw.imp_of_mem fun {x y} hx hy e=>?_
   have b1:=hb2 _ (hm.mem_iff.mp (List.mem_map_of_mem hx))
   have b2:=hb2 _ (hm.mem_iff.mp (List.mem_map_of_mem hy))
   rw[rk,rk] at e
   unfold Bf
   omega
  ·refine Jt fun v hv=>?_
   obtain⟨b,m,rfl,e,z⟩:=hin v hv
   rw[e];exact z
theorem Iu(hcalm:X.calm=true):QC X (.builtin "sorted") (fun ds G Q=>∃d,ds=[d]∧∃p,d=.ref p∧∃ks:List ((Int×Int)×D),G p=some (.dct (ks.map fun k=>(Au k.1,k.2)))∧ks.length≤10000∧(∀k∈ks,0≤k.1.2∧k.1.2<1000)∧
  ∀l (ms:List (Int×Int)),G l=none→ms.Perm (ks.map (·.1))→ms.Pairwise Bf→Q (.ref l) (Ad G l (.lst (ms.map Ae)))):=(Kf hcalm).imp fun xs H Q ⟨ds,G,Q',dv,rg,⟨d,e,p,ep,ks,eg,hn,hb,q⟩,cl⟩=>by
 subst e ep
 obtain⟨v,rfl,h⟩:=dv.one
 cases h
 obtain⟨ks',eh,r⟩:=rg p _ eg
 have split:∀{a:List ((Int×Int)×D)} {b:List (List Key×V)},Paired (fun k q=>Au k.1=q.1∧DV X.K H k.2 q.2) a b→∃c:List ((Int×Int)×V),c.map (fun k=>(Au k.1,k.2))=b∧c.map (·.1)=a.map (·.1):=fun {a b} h=>by
  induction h with
  |nil=>exact⟨[],rfl,rfl⟩
  |@cons k q ks qs x t ih=>
   obtain⟨c,e1,e2⟩:=ih
   refine⟨(k.1,q.2)::c,?_,?_⟩
   ·rw[List.map_cons,e1]
    show(Au k.1,q.2)::qs=q::qs
    rw[x.1]
   ·rw[List.map_cons,e2];rfl
 obtain⟨c,e1,e2⟩:=split (Gf r)
 rw[←e1] at eh
 have hl:c.length=ks.length:=by have:=congrArg List.length e2;simpa using this
 refine⟨p,c,rfl,eh,by omega,fun k hk=>?_,fun l ms bs hl h1 h2 h3=>?_⟩
 ·have:k.1∈ks.map (·.1):=by rw[←e2];exact List.mem_map_of_mem hk
  obtain⟨k',hk',e⟩:=List.mem_map.mp this
  rw[←e];exact hb k' hk'
 ·rw[e2] at h1
  refine cl _ _ (q l ms (rg.free hl) h1 h2) _ (Ext.fresh hl) (rg.lst hl ?_) _ (.ref l)
  clear h1 h2
  induction h3 with
  |nil=>exact .nil
  |cons x t ih=>exact .cons (.tup x (.cons (.int _) (.cons (.int _) .nil))) ih
end
end D3
set_option maxRecDepth 100000
set_option maxHeartbeats 1000000
namespace D3
open PySem PySem.Spec
open PyProof.Rows hiding St
open L2 hiding St
section
variable{X:Cx}{k:Nat}
theorem Ri(hr:Room k X.A):X.A.units+1<cLine:=by have:=hr.un;omega
theorem Ps(hr:Room k X.A):OpR X (compareOp .NotIn) (fun x y H Q=>∃a kvs ks b,y=.ref a∧H a=some (.dT kvs)∧x=.ref b∧H b=some (.tup (ks.map kV))∧Q (.bl (!(Cs kvs ks).isSome)) H):=by
 intro pins s σ H x y v u Q I rx ry h
 obtain⟨a,kvs,ks,b,rfl,ea,rfl,eb,q⟩:=h
 obtain rfl:u=Value.ref a:=ry
 exact Vm (Ri hr) I (DGet.t ea eb) rx fun s' I'=>⟨.bl _,H,I',rfl,q⟩
theorem Pk(hr:Room k X.A):PSet X (fun o i v H Q=>∃a kvs ks b,o=.ref a∧H a=some (.dT kvs)∧i=.ref b∧H b=some (.tup (ks.map kV))∧kvs.length<sizeLine∧Q (upd H a (.dT (Db kvs ks v)))):=by
 intro pins s σ H o i v ov iv u Q I ro ri rv h
 obtain⟨a,kvs,ks,b,rfl,ea,rfl,eb,hl,q⟩:=h
 obtain rfl:ov=Value.ref a:=ro
 exact Qg (Ri hr) I (DPut.t ea eb hl) ri rv fun s' I'=>⟨_,I',q⟩
theorem Nh{pins:List (Addr×Obj)}{σ:L2.St}{H:Hp}{s:Shared}{A:Around}{E:Value→Shared→Prop}{a b:Addr}{kvs:List (List Key×V)}{ks:List Key}{v:V}{r:Value}{Q:Unit→Shared→Prop}(hu:(tupleKind (A0 X.prog X.w)).room A)(I:Inv X pins σ H s)(e:H a=some (.dT kvs))(eb:H b=some (.tup (ks.map kV)))(l:kvs.length<sizeLine)(rv:RelV v r)(h:∀s',Inv X pins σ (upd H a (.dT (Db kvs ks v))) s'→(∀c o,c≠a→s.heap.get? c=some o→s'.heap.get? c=some o)→Q () s'):wpAny (model X.prog X.w) A (dictSet a (.ref b) r) Q E s:=by
 obtain⟨z,hd,xs,rel,dd⟩:=We I.hok e
 have hz:xs.length≤sizeLine:=by rw[←Paired.length rel];exact z
 have hl:(Db kvs ks v).length≤sizeLine:=by have:=Di kvs ks v;omega
 refine wpAny_dictSet_heap (hsz:=hz) hu (Jo I.hok eb) dd fun h' dd' hs=>h _ ?_ fun c o hc eo=>(hs.2 c hc).trans eo
 obtain⟨q,es,ep,hq,h2,h3,h4,_,h5⟩:=dd'
 refine Jz I (by rw[e];exact True.intro) hs ⟨q,hq⟩ ⟨hl,hd,_,(rel.put ks eb rv).keeps fun c ys ec=>?_,q,es,ep,hq,h2,h3,h4,h5⟩
 rw[Ar (Nw ec e (fun z=>nomatch z))]
 exact ec
end
theorem Tt{P:Program}{w:World}{A:Around}{E:Value→Shared→Prop}{s:Shared}{env:Env}{k v:Expr}{pos:Pos}{Q:Value→Shared→Prop}(h:wpAny (model P w) A (eval k env) (fun kv s1=>wpAny (model P w) A (eval v env) (fun vv s2=>wpAny (model P w) A (dictSet s.heap.objs.size kv vv) (fun _ s3=>Q (.ref s.heap.objs.size) s3) E s2) E s1) E
   { s with heap:=s.heap.push { cls:=.type "dict",data:=.dict #[] } }):wpAny (model P w) A (eval (.Dict [some k] [v] pos) env) Q E s:=by
 rw[arm_eval_Dict,zip_pairTrees [some k] [v] env pos rfl rfl,dictDisplay_pairs _ (by intro z;cases z) (by rw[pairTrees_length [some k] [v] env pos rfl rfl];exact(by decide:1<17))]
 refine wpAny_bind (wpAny_standAt (wpAny_bind ?_))
 unfold subDict
 refine wpAny_bind (wpAny_alloc (wpAny_bind (wpAny_holding ?_)))
 rw[if_pos (by rw[pairTrees_length [some k] [v] env pos rfl rfl];exact(by decide:1≤15))]
 refine wpAny_bind (pairTrees_cons_walk (wpAny_mono h (fun kv s1 h1=>wpAny_mono h1 (fun vv s2 h2=>pairTrees_nil_walk ?_) fun _ _ e=>e) fun _ _ e=>e))
 refine wpAny_holding (wpAny_bind ?_)
 rw[List.forIn_cons]
 refine wpAny_bind (wpAny_bind (wpAny_mono h2 (fun _ s3 h3=>wpAny_pure ?_) fun _ _ e=>e))
 dsimp only
 rw[List.forIn_nil]
 exact wpAny_pure (wpAny_pure (wpAny_pure (wpAny_pure h3)))
section
variable{X:Cx}{k:Nat}
def W3(tk tv:TE):TE:=fun σ H Q=>∀p,H p=none→tk σ (upd H p (.dT [])) fun x H1=>tv σ H1 fun y H2=>H2 p=some (.dT [])∧∃b ks,x=.ref b∧H2 b=some (.tup (ks.map kV))∧Q (.ref p) (upd H2 p (.dT [(ks,y)]))
theorem Xf(hr:Room k X.A):(tupleKind (A0 X.prog X.w)).room X.A:=show X.A.units<cLine by have:=hr.un;omega
theorem Su{a b:Expr}{ta tb:TE}{pos:Pos}(hr:Room k X.A)(ha:PE X a ta)(hb:PE X b tb):PE X (.Dict [some a] [b] pos) (W3 ta tb):=by
 intro pins s σ H Q I q
 have hn:=I.hok.fresh (Nat.le_refl s.heap.objs.size)
 have I1:=I.laid (a:=s.heap.objs.size) (o:=.dT []) (h':=s.heap.push { cls:=.type "dict",data:=.dict #[] }) (t':=s.toks) (fun _ _ q=>Heap.get?_push_of_some _ q) (Nat.le_refl _) (Lm s.heap I.big)
 refine Tt (thn (ha pins _ σ _ _ I1 (q _ hn)) fun u s1 ⟨x,H1,I2,rx,q1⟩=>thn (hb pins s1 σ H1 _ I2 q1) fun u2 s2 ⟨y,H2,I3,ry,e0,c,ks,ex,ec,q2⟩=>?_)
 subst ex
 obtain rfl:u=Value.ref c:=rx
 exact Nh (Xf hr) I3 e0 ec (by decide +kernel) ry fun s3 I4 _=>⟨.ref s.heap.objs.size,_,I4,rfl,q2⟩
end
section
variable{X:Cx}{pins:List (Addr×Obj)}{σ:L2.St}{H:Hp}{p a it:Addr}{ys:List V}{es:List (List Key×V)}
end
end D3
set_option maxRecDepth 100000
set_option maxHeartbeats 1000000
namespace D3
open PySem PySem.Spec
open PyProof.Rows hiding St
open L2 hiding St
def Nx:List D→Option (List Key)
 |[]=>some []
 |d::r=>match Wq d,Nx r with
  |some k,some ks=>some (k::ks)
  |_,_=>none
def Kv:D→Option (List Key)
 |.tup ds=>Nx ds
 |_=>none
theorem Ld{K:W.Frag}{H:Hp}:∀{ds:List D} {ks:List Key} {vs:List V},Nx ds=some ks→DVs K H ds vs→vs=ks.map kV
 |[],_,_,e,.nil=>by cases e;rfl
 |d::r,ks,_,e,.cons h t=>by
  simp only[Nx] at e
  split at e
  ·rename_i k ks' h1 h2
   cases e
   rw[List.map_cons,Vf h1 h,Ld h2 t]
  ·cases e
theorem Gh{K:W.Frag}{H:Hp}{d:D}{v:V}{k:List Key}(e:Kv d=some k)(dv:DV K H d v):∃b,v=.ref b∧H b=some (.tup (k.map kV)):=by
 cases dv with
 |tup e' r=>exact⟨_,rfl,by rw[←Ld e r];exact e'⟩
 |_=>cases e
theorem Mx{H:Hp}{p:Addr}{ks:List (List Key×V)}{u:HO}(e:H p=some (.dT ks)):Ext H (upd H p u):=Ext.write e (fun xs z=>by cases z) (fun ob w z=>by cases z)
theorem RelG.dtW{K:W.Frag}{H:Hp}{G:Gp}(r:RelG K H G){p:Addr}{ks ks':List (List Key×V)}{kvs':List (List Key×D)}(e:H p=some (.dT ks))(pr:Paired (Ent (List Key) K H) kvs' ks'):RelG K (upd H p (.dT ks')) (Ad G p (.dct kvs')):=by
 have x:Ext H (upd H p (.dT ks')):=Mx e
 intro a o ea
 by_cases ha:a=p
 ·subst ha
  rw[Aa] at ea
  cases ea
  exact⟨ks',A4,L2.Paired.mapP pr fun _ _ z=>⟨z.1,z.2.ext x⟩⟩
 ·rw[Ao ha] at ea
  exact(r a o ea).upd x (.inr ha)
theorem RelG.dtN{K:W.Frag}{H:Hp}{G:Gp}(r:RelG K H G){p:Addr}{ks:List (List Key×V)}{kvs:List (List Key×D)}(hp:H p=none)(pr:Paired (Ent (List Key) K H) kvs ks):RelG K (upd H p (.dT ks)) (Ad G p (.dct kvs)):=by
 intro a o ea
 by_cases ha:a=p
 ·subst ha
  rw[Aa] at ea
  cases ea
  exact⟨ks,A4,L2.Paired.mapP pr fun _ _ z=>⟨z.1,z.2.ext (Ext.fresh hp)⟩⟩
 ·rw[Ao ha] at ea
  exact(r a o ea).upd (Ext.fresh hp) (.inl hp)
section
variable{X:Cx}{n:Nat}{a b:Expr}{ta tb:DTE}{pos:Pos}
def Y7(neg:Bool):DR2:=fun x y G Q=>∃p,y=.ref p∧∃kvs,G p=some (.dct kvs)∧∃k,Kv x=some k∧Q (.bl (if neg=true then !(E1 kvs k).isSome else (E1 kvs k).isSome)) G
theorem S5(hr:Room n X.A):QOp X (compareOp .NotIn) (Y7 true):=L2.OpR.imp (Ps hr) fun x y H Q ⟨dx,dy,G,Q',hx,hy,rg,⟨p,ep,kvs,eg,k,ek,q⟩,cl⟩=>by
 subst ep
 cases hy
 obtain⟨ks,eh,r⟩:=rg p _ eg
 obtain⟨c,rfl,ec⟩:=Gh ek hx
 exact⟨p,ks,k,c,rfl,eh,rfl,ec,by rw[isSome_eq r];exact cl _ _ q H (Ext.refl H) rg _ (.bl _)⟩
def Rb:Hw:=fun o i v G Q=>∃p,o=.ref p∧∃k,Kv i=some k∧∃kvs,G p=some (.dct kvs)∧kvs.length<sizeLine∧Q (Ad G p (.dct (Qw kvs k v)))
theorem N5(hr:Room n X.A):Ww X Rb:=(Pk hr).imp fun o i v H Q ⟨d1,d2,d3,G,Q',h1,h2,h3,rg,⟨p,e1,k,ek,kvs,eg,hl,q⟩,cl⟩=>by
 subst e1
 cases h1
 obtain⟨ks,eh,r⟩:=rg p _ eg
 obtain⟨c,rfl,ec⟩:=Gh ek h2
 exact⟨p,ks,k,c,rfl,eh,rfl,ec,by rw[←Vl r];exact hl,cl _ q _ (Mx eh) (rg.dtW eh (Vk h3 r))⟩
def Ru(tk tv:DTE):DTE:=fun σ G Q=>∀p,G p=none→tk σ (Ad G p (.dct [])) fun x G1=>tv σ G1 fun y G2=>G2 p=some (.dct [])∧∃k,Kv x=some k∧Q (.ref p) (Ad G2 p (.dct [(k,y)]))
theorem Uq(hr:Room n X.A)(ha:QE X a ta)(hb:QE X b tb):QE X (.Dict [some a] [b] pos) (Ru ta tb):=(Su hr ha hb).imp fun σ H Q ⟨σD,G,Q',rs,rg,h,cl⟩=>by
 intro p hp
 refine⟨σD,_,_,rs.ext (Ext.fresh hp),rg.dtN hp .nil,h p (rg.free hp),fun x G1 h1 H1 x1 rg1 v dv=>?_⟩
 refine⟨σD,G1,_,(rs.ext (Ext.fresh hp)).ext x1,rg1,h1,fun y G2 ⟨eg,k,ek,q⟩ H2 x2 rg2 v2 dv2=>?_⟩
 obtain⟨ks,eh,r⟩:=rg2 p _ eg
 cases r
 obtain⟨c,rfl,ec⟩:=Gh ek (dv.ext x2)
 refine⟨eh,c,k,rfl,ec,cl _ _ q _ (((Ext.fresh hp).trans x1).trans (x2.trans (Mx eh))) (rg2.dtW eh (.cons ⟨rfl,dv2⟩ .nil)) _ (.ref p)⟩
def Rv:DTE:=fun _ G Q=>∀p,G p=none→Q (.ref p) (Ad G p (.dct []))
theorem Uo:QE X (.Dict [] [] pos) Rv:=pe_dnewT.imp fun σ H Q ⟨σD,G,Q',rs,rg,h,cl⟩=>fun p hp=>
 cl _ _ (h p (rg.free hp)) _ (Ext.fresh hp) (rg.dtN hp .nil) _ (.ref p)
end
def Bt(rs:List (Int×Int)):GO:=.dct (rs.map fun c=>(Au c,D.bl true))
theorem Ir{a b:Int×Int}(h:Au a=Au b):a=b:=by
 unfold Au at h
 simp only[List.cons.injEq,Sum.inl.injEq,and_true] at h
 exact Prod.ext h.1 h.2
theorem D6{c:Int×Int}:Kv (Ae c)=some (Au c):=rfl
theorem Hx{c:Int×Int}:∀{rs:List (Int×Int)},(E1 (rs.map fun c=>(Au c,D.bl true)) (Au c)).isSome=decide (c∈rs)
 |[]=>by simp[E1]
 |x::r=>by
  unfold E1
  rw[List.map_cons,List.find?_cons]
  by_cases h:x=c
  ·subst h;simp
  ·have h':Au x≠Au c:=fun z=>h (Ir z)
   have:=Hx (c:=c) (rs:=r)
   unfold E1 at this
   simp only[h',decide_false] at *
   rw[this]
   simp[Ne.symm h]
def Jb(rs:List (Int×Int))(c:Int×Int):List (Int×Int):=if c∈rs then rs else rs++[c]
theorem Ic{c:Int×Int}{rs:List (Int×Int)}:Qw (rs.map fun c=>(Au c,D.bl true)) (Au c) (D.bl true)=(Jb rs c).map fun c=>(Au c,D.bl true):=by
 unfold Qw Jb
 have e:((rs.map fun c=>(Au c,D.bl true)).any fun kv=>decide (kv.1=Au c))=decide (c∈rs):=by
  rw[List.any_map,Bool.eq_iff_iff]
  simp only[List.any_eq_true,Function.comp_apply,decide_eq_true_eq]
  exact⟨fun⟨x,hx,e⟩=>Ir e ▸ hx,fun h=>⟨c,h,rfl⟩⟩
 rw[e]
 by_cases h:c∈rs
 ·rw[if_pos (by simpa using h),if_pos h,List.map_map]
  refine List.map_congr_left fun x _=>?_
  show(if Au x=Au c then _ else _)=_
  split<;>rfl
 ·rw[if_neg (by simpa using h),if_neg h,List.map_append];rfl
end D3
set_option maxRecDepth 100000
namespace D3
open PySem PySem.Spec
open PyProof.Rows hiding St
open L2 hiding St
def fiv(m i:Nat):Nat:=(i*5+1) % (m+1)
def orb(m:Nat):Nat→Nat→List Nat
 |0,_=>[]
 |n+1,i=>i::orb m n (fiv m i)
def Jj(m:Nat):Nat→Nat→Nat
 |0,i=>i
 |n+1,i=>Jj m n (fiv m i)
theorem Jv(m:Nat):∀(n i e:Nat),e∈orb m n i→∃k,k<n∧Jj m k i=e
 |0,_,_,h=>by simp[orb] at h
 |n+1,i,e,h=>by
  rcases List.mem_cons.mp h with rfl|h
  ·exact⟨0,by omega,rfl⟩
  ·obtain⟨k,hk,e⟩:=Jv m n _ e h
   exact⟨k+1,by omega,e⟩
theorem Et(m:Nat):∀(a b i:Nat),Jj m (a+b) i=Jj m b (Jj m a i)
 |0,b,i=>by rw[Nat.zero_add];rfl
 |a+1,b,i=>by rw[show a+1+b=(a+b)+1 by omega];exact Et m a b _
structure Round(m:Nat):Prop where
 all:∀e,e<m+1→e∈orb m (m+1) 0
 rnd:Jj m (m+1) 0=0
theorem Round.to{m:Nat}(R:Round m){i e:Nat}(hi:i≤m)(he:e≤m):∃k,k≤m∧Jj m k i=e:=by
 obtain⟨a,ha,ea⟩:=Jv m _ _ _ (R.all i (by omega))
 obtain⟨b,hb,eb⟩:=Jv m _ _ _ (R.all e (by omega))
 by_cases h:a≤b
 ·refine⟨b-a,by omega,?_⟩
  rw[←ea,←Et,show a+(b-a)=b by omega,eb]
 ·refine⟨(m+1-a)+b,by omega,?_⟩
  rw[←ea,←Et,show a+(m+1-a+b)=(m+1)+b by omega,Et,R.rnd,eb]
def Yy(m:Nat):Bool:=(List.range (m+1)).all (fun e=>(orb m (m+1) 0).contains e)&&Jj m (m+1) 0 == 0
theorem Em{m:Nat}(h:Yy m=true):Round m:=by
 unfold Yy at h
 rw[Bool.and_eq_true] at h
 refine⟨fun e he=>?_,by simpa using h.2⟩
 have:=List.all_eq_true.mp h.1 e (List.mem_range.mpr he)
 simpa using this
theorem rnd7:Round 7:=Em (by decide +kernel)
theorem V0:Round 31:=Em (by decide +kernel)
theorem Rk:Round 127:=Em (by decide +kernel)
theorem Rj:Round 511:=Em (by decide +kernel)
def lps(m:Nat):Nat→Nat→Nat→Nat×Nat
 |0,i,q=>(i,q)
 |n+1,i,q=>lps m n (SetTable.leap m i q).1 (SetTable.leap m i q).2
theorem Of(m:Nat):∀(a b i q:Nat),lps m (a+b) i q=lps m b (lps m a i q).1 (lps m a i q).2
 |0,b,i,q=>by rw[Nat.zero_add];rfl
 |a+1,b,i,q=>by rw[show a+1+b=(a+b)+1 by omega];exact Of m a b _ _
theorem V8(m:Nat):∀(n i q:Nat),(lps m n i q).2=q / 32 ^ n
 |0,i,q=>by simp[lps]
 |n+1,i,q=>by
  rw[lps,V8 m n]
  show q / 32 / 32 ^ n=_
  rw[Nat.div_div_eq_div_mul,Nat.pow_succ,Nat.mul_comm]
theorem Rx{m:Nat}:∀(n:Nat) {i q:Nat},i≤m→(lps m n i q).1≤m
 |0,i,q,h=>h
 |n+1,i,q,h=>Rx n (by show(i*5+1+q / 32) % (m+1)≤m;have:=Nat.mod_lt (i*5+1+q / 32) (show 0<m+1 by omega);omega)
theorem La(m:Nat):∀(n i:Nat),lps m n i 0=(Jj m n i,0)
 |0,i=>rfl
 |n+1,i=>by
  rw[lps]
  show lps m n ((i*5+1+0 / 32) % (m+1)) (0 / 32)=_
  rw[Nat.zero_div,Nat.add_zero,La m n];rfl
theorem Rw{m:Nat}(R:Round m){i q e:Nat}(hi:i≤m)(hq:q<2 ^ 64)(he:e≤m):∃n,n<m+15∧(lps m n i q).1=e:=by
 have hz:(lps m 13 i q).2=0:=by
  rw[V8];exact Nat.div_eq_of_lt (Nat.lt_trans hq (by decide))
 obtain⟨k,hk,e1⟩:=R.to (Rx 13 (q:=q) hi) he
 refine⟨13+k,by omega,?_⟩
 rw[Of,hz,La];exact e1
theorem Ox(h:Int):SetTable.bits h<2 ^ 64:=by
 unfold SetTable.bits
 have h1:=Int.emod_nonneg h (show(2 ^ 64:Int)≠0 by decide)
 have h2:=Int.emod_lt_of_pos h (show(0:Int)<2 ^ 64 by decide)
 omega
def Fn(t:SetTable):Nat→SetTable.Probe→SetTable.Probe
 |0,p=>p
 |n+1,p=>Fn t n (t.advance p)
theorem Lu(t:SetTable):∀(a b:Nat) (p:SetTable.Probe),Fn t (a+b) p=Fn t b (Fn t a p)
 |0,b,p=>by rw[Nat.zero_add];rfl
 |a+1,b,p=>by rw[show a+1+b=(a+b)+1 by omega];exact Lu t a b _
def Hu(m i q:Nat):SetTable.Probe:={ j:=i,more:=SetTable.runEnd m i-i,i:=i,perturb:=q,dummy:=none }
theorem Ib(t:SetTable):∀(n j i q:Nat),Fn t (n+1) { j:=j,more:=n,i:=i,perturb:=q,dummy:=none }=Hu t.mask (SetTable.leap t.mask i q).1 (SetTable.leap t.mask i q).2
 |0,j,i,q=>by
  show Fn t 0 (t.advance _)=_
  rw[Fn]
  unfold SetTable.advance
  rw[if_neg (by simp)];rfl
 |n+1,j,i,q=>by
  show Fn t (n+1) (t.advance _)=_
  have:t.advance { j:=j,more:=n+1,i:=i,perturb:=q,dummy:=none }={ j:=j+1,more:=n,i:=i,perturb:=q,dummy:=none }:=by
   unfold SetTable.advance
   rw[if_pos (by simp)];rfl
  rw[this];exact Ib t n _ _ _
theorem Xd(m i:Nat):SetTable.runEnd m i-i≤9:=by unfold SetTable.runEnd;split<;>omega
theorem Lg(t:SetTable):∀(n i q:Nat),∃k,k≤10*n∧Fn t k (Hu t.mask i q)=Hu t.mask (lps t.mask n i q).1 (lps t.mask n i q).2
 |0,i,q=>⟨0,by omega,rfl⟩
 |n+1,i,q=>by
  obtain⟨k,hk,e⟩:=Lg t n (SetTable.leap t.mask i q).1 (SetTable.leap t.mask i q).2
  have h9:=Xd t.mask i
  refine⟨(SetTable.runEnd t.mask i-i+1)+k,by omega,?_⟩
  rw[Lu]
  unfold Hu at e ⊢
  rw[Ib];exact e
structure PIn(t:SetTable)(p:SetTable.Probe):Prop where
 du:p.dummy=none
 in1:p.j+p.more≤t.mask
theorem PIn.head{t:SetTable}{i q:Nat}(h:i≤t.mask):PIn t (Hu t.mask i q):=⟨rfl,by
 show i+(SetTable.runEnd t.mask i-i)≤_
 unfold SetTable.runEnd
 split<;>omega⟩
theorem PIn.adv{t:SetTable}{p:SetTable.Probe}(h:PIn t p):PIn t (t.advance p):=by
 obtain⟨j,more,i,q,d⟩:=p
 obtain⟨h1,h2⟩:=h
 simp only at h1 h2
 subst h1
 unfold SetTable.advance
 split
 ·rename_i hm
  exact⟨rfl,by show j+1+(more-1)≤_;simp only at hm;omega⟩
 ·have:(SetTable.leap t.mask i q).1≤t.mask:=by
   show(i*5+1+q / 32) % (t.mask+1)≤t.mask
   have:=Nat.mod_lt (i*5+1+q / 32) (show 0<t.mask+1 by omega);omega
  exact PIn.head this
theorem Lh{t:SetTable}(hd:t.dummies=#[]){f:Nat→Int}{h:Int}(hf:∀i,i<t.place.size→f i≠h):∀(fuel:Nat) (p:SetTable.Probe),PIn t p→(∃n,n<fuel∧t.slot (Fn t n p).j=.empty)→∃j,SetTable.probe.go t f h fuel p=some (.empty j none)∧j≤t.mask∧t.slot j=.empty
 |0,p,_,⟨n,hn,_⟩=>absurd hn (Nat.not_lt_zero _)
 |fuel+1,p,hp,⟨n,hn,he⟩=>by
  rw[SetTable.probe.go]
  cases hs:t.slot p.j with
  |empty=>
   have:=hp.in1
   rw[hp.du]
   exact⟨p.j,rfl,by omega,hs⟩
  |dummy=>exact absurd hs (M3 hd _)
  |live i=>
   have hi:i<t.place.size:=by
    unfold SetTable.slot at hs
    dsimp only at hs
    split at hs
    ·rename_i hq
     cases hs
     exact(Array.getElem?_eq_some_iff.mp (by simpa using hq)).1
    ·split at hs<;>cases hs
   have hb:(f i == h)=false:=by simpa using hf i hi
   simp only[hb,Bool.false_eq_true,if_false]
   refine Lh hd hf fuel _ hp.adv ?_
   cases n with
   |zero=>rw[show Fn t 0 p=p from rfl,hs] at he;cases he
   |succ n=>exact⟨n,by omega,he⟩
theorem Ly{t:SetTable}(R:Round t.mask)(hd:t.dummies=#[]){f:Nat→Int}{h:Int}(hf:∀i,i<t.place.size→f i≠h){e:Nat}(he:e≤t.mask)(hs:t.slot e=.empty):∃j,t.probe f h (t.probeStart h)=some (.empty j none)∧j≤t.mask∧t.slot j=.empty:=by
 have hi:SetTable.bits h % (t.mask+1)≤t.mask:=by have:=Nat.mod_lt (SetTable.bits h) (show 0<t.mask+1 by omega);omega
 obtain⟨n,hn,e1⟩:=Rw R hi (Ox h) he
 obtain⟨k,hk,e2⟩:=Lg t n (SetTable.bits h % (t.mask+1)) (SetTable.bits h)
 exact Lh hd hf _ _ (PIn.head hi) ⟨k,by show k<10*(t.mask+15);omega,by
  have:t.probeStart h=Hu t.mask (SetTable.bits h % (t.mask+1)) (SetTable.bits h):=rfl
  rw[←this] at e2
  show t.slot (Fn t k (t.probeStart h)).j=_
  rw[e2];show t.slot (lps t.mask n _ _).1=_;rw[e1];exact hs⟩
theorem M2{t:SetTable}(hd:t.dummies=#[])(hz:t.place.size≤t.mask):∃e,e≤t.mask∧t.slot e=.empty:=by
 refine Classical.byContradiction fun hn=>?_
 have all:∀e∈List.range (t.mask+1),e∈t.place.toList:=fun e he=>by
  have he:=List.mem_range.mp he
  have h1:t.slot e≠.empty:=fun z=>hn ⟨e,by omega,z⟩
  unfold SetTable.slot at h1
  dsimp only at h1
  rw[hd,Mw] at h1
  split at h1
  ·rename_i hq
   have:t.place[SetTable.below t.place e]? = some e:=by simpa using hq
   rw[←Array.getElem?_toList] at this
   exact List.mem_of_getElem? this
  ·exact absurd rfl h1
 have h2:∀(a b:List Nat),a.Nodup→(∀k,k∈a→k∈b)→a.length≤b.length:=by
  intro a
  induction a with
  |nil=>intro b _ _;exact Nat.zero_le _
  |cons x r ih=>
   intro b h s
   obtain⟨h1,h2⟩:=List.nodup_cons.mp h
   have hb:x∈b:=s x (by simp)
   have:=ih (b.erase x) h2 fun k hk=>(List.mem_erase_of_ne (fun e:k=x=>h1 (by rw[←e];exact hk))).mpr (s k (by simp[hk]))
   rw[List.length_erase_of_mem hb] at this
   have:=List.length_pos_of_mem hb
   rw[List.length_cons];omega
 have:=h2 _ _ List.nodup_range all
 simp at this
 omega
end D3
set_option maxRecDepth 100000
namespace D3
open PySem PySem.Spec
open PyProof.Rows hiding St
open L2 hiding St
def lvO(m:Nat)(owner:Array (Option Nat)):List (Nat×Nat):=(List.range (m+1)).filterMap fun j=>(owner.getD j none).map fun k=>(j,k)
theorem Lj{β:Type}{f g:Nat→Option β}:∀{l:List Nat},(∀x∈l,g x=f x)→l.filterMap g=l.filterMap f
 |[],_=>rfl
 |x::r,h=>by rw[List.filterMap_cons,List.filterMap_cons,h x (by simp),Lj (l:=r) fun y hy=>h y (by simp[hy])]
theorem Rz{β:Type}{f g:Nat→Option β}{j:Nat}{b:β}(hf:f j=none)(hg:g j=some b)(hne:∀x,x≠j→g x=f x):∀{l:List Nat},l.Nodup→j∈l→(l.filterMap g).Perm (b::l.filterMap f)
 |[],_,h=>by simp at h
 |x::r,nd,h=>by
  obtain⟨h1,h2⟩:=List.nodup_cons.mp nd
  by_cases e:x=j
  ·subst e
   have:r.filterMap g=r.filterMap f:=by
    refine Lj fun y hy=>hne y fun z=>h1 (by rw[←z];exact hy)
   rw[List.filterMap_cons,List.filterMap_cons,hf,hg,this]
  ·have ih:=Rz hf hg hne h2 ((List.mem_cons.mp h).resolve_left fun z=>e z.symm)
   rw[List.filterMap_cons,List.filterMap_cons,hne x e]
   cases f x with
   |none=>exact ih
   |some c=>exact(ih.cons c).trans (List.Perm.swap _ _ _)
theorem Om{β:Type}{f:Nat→Option β}:∀{l:List Nat},(∀x∈l,f x≠none)→(l.filterMap f).length=l.length
 |[],_=>rfl
 |x::r,h=>by
  have ih:=Om (f:=f) (l:=r) fun y hy=>h y (by simp[hy])
  rw[List.filterMap_cons]
  cases e:f x with
  |none=>exact absurd e (h x (by simp))
  |some c=>simp[ih]
theorem Hc{m:Nat}{owner:Array (Option Nat)}(ho:owner.size=m+1):∀(fuel i q:Nat),i≤m→(∃n,n<fuel∧owner[(lps m n i q).1]? = some none)→∃j,SetTable.layClean.free m owner fuel i q=some j∧owner[j]? = some none
 |0,i,q,_,⟨n,hn,_⟩=>absurd hn (Nat.not_lt_zero _)
 |fuel+1,i,q,hi,⟨n,hn,he⟩=>by
  rw[SetTable.layClean.free]
  have isn:∀k,(owner.getD k (some 0)).isNone=true↔owner[k]? = some none:=fun k=>by
   rw[Array.getD_eq_getD_getElem?]
   cases h:owner[k]? with
   |none=>simp
   |some x=>cases x<;>simp
  cases hq:(List.range (SetTable.runEnd m i+1-i)).find? fun k=>(owner.getD (i+k) (some 0)).isNone with
  |some k=>
   have:=List.find?_some hq
   exact⟨i+k,rfl,(isn _).mp this⟩
  |none=>
   have h0:=List.find?_eq_none.mp hq 0 (List.mem_range.mpr (by unfold SetTable.runEnd;split<;>omega))
   cases n with
   |zero=>exact absurd ((isn _).mpr he) h0
   |succ n=>
    have hl:(SetTable.leap m i q).1≤m:=by
     show(i*5+1+q / 32) % (m+1)≤m
     have:=Nat.mod_lt (i*5+1+q / 32) (show 0<m+1 by omega);omega
    exact Hc ho fuel _ _ hl ⟨n,by omega,he⟩
theorem Td{m:Nat}(R:Round m){owner:Array (Option Nat)}{k:Nat}(ho:owner.size=m+1)(hp:((lvO m owner).map (·.2)).Perm (List.range k))(hk:k≤m)(h:Int) :
  ∃j,SetTable.layClean.free m owner (SetTable.turns m) (SetTable.bits h % (m+1)) (SetTable.bits h)=some j∧(owner.setIfInBounds j (some k)).size=m+1∧((lvO m (owner.setIfInBounds j (some k))).map (·.2)).Perm (List.range (k+1)):=by
 have hi:SetTable.bits h % (m+1)≤m:=by have:=Nat.mod_lt (SetTable.bits h) (show 0<m+1 by omega);omega
 have hem:∃e,e≤m∧owner[e]? = some none:=by
  refine Classical.byContradiction fun hn=>?_
  have:=Om (f:=fun j=>(owner.getD j none).map fun k=>(j,k)) (l:=List.range (m+1)) fun x hx z=>by
   have hx:=List.mem_range.mp hx
   refine hn ⟨x,by omega,?_⟩
   rw[Array.getElem?_eq_getElem (by omega)]
   rw[Array.getD,dif_pos (by omega)] at z
   rw[Option.map_eq_none_iff] at z
   exact congrArg some z
  have h2:=hp.length_eq
  rw[List.length_map,lvO,this] at h2
  simp at h2
  omega
 obtain⟨e,he,hn⟩:=hem
 obtain⟨n,h1,h2⟩:=Rw R hi (Ox h) he
 obtain⟨j,hj,hjn⟩:=Hc ho (SetTable.turns m) _ (SetTable.bits h) hi ⟨n,h1,by rw[h2];exact hn⟩
 have hjl:j<owner.size:=(Array.getElem?_eq_some_iff.mp hjn).1
 refine⟨j,hj,by simpa using ho,?_⟩
 have hup:=Rz (f:=fun j=>(owner.getD j none).map fun k=>(j,k)) (g:=fun x=>((owner.setIfInBounds j (some k)).getD x none).map fun k=>(x,k)) (j:=j) (b:=(j,k)) (by rw[Array.getD_eq_getD_getElem?,hjn];rfl)
  (by rw[Array.getD_eq_getD_getElem?,Array.getElem?_setIfInBounds_self_of_lt hjl];rfl)
  (fun x hx=>by rw[Array.getD_eq_getD_getElem?,Array.getD_eq_getD_getElem?,Array.getElem?_setIfInBounds_ne (Ne.symm hx)]) (l:=List.range (m+1)) List.nodup_range (List.mem_range.mpr (by omega))
 have h3:((lvO m (owner.setIfInBounds j (some k))).map (·.2)).Perm (k::(lvO m owner).map (·.2)):=hup.map (·.2)
 rw[List.range_succ]
 exact h3.trans ((hp.cons k).trans (List.perm_append_comm (l₁:=[k])))
theorem Lc{m:Nat}(R:Round m):∀(hs:List Int) (owner:Array (Option Nat)) (k:Nat),owner.size=m+1→((lvO m owner).map (·.2)).Perm (List.range k)→k+hs.length≤m+1→
  ∃owner',hs.foldl (fun acc h=>do
   let (owner,k) ←acc
   let j ←SetTable.layClean.free m owner (SetTable.turns m) (SetTable.bits h % (m+1)) (SetTable.bits h)
   pure (owner.setIfInBounds j (some k),k+1)) (some (owner,k))=some (owner',k+hs.length)∧((lvO m owner').map (·.2)).Perm (List.range (k+hs.length))
 |[],owner,k,_,hp,_=>⟨owner,rfl,hp⟩
 |h::r,owner,k,ho,hp,hk=>by
  rw[List.length_cons] at hk
  obtain⟨j,e,h1,h2⟩:=Td R ho hp (by omega) h
  obtain⟨o',e',h'⟩:=Lc R r _ _ h1 h2 (by omega)
  refine⟨o',?_,by rw[List.length_cons,show k+(r.length+1)=k+1+r.length by omega];exact h'⟩
  rw[List.foldl_cons,List.length_cons,show k+(r.length+1)=k+1+r.length by omega,←e']
  congr 1
  show(SetTable.layClean.free m owner (SetTable.turns m) (SetTable.bits h % (m+1)) (SetTable.bits h)).bind _=_
  rw[e];rfl
theorem Tg{m finger moves:Nat}{led plain:Bool}(R:Round m){hs:Array Int}(hz:hs.size≤m):∃t o,SetTable.laid m finger moves led plain hs=some (t,o)∧o.toList.Perm (List.range hs.size)∧t.mask=m∧t.place.size=hs.size∧(∀x∈t.place.toList,x≤m)∧t.led=led∧t.plain=plain∧t.moves=moves:=by
 have h0:lvO m (Array.replicate (m+1) none)=[]:=by
  unfold lvO
  rw[List.filterMap_eq_nil_iff]
  intro x _
  rw[Array.getD_eq_getD_getElem?,Array.getElem?_replicate]
  split<;>rfl
 obtain⟨o',e,hp⟩:=Lc R hs.toList (Array.replicate (m+1) none) 0 (by simp) (by rw[h0];exact .nil) (by simp;omega)
 rw[Nat.zero_add,Array.length_toList] at e hp
 have hc:SetTable.layClean m hs=some o':=by
  unfold SetTable.layClean
  rw[←Array.foldl_toList,e];rfl
 have hl:((lvO m o').map (·.1)).length=hs.size:=by rw[List.length_map];have:=hp.length_eq;rw[List.length_map,List.length_range] at this;exact this
 refine⟨_,_,by unfold SetTable.laid;rw[hc];rfl,by simpa[lvO] using hp,rfl,by simpa[lvO] using hl,fun x hx=>?_,rfl,rfl,rfl⟩
 have hx:x∈(lvO m o').map (·.1):=by simpa[lvO] using hx
 obtain⟨y,hy,rfl⟩:=List.mem_map.mp hx
 obtain⟨j,hj,e⟩:=List.mem_filterMap.mp hy
 rw[Option.map_eq_some_iff] at e
 obtain⟨k,_,rfl⟩:=e
 have:=List.mem_range.mp hj
 show j≤m
 omega
end D3
set_option maxRecDepth 100000
set_option maxHeartbeats 1000000
namespace D3
open PySem PySem.Spec
open PyProof.Rows hiding St
open L2 hiding St
def Dx(c:Int×Int):Int:=reduceHash (Builtin.Tuple.tupleHashOf [hashInt c.1,hashInt c.2])
def cn(n:Nat):Int×Int:=(((n / 9:Nat):Int),((n % 9:Nat):Int))
theorem Vi:((List.range 144).map fun n=>Dx (cn n)).Nodup:=by decide +kernel
theorem Rt{α β:Type}{f:α→β}:∀{l:List α},(l.map f).Nodup→∀{x y:α},x∈l→y∈l→f x=f y→x=y
 |[],_,_,_,h,_,_=>by simp at h
 |z::r,nd,x,y,hx,hy,e=>by
  rw[List.map_cons,List.nodup_cons] at nd
  rcases List.mem_cons.mp hx with a|a
  ·rcases List.mem_cons.mp hy with b|b
   ·rw[a,b]
   ·refine absurd ?_ nd.1;rw[←a,e];exact List.mem_map.mpr ⟨y,b,rfl⟩
  ·rcases List.mem_cons.mp hy with b|b
   ·refine absurd ?_ nd.1;rw[←b,←e];exact List.mem_map.mpr ⟨x,a,rfl⟩
   ·exact Rt nd.2 a b e
def Fj(c:Int×Int):Prop:=0≤c.1∧c.1<16∧0≤c.2∧c.2<9
theorem Qe{c d:Int×Int}(hc:Fj c)(hd:Fj d)(e:Dx c=Dx d):c=d:=by
 have cnn:∀c:Int×Int,Fj c→cn (c.1.toNat*9+c.2.toNat)=c∧c.1.toNat*9+c.2.toNat<144:=fun c ⟨h1,h2,h3,h4⟩=>by
  refine⟨Prod.ext ?_ ?_,by omega⟩
  ·show(((c.1.toNat*9+c.2.toNat) / 9:Nat):Int)=c.1;omega
  ·show(((c.1.toNat*9+c.2.toNat) % 9:Nat):Int)=c.2;omega
 obtain⟨e1,l1⟩:=cnn c hc
 obtain⟨e2,l2⟩:=cnn d hd
 have:=Rt Vi (List.mem_range.mpr l1) (List.mem_range.mpr l2) (by rw[e1,e2];exact e)
 rw[←e1,←e2,this]
structure SOkC(w:World)(es:Array (Int×Value))(t:SetTable)(L:List (Int×Value)):Prop where
 tok:TOk w t
 fit:t.fits es.size=true
 pm:es.toList.Perm L
 bnd:∀x∈t.place.toList,x≤t.mask
 msk:t.mask=7∧L.length≤4∨t.mask=31∧L.length≤18∨t.mask=127∧L.length≤76∨t.mask=511∧L.length≤300
section
variable{P:Program}{w:World}{A:Around}{E:Value→Shared→Prop}{s:Shared}{es:Array (Int×Value)}{t:SetTable}{L:List (Int×Value)}
theorem SOkC.len(h:SOkC w es t L):es.size=L.length:=by rw[←h.pm.length_eq,Array.length_toList]
theorem SOkC.base(h:SOkC w es t L):SBase w es t:=⟨h.tok,h.fit,by rw[h.len];have:=h.msk;show L.length<4096;omega⟩
theorem SOkC.rnd(h:SOkC w es t L):Round t.mask:=by
 rcases h.msk with ⟨e,_⟩|⟨e,_⟩|⟨e,_⟩|⟨e,_⟩<;>rw[e]
 ·exact rnd7
 ·exact V0
 ·exact Rk
 ·exact Rj
theorem SOkC.psz(h:SOkC w es t L):t.place.size=L.length:=by
 have:=h.fit
 simp only[SetTable.fits,Bool.and_eq_true,beq_iff_eq] at this
 rw[this.1,h.len]
theorem SOkC.fresh(led:Bool)(h:w.params.followText "set-order" = true∨led=true):SOkC w #[] (.fresh 0 0 led) []:=
 ⟨⟨fun i j _ h=>absurd h (Nat.not_lt_zero _),rfl,h⟩,rfl,.nil,fun e he=>by simp[SetTable.fresh] at he,.inl ⟨rfl,by decide⟩⟩
theorem Qc{ks:List Int}{a:Addr}{Q:Bool→Shared→Prop}(hk:IsTupleKey (intKind P w) s.heap ks a)(hq:Q true s):wpAny (model P w) A (hashByValue 8 (.ref a)) Q E s:=by
 have hT:=hk.typeIs
 obtain⟨o,items,n,ho,_,hd,hi⟩:=hk
 unfold hashByValue
 refine wpAny_bind (wpAny_specialOf hT F.slot_tuple_hash.lookup ?_)
 show wpAny _ _ (seqItems? (.ref a) >>= _) _ _ s
 refine wpAny_bind (wpAny_seqItems ho hd ?_)
 dsimp only[Option.getD]
 refine wpAny_bind ?_
 rw[←Array.forIn_toList]
 refine wpAny_forIn_list _ (fun B7 r s'=>r.1=none∧s'=s∧∃ks,ItemsAre (intKind P w) ks B7) _ ?_ ?_ _ _ ⟨rfl,rfl,ks,hi⟩
 ·rintro v B7 r s' ⟨hr,rfl,ks,hi⟩
  cases hi with
  |cons h1 h2=>
   obtain⟨t,rfl⟩:=Value.isInt_shape h1
   rw[show ∀n k t,hashByValue n (.int k t)=pure true from fun n k t=>by cases n<;>rfl]
   refine wpAny_bind (wpAny_pure ?_)
   simp only[Bool.not_true,Bool.false_eq_true,if_false]
   exact wpAny_pure ⟨rfl,rfl,_,h2⟩
 ·rintro⟨r1,r2⟩ s' ⟨hr,rfl,_⟩
  simp only at hr
  subst hr
  exact wpAny_pure hq
theorem Ph{a b:Addr}{ep:Nat}{h:Int}{ks:List Int}{Q:Bool→Shared→Prop}(ho:s.heap.get? a=some (Ah es ep t))(hO:SOkC w es t L)(hb:IsTupleKey (intKind P w) s.heap ks b)(hne:a≠b)(hn:h ∉ L.map (·.1))(hz:L.length<300)(fin:∀h' es' ep' t',Heap.SameBut a s.heap h'→h'.get? a=some (Ah es' ep' t')→SOkC w es' t' (L++[(h,.ref b)])→Q true { s with heap:=h' }) :
  wpAny (model P w) A (setAddHashed a (.ref b) h) Q E s:=by
 unfold setAddHashed setAddHashedIn
 refine wpAny_holding (wpAny_bind (wpAny_setState_of ho rfl hO.fit ?_));dsimp only
 rw[show byScan (.ref b) es=false from rfl];simp only[Bool.false_eq_true,if_false]
 have hm:=hO.msk
 obtain⟨e0,he0,hs0⟩:=M2 hO.tok.dum (by rw[hO.psz];omega)
 have hst:∀(i:Nat),i<t.place.size→((es[i]?.map (·.1)).getD 0)≠h:=fun i hi z=>by
  have hi':i<es.size:=by rw[hO.len,←hO.psz];exact hi
  rw[Array.getElem?_eq_getElem hi'] at z
  refine hn (List.mem_map.mpr ⟨es[i],hO.pm.mem_iff.mp (by simp),z⟩)
 obtain⟨j,hj,hjm,hjs⟩:=Ly hO.rnd hO.tok.dum (f:=fun i=>(es[i]?.map (·.1)).getD 0) (h:=h) hst he0 hs0
 refine wpAny_bind ?_
 unfold setSearch setSearchFrom
 refine wpAny_bind (wpAny_setState_of ho rfl hO.fit ?_);dsimp only
 have hgw:t.gaveWay=false:=by unfold SetTable.gaveWay;rcases hm with ⟨e,_⟩|⟨e,_⟩|⟨e,_⟩|⟨e,_⟩<;>rw[e]<;>rfl
 rw[hgw];simp only[Bool.false_eq_true,if_false]
 split
 ·rename_i met hmet
  have e:some met=some (SetTable.Met.empty j none):=hmet.symm.trans hj
  cases e
  refine wpAny_pure ?_
  dsimp only
  refine wpAny_bind (wpAny_setState_of ho rfl hO.fit ?_);dsimp only
  have hpn:t.place[SetTable.below t.place j]?≠some j:=fun z=>by
   unfold SetTable.slot at hjs
   dsimp only at hjs
   rw[z] at hjs
   simp at hjs
  have ht1:TOk w (t.put j).1:=hO.tok.put hpn
  have hp1:((t.put j).1.place.toList).Perm (t.place.push j).toList:=SetTable.insertAt_perm _ _ _
  have hp2:((SetTable.insertAt es (t.put j).2 (h,Value.ref b)).toList).Perm (L++[(h,.ref b)]):=(SetTable.insertAt_perm _ _ _).trans (by rw[Array.toList_push];exact List.Perm.append_right _ hO.pm)
  have hm1:(t.put j).1.mask=t.mask:=rfl
  have hs1:(t.put j).1.place.size=L.length+1:=by rw[←Array.length_toList,hp1.length_eq];simp[hO.psz]
  have hs2:(SetTable.insertAt es (t.put j).2 (h,Value.ref b)).size=L.length+1:=by rw[←Array.length_toList,hp2.length_eq];simp
  have hfl:(t.put j).1.fill=L.length+1:=by
   show(t.put j).1.place.size+(t.put j).1.dummies.size=_
   rw[ht1.dum,hs1];rfl
  have hbn:∀x∈(t.put j).1.place.toList,x≤(t.put j).1.mask:=fun x hx=>by
   have:=hp1.mem_iff.mp hx
   rw[Array.toList_push,List.mem_append,List.mem_singleton] at this
   rcases this with h|h
   ·exact hO.bnd x h
   ·subst h;exact hjm
  generalize hes1:SetTable.insertAt es (t.put j).2 (h,Value.ref b)=es1 at *
  generalize hT1:(t.put j).1=t1 at *
  have hlen:=hO.len
  have tail:wpAny (model P w) A (do
    storeSet a es1 t1
    if (!false&&t1.tooFull)=true then do
      setRelay a (SetTable.grown (es.size+1))
      pure true
     else pure true) Q E s:=by
   refine wpAny_bind (wpAny_storeSet_of ho rfl ?_ (by rw[hs2,sizeLine_eq];omega))
   have ho1:(s.heap.update a (Obj.putSet es1 t1)).get? a=some (Ah es1 (ep+1) t1):=N7 ho
   have same1:=Heap.SameBut.update s.heap a (Obj.putSet es1 t1)
   have hfit:t1.fits es1.size=true:=by
    simp only[SetTable.fits,Bool.and_eq_true,beq_iff_eq,decide_eq_true_eq]
    exact⟨by rw[hs1,hs2],by rw[hfl,hm1];omega⟩
   by_cases htf:t1.tooFull=true
   ·rw[if_pos (by rw[htf];rfl)]
    have htf':(L.length+1)*5 ≥ t.mask*3:=by
     have:=htf
     unfold SetTable.tooFull at this
     rw[hfl,hm1] at this
     exact of_decide_eq_true this
    obtain⟨m,W,hW,hWm,hWl,R,hmm⟩:∃m W,SetTable.grown (es.size+1)=W∧SetTable.sizeAbove W-1=m∧¬SetTable.sizeAbove W>sizeLine∧Round m∧(m=31∧L.length+1≤18∨m=127∧L.length+1≤76∨m=511∧L.length+1≤300):=by
     rcases hm with ⟨e,e'⟩|⟨e,e'⟩|⟨e,e'⟩|⟨e,e'⟩
     ·have:es.size=4:=by omega
      rw[this];exact⟨31,20,rfl,rfl,by decide,V0,.inl ⟨rfl,by omega⟩⟩
     ·have:es.size=18:=by omega
      rw[this];exact⟨127,76,rfl,rfl,by decide,Rk,.inr (.inl ⟨rfl,by omega⟩)⟩
     ·have:es.size=76:=by omega
      rw[this];exact⟨511,308,rfl,rfl,by decide,Rj,.inr (.inr ⟨rfl,by omega⟩)⟩
     ·omega
    rw[hW]
    refine wpAny_bind ?_
    unfold setRelay
    refine wpAny_bind (wpAny_setState_of ho1 rfl hfit ?_);dsimp only
    rw[if_neg hWl]
    obtain⟨t2,o2,el,hpo,hmk,hpz,hbd,hld,hpl,_⟩:=Tg (finger:=t1.finger) (moves:=t1.movedTo (SetTable.sizeAbove W-1)) (led:=t1.led) (plain:=t1.plain) R (hs:=es1.map (·.1)) (by simp[hs2];omega)
    have er:t1.relaid (es1.map (·.1)) W=some (t2,o2):=by unfold SetTable.relaid;rw[hWm] at *;exact el
    rw[er]
    have ht2:TOk w t2:=Tf ht1.led el
    rw[Array.size_map] at hpo hpz
    have hpe:(o2.filterMap (es1[·]?)).toList.Perm es1.toList:=by
     rw[Array.toList_filterMap]
     exact(hpo.filterMap _).trans (by rw[filterMap_getElem?_range])
    have hse:(o2.filterMap (es1[·]?)).size=es1.size:=by rw[←Array.length_toList,hpe.length_eq,Array.length_toList]
    refine wpAny_bind ?_
    show wpAny _ _ (if ((o2.filterMap (es1[·]?)).size != es1.size)=true then _ else _) _ _ _
    rw[if_neg (by rw[hse];simp)]
    refine wpAny_pure ?_
    dsimp only
    refine wpAny_storeSet_of ho1 rfl ?_ (by rw[hse,hs2,sizeLine_eq];omega)
    refine wpAny_pure (fin _ _ _ _ (same1.trans (Heap.SameBut.update _ a _)) (N7 ho1) ⟨ht2,?_,hpe.trans hp2,by rw[hmk];exact hbd,?_⟩)
    ·simp only[SetTable.fits,Bool.and_eq_true,beq_iff_eq,decide_eq_true_eq]
     refine⟨by rw[hpz,hse],?_⟩
     show t2.place.size+t2.dummies.size≤_
     rw[ht2.dum,hpz,hs2,hmk]
     show L.length+1+0≤m
     omega
    ·rw[hmk,List.length_append,List.length_singleton];omega
   ·rw[if_neg (by simpa using htf)]
    have htf':¬(L.length+1)*5 ≥ t.mask*3:=fun z=>htf (by unfold SetTable.tooFull;rw[hfl,hm1];exact decide_eq_true z)
    refine wpAny_pure (fin _ _ _ _ same1 ho1 ⟨ht1,hfit,hp2,hbn,?_⟩)
    rw[hm1,List.length_append,List.length_singleton];omega
  split
  ·refine wpAny_bind (Qc hb ?_)
   simp only[if_true]
   exact tail
  ·refine wpAny_bind (wpAny_pure ?_)
   simp only[if_true]
   exact tail
 ·rename_i hno
  exact(hno _ hj).elim
end
end D3
set_option maxRecDepth 100000
set_option maxHeartbeats 4000000
namespace D3
open PySem PySem.Spec
open PyProof.Rows hiding St
open L2 hiding St
section
variable{P:Program}{w:World}{A:Around}{R:Result→Shared→Prop}{E:Value→Shared→Prop}{s:Shared}
theorem Qd{c:Int×Int}:(tupleKind (intKind P w)).hash [c.1,c.2]=Dx c:=by
 have e:(tupleKind (intKind P w)).hash=tupleKeyHash (intKind P w):=rfl
 rw[e];unfold tupleKeyHash Dx
 have e2:[c.1,c.2].map (intKind P w).hash=[hashInt c.1,hashInt c.2]:=rfl
 rw[e2]
def inC(cs:List (Int×Int))(vs:List Value)(i:Nat):List (Int×Value):=((cs.zip vs).take i).map fun p=>(Dx p.1,p.2)
theorem Nb{f:Int×Int→Int}{cs:List (Int×Int)}{vs:List Value}{i:Nat}{c:Int×Int}(inj:∀x∈cs,∀y∈cs,f x=f y→x=y)(nd:cs.Nodup)(hci:cs[i]? = some c):f c ∉ (((cs.zip vs).take i).map fun p=>(f p.1,p.2)).map (·.1):=fun z=>by
 rw[List.map_map] at z
 obtain⟨p,hp,e⟩:=List.mem_map.mp z
 simp only[Function.comp] at e
 obtain⟨m,hm1,hm2⟩:=List.mem_take_iff_getElem.mp hp
 have hcm:cs[m]? = some p.1:=by
  have:(cs.zip vs)[m]? = some p:=by rw[List.getElem?_eq_getElem (by omega),hm2]
  exact(List.getElem?_zip_eq_some.mp (by rw[this])).1
 have e1:p.1=c:=inj _ (List.mem_of_getElem? hcm) _ (List.mem_of_getElem? hci) e
 have hml:m<cs.length:=(List.getElem?_eq_some_iff.mp hcm).1
 have:=(List.getElem?_inj (i:=m) (j:=i) hml nd).mp (hcm.trans (by rw[e1,hci]))
 omega
def AreC(P:Program)(w:World)(h:Heap)(cs:List (Int×Int))(vs:List Value)(no:List Addr):Prop:=∀p∈cs.zip vs,∃b,p.2=.ref b∧b ∉ no∧IsTupleKey (intKind P w) h [p.1.1,p.1.2] b
theorem AreC.keep{h g:Heap}{cs:List (Int×Int)}{vs:List Value}{no:List Addr}(a:AreC P w h cs vs no)(k:∀b o,b ∉ no→h.get? b=some o→g.get? b=some o):AreC P w g cs vs no:=fun p hp=>by
 obtain⟨b,e,hn,o,items,n,ho,hr⟩:=a p hp
 exact⟨b,e,hn,o,items,n,k b o hn ho,hr⟩
theorem Pi{I:Addr}{fp wr:List Addr}{G:Array GenState→Array GenState→Prop}{n:Nat}{Pv:Nat→Value→Prop}{St:Nat→Shared→Prop}(W:WalksS P w A.in1 I fp wr G n Pv St)(S:Addr)(hSf:S ∉ fp)(hu:A.units+1<cLine)(cs:List (Int×Int))(vs:List Value)(hn:cs.length=n)(hv:vs.length=n)(hval:∀i v,Pv i v→vs[i]? = some v)(nd:cs.Nodup)(hbx:∀c∈cs,Fj c)(hb:n<300) :
  ∀(k i:Nat) (s:Shared) (es:Array (Int×Value)) (ep:Nat) (t:SetTable),n-i=k→i≤n→St i s→AreC P w s.heap cs vs (S::wr)→s.heap.get? S=some (Ah es ep t)→SOkC w es t (inC cs vs i)→
   (∀s' es' ep' t',Moved (S::wr) G s s'→s'.heap.get? S=some (Ah es' ep' t')→SOkC w es' t' (inC cs vs n)→R (.ok (.ret .none)) s')→
   codeAny (model P w) A (.builtin "set.update.loop" ⟨[.ref S,.ref I],[]⟩) R s:=by
 have hSw:S ∉ wr:=fun h=>hSf (W.sub _ h)
 have hsub:∀b∈wr,b∈S::wr:=fun b hb=>List.mem_cons_of_mem _ hb
 intro k
 induction k with
 |zero=>
  intro i s es ep t hk hi hst ha hS hO hR
  have hin:i=n:=by omega
  subst hin
  refine codeAny_builtin PyProof.Rows.F.entry_set_update_loop ?_
  rw[Around.under_plainId PyProof.Rows.F.plain_set_update_loop _]
  show wpAny _ A.in1 (pyNext (.ref I) >>= _) _ _ s;refine wpAny_bind (W.done s _ _ hst fun s' hm=>?_)
  exact wpAny_pure (hR s' es ep t (hm.mono hsub) (hm.heap S _ hSw hS) hO)
 |succ k ih=>
  intro i s es ep t hk hi hst ha hS hO hR
  have hlt:i<n:=by omega
  refine codeAny_builtin PyProof.Rows.F.entry_set_update_loop ?_
  rw[Around.under_plainId PyProof.Rows.F.plain_set_update_loop _]
  show wpAny _ A.in1 (pyNext (.ref I) >>= _) _ _ s;refine wpAny_bind (W.item i s _ _ hlt hst fun v s' hP hst' hm=>?_)
  have hvi:=hval i v hP
  have hci:cs[i]? = some (cs[i]'(by omega)):=List.getElem?_eq_getElem (by omega)
  generalize hc:(cs[i]'(by omega))=c at hci
  have hzi:(cs.zip vs)[i]? = some (c,v):=List.getElem?_zip_eq_some.mpr ⟨hci,hvi⟩
  have hmv:∀b o,b ∉ S::wr→s.heap.get? b=some o→s'.heap.get? b=some o:=fun b o hb e=>hm.heap b o (fun h=>hb (hsub b h)) e
  have ha':=ha.keep hmv
  obtain⟨b,rfl,hbn,hbk⟩:=(show ∃b,v=.ref b∧b ∉ S::wr∧IsTupleKey (intKind P w) s'.heap [c.1,c.2] b from ha' _ (List.mem_of_getElem? hzi))
  have hS':=hm.heap S _ hSw hS
  show wpAny _ A.in1 (holding [Value.ref b] (setAdd S (.ref b)) >>= _) _ _ s'
  refine wpAny_bind (wpAny_holding ?_);unfold setAdd
  refine wpAny_holding (wpAny_bind ((tupleKind (intKind P w)).pyHash (k:=[c.1,c.2]) (show A.in1.units<cLine from hu) hbk ?_))
  rw[Qd]
  have hli:(inC cs vs i).length=i:=by unfold inC;rw[List.length_map,List.length_take,List.length_zip];omega
  have hnot:Dx c ∉ (inC cs vs i).map (·.1):=Nb (f:=Dx) (fun x hx y hy=>Qe (hbx x hx) (hbx y hy)) nd hci
  refine Ph (s:={ s' with toks:=s'.toks+(([c.1,c.2]:List Int).length+1) }) hS' hO hbk (fun z=>hbn (by rw[z];exact List.mem_cons_self)) hnot (by omega) fun h' es' ep' t' same ho' hO'=>?_
  have tk:inC cs vs (i+1)=inC cs vs i++[(Dx c,.ref b)]:=by unfold inC;rw[List.take_add_one,hzi];simp
  rw[←tk] at hO'
  have hk2:∀b o,b ∉ S::wr→s'.heap.get? b=some o→h'.get? b=some o:=fun b o hb e=>by rw[same.2 b (fun h:b=S=>hb (by rw[h];exact List.mem_cons_self))];exact e
  refine wpAny_pure ⟨plainId_quiet PyProof.Rows.F.plain_set_update_loop _,ih (i+1) _ es' ep' t' (by omega) hlt (W.frame _ s' _ _ hst' (Nat.le_add_right _ _) fun b hb o e=>?_) (ha'.keep hk2) ho' hO' fun s'' es'' ep'' t'' hm'' hS'' hO''=>?_⟩
  ·rw[same.2 b (fun h:b=S=>hSf (by rw[←h];exact hb))];exact e
  ·refine hR s'' es'' ep'' t'' (Moved.trans W.gtrans ((hm.mono hsub).then_heap (Nat.le_add_right _ _) fun b o hb e=>?_) hm'') hS'' hO''
   rw[same.2 b (fun h:b=S=>hb (by rw[h];exact List.mem_cons_self))];exact e
end
end D3
set_option maxRecDepth 100000
set_option maxHeartbeats 4000000
namespace D3
open PySem PySem.Spec
open PyProof.Rows hiding St
open L2 hiding St
section
variable{P:Program}{w:World}{A:Around}{E:Value→Shared→Prop}{s:Shared}
theorem Pj{l:Addr}{items:Array Value}{cs:List (Int×Int)}{Q:Value→Shared→Prop}(hh:A.handled=none)(hu:A.units+10<cLine)(hl:s.heap.IsTuple l items)(ha:AreC P w s.heap cs items.toList [])(hn:cs.length=items.size)(nd:cs.Nodup)(hbx:∀c∈cs,Fj c)(hb:items.size<300)(h:∀(h':Heap) (tk:Nat) es ep t,s.toks≤tk→h'.get? s.heap.objs.size=some (Ah es ep t)→SOkC w es t (inC cs items.toList items.size)→
   (∀b o,b<s.heap.objs.size→s.heap.get? b=some o→h'.get? b=some o)→Q (.ref s.heap.objs.size) { s with heap:=h',toks:=tk }) :
  wpAny (model P w) A (call (.type "set") [.ref l]) Q E s:=by
 obtain⟨c,tl,hmro⟩:=PySem.F.called_set.mro;have hmade:=PySem.F.called_set.made;have hsub:=PySem.F.called_set.sub
 refine wpAny_call (codeAny_of_tree ?_)
 show wpAny _ _ (callAny (.type "set") _) _ _ _;refine wpAny_pure ⟨Code.quiet_builtin _ (by decide +kernel),codeAny_builtin PySem.F.entry_type_call ?_⟩
 rw[Around.under_plain (weight_type_call_type "set" [.ref l] []) rfl];have h1:=PySem.F.called_set.notType;have h2:=PySem.F.called_set.canCreate
 have hct:=PySem.F.typeCall_set_1 (.ref l);repeat (any_goals (first|assumption|wp_step))
 refine codeAny_mono (M4 (.ref l) (E:=E) (Q₁:=fun obj s₁=>∃led:Bool,(w.params.followText "set-order" = true∨led=true)∧obj=.ref s.heap.objs.size∧s₁={ s with heap:=s.heap.push (Ah #[] 0 (.fresh 0 0 led)) }) fun led hled=>⟨led,hled,rfl,rfl⟩) fun r s₁ hr=>?_
 cases r with
 |error e=>exact hr
 |ok fl=>
  cases fl with
  |ret obj=>
   obtain⟨led,hled,rfl,rfl⟩:=hr
   have hS:(s.heap.push (Ah #[] 0 (.fresh 0 0 led))).get? s.heap.objs.size=some (Ah #[] 0 (.fresh 0 0 led)):=Heap.get?_push_size _ rfl
   have hT:Shared.TypeIs { s with heap:=s.heap.push (Ah #[] 0 (.fresh 0 0 led)) } (.ref s.heap.objs.size) "set":=⟨_,hS,rfl⟩
   have hli:=PySem.F.called_set.init.lookup;have hbi:=PySem.F.called_set.init.bind (.ref s.heap.objs.size);repeat (any_goals (first|assumption|wp_step))
   refine codeAny_mono (codeAny_call_builtin (R:=wants (fun r s₂=>r=.none∧∃h' tk es ep t,s₂={ s with heap:=h',toks:=tk }∧s.toks≤tk∧
     h'.get? s.heap.objs.size=some (Ah es ep t)∧SOkC w es t (inC cs items.toList items.size)∧
     (∀b o,b<s.heap.objs.size→s.heap.get? b=some o→h'.get? b=some o)) E) PySem.F.called_set.init.plain PySem.F.entry_set_init (check_set_init_1 hT ?_)) fun r₂ s₂ hr₂=>?_
   ·have hval:∀(i:Nat) (v:Value),items[i]? = some v→items.toList[i]? = some v:=fun i v hv=>by rw[Array.getElem?_toList];exact hv
    have hlS:l<s.heap.objs.size:=by
     obtain⟨o,e,_⟩:=hl
     exact Heap.lt_size e
    have hneI:l≠(s.heap.push (Ah #[] 0 (.fresh 0 0 led))).objs.size:=by rw[Heap.size_push];exact Nat.ne_of_lt (Nat.lt_succ_of_lt hlS)
    have hSf:s.heap.objs.size ∉ [(s.heap.push (Ah #[] 0 (.fresh 0 0 led))).objs.size,l]:=by
     rw[Heap.size_push];simp only[List.mem_cons,List.not_mem_nil,or_false,not_or];exact⟨Nat.ne_of_lt (Nat.lt_succ_self _),Nat.ne_of_gt hlS⟩
    have hh3:A.in1.in1.in1.handled=none:=by simp[hh]
    have hO:SOkC w #[] (.fresh 0 0 led) (inC cs items.toList 0):=SOkC.fresh led hled
    have fin:∀(s':Shared) (es':Array (Int×Value)) (ep':Nat) (t':SetTable) (it:Obj),Moved (s.heap.objs.size::[(s.heap.push (Ah #[] 0 (.fresh 0 0 led))).objs.size]) (fun a b=>b=a) { s with heap:=(s.heap.push (Ah #[] 0 (.fresh 0 0 led))).push it } s'→s'.heap.get? s.heap.objs.size=some (Ah es' ep' t')→SOkC w es' t' (inC cs items.toList items.size)→
      ∃h' tk es ep t,s'={ s with heap:=h',toks:=tk }∧s.toks≤tk∧h'.get? s.heap.objs.size=some (Ah es ep t)∧SOkC w es t (inC cs items.toList items.size)∧(∀b o,b<s.heap.objs.size→s.heap.get? b=some o→h'.get? b=some o):=fun s' es' ep' t' it hm hS' hO'=>by
     obtain⟨h',g',d',tk',os'⟩:=s'
     have eg:g'=s.gens:=hm.gens
     have ed:d'=s.drawn:=hm.drawn
     have eo:os'=s.os:=hm.os
     subst eg;subst ed;subst eo
     refine⟨h',tk',es',ep',t',rfl,hm.toks,hS',hO',fun b o hb e=>?_⟩
     exact hm.heap b o (by rw[Heap.size_push];simp only[List.mem_cons,List.not_mem_nil,or_false,not_or];exact⟨Nat.ne_of_lt hb,Nat.ne_of_lt (Nat.lt_succ_of_lt hb)⟩) (Heap.get?_push_of_some _ (Heap.get?_push_of_some _ e))
    have first0:∀it:Obj,((s.heap.push (Ah #[] 0 (.fresh 0 0 led))).push it).get? s.heap.objs.size=some (Ah #[] 0 (.fresh 0 0 led)):=fun it=>Heap.get?_push_of_some _ hS
    have areN:∀it:Obj,AreC P w ((s.heap.push (Ah #[] 0 (.fresh 0 0 led))).push it) cs items.toList (s.heap.objs.size::[(s.heap.push (Ah #[] 0 (.fresh 0 0 led))).objs.size]):=fun it p hp=>by
     obtain⟨b,e,_,o,its,n,ho,hr⟩:=ha p hp
     have hlt:=Heap.lt_size ho
     refine⟨b,e,?_,o,its,n,Heap.get?_push_of_some _ (Heap.get?_push_of_some _ ho),hr⟩
     rw[Heap.size_push]
     simp only[List.mem_cons,List.not_mem_nil,or_false,not_or]
     exact⟨Nat.ne_of_lt hlt,Nat.ne_of_lt (Nat.lt_succ_of_lt hlt)⟩
    obtain⟨ol,hol,hcl,nl,hdl⟩:=hl;obtain⟨ocls,odict,odata,oslots⟩:=ol;simp only at hcl hdl;subst hcl;subst hdl
    have hol':(s.heap.push (Ah #[] 0 (.fresh 0 0 led))).get? l=some { cls:=.type "tuple",dict:=odict,data:=.seq items nl,slots:=oslots }:=Heap.get?_push_of_some _ hol
    have hsls:=Sc;have hslf:=Hf;have hne:(Value.type "tuple" == Value.type "dict")=false:=by decide
    have hl1:(s.heap.push (Ah #[] 0 (.fresh 0 0 led))).IsTuple l items:=⟨_,hol',rfl,nl,rfl⟩
    unfold Builtin.«set.__init__» noKeywords Builtin.Frozenset.updateFrom;generalize hPI:pyIter=PI
    wp_walk
    subst hPI;refine wpAny_pyIter_tuple hl1 (wpAny_bind (wpAny_runValue ?_))
    refine Pi ((Walks.tuple hh3 _ l hneI items).toS) s.heap.objs.size hSf (by simp only[Around.in1_units];omega) cs items.toList hn (by simp) hval nd hbx hb (items.size-0) 0 _ #[] 0 (.fresh 0 0 led) (by omega) (Nat.zero_le _) ⟨⟨_,Heap.get?_push_size _ rfl,rfl,rfl⟩,(hl1.push _)⟩ (areN _) (first0 _) hO fun s' es' ep' t' hm hS' hO'=>?_
    exact wpAny_pure (wpAny_pure ⟨rfl,fin s' es' ep' t' _ hm hS' hO'⟩)
   ·cases r₂ with
    |error e=>exact hr₂
    |ok fl₂=>
     cases fl₂ with
     |ret r=>
      obtain⟨rfl,h',tk,es,ep,t,rfl,htk,hS',hO',hk'⟩:=hr₂
      repeat (any_goals (first|assumption|wp_step))
      exact h _ _ _ _ _ htk hS' hO' hk'
     |_=>exact hr₂.elim
  |_=>exact hr.elim
end
end D3
set_option maxRecDepth 100000
set_option maxHeartbeats 1000000
namespace D3
open PySem PySem.Spec
open PyProof.Rows hiding St
open L2 hiding St
section
variable{P:Program}{w:World}{A:Around}{E:Value→Shared→Prop}{s:Shared}
theorem H0{x:Value}{Q:Value→Shared→Prop}{C:List Value→Shared→Prop}(hcol:∀Q':List Value→Shared→Prop,(∀vs s',C vs s'→Q' vs s')→wpAny (model P w) A.in1 (collect x) Q' E s)(hC:∀vs s',C vs s'→∃key:Value→Int×Int,vs.length≤10000∧(∀v∈vs,Bm s'.heap v (key v))∧(∀v∈vs,0≤(key v).2∧(key v).2<1000)∧(vs.map fun v=>rkP key (v,v)).Nodup∧
   ∀(h':Heap) (out:List Value) (n:Nat),out.Perm vs→(out.Pairwise fun x y=>rkP key (x,x)<rkP key (y,y))→(∀b o,s'.heap.get? b=some o→h'.get? b=some o)→h'.get? s'.heap.objs.size=some { cls:=.type "list",data:=.seq out.toArray n }→Q (.ref s'.heap.objs.size) { s' with heap:=h' }) :
  wpAny (model P w) A (call (.builtin "sorted") [x]) Q E s:=by
 refine Calls.call_function_entry kind_sorted plain_sorted entry_sorted (args_sorted1 _) ?_
 unfold Builtin.«sorted»
 refine wpAny_bind (m:=checkCount "sorted" 1 1 _) (wpAny_pure (wpAny_bind (hcol _ fun vs s' hc=>?_)))
 obtain⟨key,hz,hv,hb,hd,q⟩:=hC vs s' hc
 refine wpAny_bind (wpAny_newList ?_ (by rw[sizeLine_eq];omega))
 have hoL:(s'.heap.push (seqObj "list" vs.toArray 0)).get? s'.heap.objs.size=some (seqObj "list" vs.toArray 0):=Heap.get?_push_size _ rfl
 show wpAny _ _ _ _ _ { s' with heap:=s'.heap.push (seqObj "list" vs.toArray 0) }
 have pairs:∀s6:Shared,(∀b o,b≠s'.heap.objs.size→(s'.heap.push (seqObj "list" vs.toArray 0)).get? b=some o→s6.heap.get? b=some o)→∀v∈vs,Bm s6.heap v (key v):=fun s6 h6 v hv'=>by
  obtain⟨a,o,t,u,n,x1,x2,x3⟩:=hv v hv'
  exact⟨a,o,t,u,n,x1,h6 _ _ (Nat.ne_of_lt (Heap.lt_size x2)) (Heap.get?_push_of_some _ x2),x3⟩
 refine wpAny_bind (wpAny_holding (wpAny_call_entry slot_list_sort ⟨_,hoL,rfl⟩ entry_list_sort (Dj (kd:=tuples' true) (ok:=fun x=>x.1∈vs) (rk:=rkP key) hoL (by omega) (fun s6 h6 R qR h2=>Ha (pairs s6 h6) h2 qR) (fun s6 h6=>He (pairs s6 h6) hb) (fun v hv=>hv) hd fun out a1 a2=>⟨_,rfl,?_⟩) (args_list_sort _)))
 obtain⟨n,hn⟩:=sortedHeap_at (vs:=vs) (out:=out.toArray) hoL
 refine wpAny_pure ⟨_,rfl,q _ out n a1 a2 (fun b o h1=>?_) hn⟩
 have hb':b<s'.heap.objs.size:=Heap.lt_size h1
 show(sortedHeap _ _ _ _).get? b=some o
 rw[sortedHeap_old (Nat.ne_of_lt hb') (by rw[size_push'];exact Nat.lt_succ_of_lt hb')]
 exact Heap.get?_push_of_some _ h1
end
def A6(H:Hp)(bs:List Addr)(cs:List (Int×Int)):Prop:=Paired (fun b m=>H b=some (.tup [.int m.1,.int m.2])) bs cs
section
variable{X:Cx}{pins:List (Addr×Obj)}{σ:L2.St}{H:Hp}{s:Shared}{bs:List Addr}{cs:List (Int×Int)}
theorem Eo(I:Inv X pins σ H s){b:Addr}{m:Int×Int}(e:H b=some (.tup [.int m.1,.int m.2])):Bm s.heap (.ref b) m:=by
 obtain⟨_,its,rv,ox,hx,hc,n,hd⟩:=(show ObjOk X.prog X.w H s.heap b (.tup _) from I.hok _ _ e)
 match its,rv,hd with
 |[_,_],.cons ⟨t1,rfl⟩ (.cons ⟨t2,rfl⟩ .nil),hd=>exact⟨_,ox,t1,t2,n,rfl,hx,hc,hd⟩
theorem Gg(I:Inv X pins σ H s):∀{bs:List Addr} {cs:List (Int×Int)},A6 H bs cs→(bs.map Value.ref).map (Ay s.heap)=cs
 |_,_,.nil=>rfl
 |_,_,.cons e t=>by rw[List.map_cons,List.map_cons,C1 (Eo I e),Gg I t]
theorem Ow(c:A6 H bs cs):∀b∈bs,∃m∈cs,H b=some (.tup [.int m.1,.int m.2]):=by
 induction c with
 |nil=>intro b h;cases h
 |cons e t ih=>
  intro b h
  rcases List.mem_cons.mp h with rfl|h
  ·exact⟨_,List.mem_cons_self ..,e⟩
  ·obtain⟨m,hm,e⟩:=ih b h
   exact⟨m,List.mem_cons_of_mem _ hm,e⟩
theorem Gw(I:Inv X pins σ H s)(c:A6 H bs cs)(nd:cs.Nodup)(hb:∀m∈cs,0≤m.2∧m.2<1000) :
  (∀v∈bs.map Value.ref,Bm s.heap v (Ay s.heap v))∧(∀v∈bs.map Value.ref,0≤(Ay s.heap v).2∧(Ay s.heap v).2<1000)∧((bs.map Value.ref).map fun v=>rkP (Ay s.heap) (v,v)).Nodup:=by
 have ek:=Gg I c
 refine⟨fun v hv=>?_,fun v hv=>?_,?_⟩
 ·obtain⟨b,hb',rfl⟩:=List.mem_map.mp hv
  obtain⟨m,_,e⟩:=Ow c b hb'
  have:=Eo I e
  rw[C1 this];exact this
 ·refine hb _ ?_
  rw[←ek];exact List.mem_map_of_mem hv
 ·have e:((bs.map Value.ref).map fun v=>rkP (Ay s.heap) (v,v))=cs.map fun m=>m.1*1000+m.2:=by rw[←ek];simp only[List.map_map];rfl
  rw[e]
  refine F9 nd fun x hx y hy e=>?_
  have:=hb x hx;have:=hb y hy
  exact Prod.ext (by omega) (by omega)
theorem K3(I:Inv X pins σ H s)(c:A6 H bs cs)(hz:cs.length≤10000)(nd:cs.Nodup)(hb:∀m∈cs,0≤m.2∧m.2<1000){Q:VK}(q:∀p (ms:List (Int×Int)) (bs':List Addr),H p=none→ms.Perm cs→ms.Pairwise Bf→A6 H bs' ms→Q (.ref p) (upd H p (.lst (bs'.map V.ref)))){g:Nat}{h':Heap}{out:List Value}{n tk:Nat}{d:Drawn}(hp:out.Perm (bs.map Value.ref))(pw:out.Pairwise fun x y=>rkP (Ay s.heap) (x,x)<rkP (Ay s.heap) (y,y))(big:s.heap.objs.size≤g)(keep:∀b o,s.heap.get? b=some o→h'.get? b=some o)(hn:h'.get? g=some { cls:=.type "list",data:=.seq out.toArray n }) :
  EP X pins σ Q (.ref g) { s with heap:=h',toks:=tk,drawn:=d }:=by
 have ek:=Gg I c
 have rk:∀v,rkP (Ay s.heap) (v,v)=(Ay s.heap v).1*1000+(Ay s.heap v).2:=fun _=>rfl
 have hm:(out.map (Ay s.heap)).Perm cs:=by rw[←ek];exact hp.map _
 have hin:∀v∈out,∃b m,v=.ref b∧Ay s.heap v=m∧H b=some (.tup [.int m.1,.int m.2]):=fun v hv=>by
  obtain⟨b,hb',rfl⟩:=List.mem_map.mp (hp.mem_iff.mp hv)
  obtain⟨m,_,e⟩:=Ow c b hb'
  exact⟨_,m,rfl,C1 (Eo I e),e⟩
 have hbs:Vals ((out.map Fi).map V.ref) out:=by
  have:∀{l:List Value},(∀v∈l,∃b m,v=Value.ref b∧Ay s.heap v=m∧H b=some (.tup [.int m.1,.int m.2]))→Vals ((l.map Fi).map V.ref) l:=fun {l}=>by
   induction l with
   |nil=>exact fun _=>.nil
   |cons v r ih=>
    intro hl
    obtain⟨b,m,rfl,_⟩:=hl v (List.mem_cons_self ..)
    exact .cons rfl (ih fun x hx=>hl x (List.mem_cons_of_mem _ hx))
  exact this hin
 have hlen:out.length≤10000:=by
  have:=hm.length_eq
  rw[List.length_map] at this
  omega
 have I2:=I.laid (h':=h') (t':=tk) (o:=.lst ((out.map Fi).map V.ref)) keep big (show ObjOk X.prog X.w _ _ _ (.lst _) from⟨by rw[List.length_map,List.length_map,sizeLine_eq];omega,out,n,hbs,hn⟩)
 refine⟨.ref g,_,Qa I2,rfl,q _ (out.map (Ay s.heap)) (out.map Fi) (I.hok.fresh big) hm ?_ ?_⟩
 ·rw[List.pairwise_map]
  refine pw.imp_of_mem fun {x y} hx hy e=>?_
  have b1:=hb _ (hm.mem_iff.mp (List.mem_map_of_mem hx))
  have b2:=hb _ (hm.mem_iff.mp (List.mem_map_of_mem hy))
  rw[rk,rk] at e
  unfold Bf
  omega
 ·refine Jt fun v hv=>?_
  obtain⟨b,m,rfl,e,z⟩:=hin v hv
  rw[e];exact z
end
section
variable{X:Cx}
theorem call_sortedC:CallR X (.builtin "sorted") (fun xs H Q=>∃(a:Addr) (bs:List Addr) (cs:List (Int×Int)),xs=[.ref a]∧SqL X.K H a (bs.map V.ref)∧A6 H bs cs∧cs.length≤10000∧cs.Nodup∧(∀m∈cs,0≤m.2∧m.2<1000)∧
  ∀p (ms:List (Int×Int)) (bs':List Addr),H p=none→ms.Perm cs→ms.Pairwise Bf→A6 H bs' ms→Q (.ref p) (upd H p (.lst (bs'.map V.ref)))):=by
 intro pins s σ H xs us Q I r h
 obtain⟨a,bs,cs,rfl,ha,c,hz,nd,hb,q⟩:=h
 obtain⟨u,rfl,rx⟩:=Dc r
 cases rx
 obtain⟨its,rv,pl,_⟩:=I.list ha
 have eits:its=bs.map Value.ref:=by
  have:∀{bs:List Addr} {its:List Value},Vals (bs.map V.ref) its→its=bs.map Value.ref:=fun {bs}=>by
   induction bs with
   |nil=>intro its h;cases h;rfl
   |cons b r ih=>intro its h;cases h with|cons h t=>rw[ih t];cases h;rfl
  exact this rv
 subst eits
 obtain⟨f1,f2,f3⟩:=Gw I c nd hb
 have hlb:bs.length=cs.length:=Paired.length c
 refine H0 (C:=fun vs s'=>vs=bs.map Value.ref∧s'={ s with heap:=(s.heap.push (seqObj "list" #[] 0)).update s.heap.objs.size (Obj.mapSeq (· ++ (bs.map Value.ref).toArray)) }) (fun Q' hq=>collect_list pl.isList (hq _ _ ⟨rfl,rfl⟩) (by rw[List.length_map,sizeLine_eq];omega)) ?_
 rintro vs s' ⟨rfl,rfl⟩
 have k1:∀b o,s.heap.get? b=some o→((s.heap.push (seqObj "list" #[] 0)).update s.heap.objs.size (Obj.mapSeq (· ++ (bs.map Value.ref).toArray))).get? b=some o:=fun b o e=>(Heap.get?_update_other _ _ (Nat.ne_of_gt (Heap.lt_size e))).trans (Heap.get?_push_of_some _ e)
 have hsz:((s.heap.push (seqObj "list" #[] 0)).update s.heap.objs.size (Obj.mapSeq (· ++ (bs.map Value.ref).toArray))).objs.size=s.heap.objs.size+1:=by rw[Heap.size_update,size_push']
 refine⟨Ay s.heap,by rw[List.length_map];omega,fun v hv=>?_,f2,f3,fun h' out n hp pw keep hn=>?_⟩
 ·obtain⟨a,o,t,u,n,x1,x2,x3⟩:=f1 v hv
  exact⟨a,o,t,u,n,x1,k1 _ _ x2,x3⟩
 ·exact K3 I c hz nd hb q (d:=s.drawn) hp pw (by rw[hsz];exact Nat.le_succ _) (fun b o e=>keep b o (k1 b o e)) hn
theorem Fa{K:W.Frag}{H:Hp}:∀{cs:List (Int×Int)} {xs:List V},DVs K H (cs.map Ae) xs→∃bs:List Addr,xs=bs.map V.ref∧A6 H bs cs
 |[],_,.nil=>⟨[],rfl,.nil⟩
 |c::r,_,.cons (.tup (a:=a) e z) t=>by
  obtain⟨bs,e1,c1⟩:=Fa t
  cases z with
  |cons h1 t1=>
   cases h1
   cases t1 with
   |cons h2 t2=>
    cases h2
    cases t2
    exact⟨a::bs,by rw[e1];rfl,.cons e c1⟩
theorem Fc{K:W.Frag}{H H':Hp}{p:Addr}{u:HO}(hp:H p=none):∀{bs:List Addr} {ms:List (Int×Int)},A6 H bs ms→DVs K H (ms.map Ae) (bs.map V.ref)
 |_,_,.nil=>.nil
 |_,_,.cons x t=>.cons (.tup x (.cons (.int _) (.cons (.int _) .nil))) (Fc (H':=H') (u:=u) hp t)
theorem c_sortedC:QC X (.builtin "sorted") (fun ds G Q=>∃d,ds=[d]∧∃p,d=.ref p∧∃cs:List (Int×Int),G p=some (.lst (cs.map Ae))∧cs.length≤10000∧cs.Nodup∧(∀m∈cs,0≤m.2∧m.2<1000)∧
  ∀l (ms:List (Int×Int)),G l=none→ms.Perm cs→ms.Pairwise Bf→Q (.ref l) (Ad G l (.lst (ms.map Ae)))):=call_sortedC.imp fun xs H Q ⟨ds,G,Q',dv,rg,⟨d,e,p,ep,cs,eg,hn,nd,hb,q⟩,cl⟩=>by
 subst e ep
 obtain⟨v,rfl,h⟩:=dv.one
 cases h
 obtain⟨ys,eh,r⟩:=rg p _ eg
 obtain⟨bs,rfl,c⟩:=Fa r
 exact⟨p,bs,cs,rfl,.inl (.inl eh),c,hn,nd,hb,fun l ms bs' hl h1 h2 h3=>cl _ _ (q l ms (rg.free hl) h1 h2) _ (Ext.fresh hl) (rg.lst hl (Fc (H':=H) (u:=.own l) hl h3)) _ (.ref l)⟩
end
end D3
set_option maxRecDepth 100000
set_option maxHeartbeats 1000000
namespace D3
open PySem PySem.Spec
open PyProof.Rows hiding St
open L2 hiding St
section
variable{X:Cx}{e:Expr}{te:DTE}{pos:Pos}{n:Nat}
theorem Iq{H:Hp}{l:Addr}{u:HO}(hl:H l=none):∀{bs:List Addr} {cs:List (Int×Int)},A6 H bs cs→A6 (upd H l u) bs cs
 |_,_,.nil=>.nil
 |_,_,.cons e t=>.cons (by rw[Ar (A9 e hl)];exact e) (Iq hl t)
theorem Iz{pins:List (Addr×Obj)}{σ:L2.St}{H:Hp}{s:Shared}(I:Inv X pins σ H s):∀{bs:List Addr} {cs:List (Int×Int)},A6 H bs cs→AreC X.prog X.w s.heap cs (bs.map Value.ref) []
 |_,_,.nil,p,hp=>by simp at hp
 |_,_,.cons (a:=b) (b:=c) e t,p,hp=>by
  rw[List.map_cons,List.zip_cons_cons] at hp
  rcases List.mem_cons.mp hp with rfl|hp
  ·obtain⟨a,o,t1,u1,n,ea,x2,x3,x4⟩:=Eo I e
   cases ea
   exact⟨b,rfl,by simp,o,_,n,x2,x3,x4,.cons (intKind_is _ _ _ _) (.cons (intKind_is _ _ _ _) .nil)⟩
  ·exact Iz I t p hp
theorem To:∀{bs:List Addr} {cs:List (Int×Int)},bs.length=cs.length→(inC cs (bs.map Value.ref) cs.length).map (·.2)=bs.map Value.ref:=fun {bs cs} h=>by
 unfold inC
 rw[List.take_of_length_le (by rw[List.length_zip];omega),List.map_map]
 have:((fun x:Int×Value=>x.2) ∘ fun p:(Int×Int)×Value=>(Dx p.1,p.2))=fun p=>p.2:=rfl
 rw[this]
 exact List.map_snd_zip (by rw[List.length_map];omega)
theorem Ql(hc:X.calm=true)(hr:Room n X.A):CallR X (.type "set") (fun xs H Q=>∃(p:Addr) (bs:List Addr) (cs:List (Int×Int)),xs=[.ref p]∧SqT X.K H p (bs.map V.ref)∧A6 H bs cs∧cs.Nodup∧(∀c∈cs,Fj c)∧cs.length<300∧
  ∀l es ep t,H l=none→SOkC X.w es t (inC cs (bs.map Value.ref) cs.length)→Q (.ref l) (upd H l (Mm l es ep t))):=by
 intro pins s σ H xs us Q I r h
 obtain⟨p,bs,cs,rfl,hq,c,nd,hbx,hn,q⟩:=h
 obtain⟨u,rfl,rx⟩:=Dc r
 cases rx
 obtain⟨its,rv,pl,_⟩:=I.tuple hq
 have eits:its=bs.map Value.ref:=by
  have:∀{bs:List Addr} {its:List Value},Vals (bs.map V.ref) its→its=bs.map Value.ref:=fun {bs}=>by
   induction bs with
   |nil=>intro its h;cases h;rfl
   |cons b r ih=>intro its h;cases h with|cons h t=>rw[ih t];cases h;rfl
  exact this rv
 subst eits
 have hlb:bs.length=cs.length:=Paired.length c
 have hsz:(bs.map Value.ref).toArray.size=cs.length:=by simp[hlb]
 refine Pj (cs:=cs) (I.ok.hd hc) (by have:=hr.un;omega) pl (by simpa using Iz I c) (by rw[hsz]) nd hbx (by rw[hsz];exact hn) fun h' tk es ep t htk ho hO kp=>?_
 have kp':∀b o,s.heap.get? b=some o→h'.get? b=some o:=fun b o e=>kp b o (Heap.lt_size e) e
 rw[hsz,List.toList_toArray] at hO
 exact⟨.ref s.heap.objs.size,_,I.laid (t':=tk) (o:=Mm s.heap.objs.size es ep t) kp' (Nat.le_refl _) ⟨ho,⟨_,ho⟩,fun h1 h2 a b=>b _ a⟩,rfl,q _ es ep t (I.hok.fresh (Nat.le_refl _)) hO⟩
theorem Kg(hc:X.calm=true):CallR X (.builtin "sorted") (fun xs H Q=>∃l es ep t bs cs,xs=[.ref l]∧H l=some (Mm l es ep t)∧SOkC X.w es t (inC cs (bs.map Value.ref) cs.length)∧A6 H bs cs∧cs.Nodup∧(∀m∈cs,0≤m.2∧m.2<1000)∧cs.length<300∧
  ∀p (ms:List (Int×Int)) (bs':List Addr),H p=none→ms.Perm cs→ms.Pairwise Bf→A6 H bs' ms→Q (.ref p) (upd H p (.lst (bs'.map V.ref)))):=by
 intro pins s σ H xs us Q I r h
 obtain⟨l,es,ep,t,bs,cs,rfl,hl,hO,c,nd,hb,hn,q⟩:=h
 obtain⟨u,rfl,rx⟩:=Dc r
 cases rx
 obtain⟨ho,_⟩:=(show ObjOk X.prog X.w H s.heap l (Mm l es ep t) from I.hok l _ hl)
 have hlb:bs.length=cs.length:=Paired.length c
 refine H0 (C:=fun vs s'=>vs.Perm (bs.map Value.ref)∧s'.gens=s.gens∧s'.os=s.os∧s.toks≤s'.toks∧∀b o,s.heap.get? b=some o→s'.heap.get? b=some o) (fun Q' hq=>L9 (A:=X.A.in1) (I.ok.hd hc) hO.base ho fun vs s' hvs eg eo htk keep=>hq _ _ ⟨hvs.trans ?_,eg,eo,htk,keep⟩) ?_
 ·exact(hO.pm.map _).trans (List.Perm.of_eq (To hlb))
 ·rintro vs ⟨h',g',d',tk',os'⟩ ⟨hvs,eg,eo,htk,keep⟩
  have eg:g'=s.gens:=eg
  have eo:os'=s.os:=eo
  subst eg;subst eo
  have I1:Inv X pins σ H { s with heap:=h',toks:=tk' }:=I.kept keep
  obtain⟨f1,f2,f3⟩:=Gw I1 c nd hb
  refine⟨Ay h',by rw[hvs.length_eq,List.length_map];omega,fun v hv=>f1 v (hvs.mem_iff.mp hv),fun v hv=>f2 v (hvs.mem_iff.mp hv),(hvs.map _).nodup_iff.mpr f3,fun h2 out n hp pw keep2 hn2=>?_⟩
  exact K3 I1 c (by omega) nd hb q (tk:=tk') (d:=d') (hp.trans hvs) pw (Nat.le_refl _) keep2 hn2
def Ig(te:DTE):DTE:=fun σ G Q=>te σ G fun d G1=>∃cs:List (Int×Int),d=.tup (cs.map Ae)∧cs.Nodup∧(∀c∈cs,Fj c)∧cs.length<300∧∀p (ms:List (Int×Int)),G1 p=none→ms.Perm cs→ms.Pairwise Bf→Q (.ref p) (Ad G1 p (.lst (ms.map Ae)))
theorem M5{p1 p2 p3:Pos}(hc:X.calm=true)(hr:Room n X.A)(hm1:X.mg "sorted" = none)(hm2:X.mg "set" = none)(he:QE X e te)(hg1:Gl X "sorted":=by rfl)(hg2:Gl X "set":=by rfl)(hs1:starEach [.Call (.Name "set" p2) [e] [] p3] X.env=[(false,eval (.Call (.Name "set" p2) [e] [] p3) X.env)]:=by rfl)(hs2:starEach [e] X.env=[(false,eval e X.env)]:=by rfl) :
  QE X (.Call (.Name "sorted" p1) [.Call (.Name "set" p2) [e] [] p3] [] pos) (Ig te):=by
 refine(K5 (Kg hc) hg1 hm1 (by decide +kernel) (Ju (Ie (Ql hc hr) hg2 hm2 (by decide +kernel) (Ju he pa_nil hs2) (he:=hs2)) pa_nil hs1) (he:=hs1)).imp fun σ H Q ⟨σD,G,Q',rs,rg,h,cl⟩=>?_
 refine⟨σD,G,_,rs,rg,h,fun d G1 ⟨cs,en,nd,hbx,hn,q⟩ H1 x1 rg1 v dv=>?_⟩
 subst en
 cases dv with
 |tup e r=>
  rename_i a xs
  obtain⟨bs,rfl,c⟩:=Fa r
  have hb:∀m∈cs,0≤m.2∧m.2<1000:=fun m hm=>by have:=hbx m hm;exact⟨this.2.2.1,by have:=this.2.2.2;omega⟩
  refine⟨a,bs,cs,rfl,.inl (.inl e),c,nd,hbx,hn,fun l es ep t hl hO=>?_⟩
  have x2:Ext H1 (upd H1 l (Mm l es ep t)):=Ext.fresh hl
  have rg2:RelG X.K (upd H1 l (Mm l es ep t)) G1:=rg1.tup hl
  have c2:A6 (upd H1 l (Mm l es ep t)) bs cs:=Iq hl c
  refine⟨l,es,ep,t,bs,cs,rfl,A4,hO,c2,nd,hb,hn,fun p ms bs' hp h1 h2 h3=>?_⟩
  exact cl _ _ (q p ms (rg2.free hp) h1 h2) _ (x1.trans (x2.trans (Ext.fresh hp))) (rg2.lst hp (Fc (H':=H1) (u:=.own l) hp h3)) _ (.ref p)
end
end D3
set_option maxRecDepth 100000
set_option maxHeartbeats 4000000
namespace K2
open PySem L2 D3
def top(i:Nat):Stmt:=PySem.Challenge.pw_laidmarks_k03_whole_drift.main.body.getD i (.Pass ⟨0,0,0,0⟩)
abbrev Lr:List Str:=["len", "range", "abs", "divmod", "max", "min", "tuple", "int", "bool", "list", "isinstance", "all", "sorted", "repr", "dict", "set"]
theorem exPow{p:Int→Int→Prop}{i j:Int}:(∃a b,D.int i=D.int a∧D.int j=D.int b∧p a b)↔p i j:=⟨fun⟨_,_,e1,e2,h⟩=>by cases e1;cases e2;exact h,fun h=>⟨i,j,rfl,rfl,h⟩⟩
theorem Ej{α:Type}{xs:List α}{i:Int}(h0:0≤i)(h1:i<xs.length):∃x,atI xs i=some x∧x∈xs:=by
 obtain⟨k,rfl⟩:=Int.eq_ofNat_of_zero_le h0
 have hk:k<xs.length:=by omega
 exact⟨xs[k],Cp (List.getElem?_eq_getElem hk),List.getElem_mem hk⟩
section
variable{P:Program}{w:World}{K:W.Frag}{mg:Str→Option Value}{base:Heap}
structure Blt(mg:Str→Option Value):Prop where
 blt:∀{x:Str},x∈Lr→mg x=none
def Eh(o:Option GO):Prop:=∃b c,o=some (.lst [.int b,.int c])
abbrev s_L_box:Stmt:=top 29
abbrev Vx:List Str:=["_law_script", "_law_k", "_law_here", "_law_number", "_law_j", "_law_piece"]
abbrev p_L_box:List Str:=["_law_script", "_law_k"]
theorem sc_L_box:FnScope Vx p_L_box (Ag s_L_box):=⟨rfl,rfl,rfl,by decide +kernel,rfl,by decide +kernel,by decide +kernel⟩
def spBox:DSp:=fun ds G Q _=>∃ns k,ds=[.lint ns,.int k]∧(0≤k∧k<1000)∧∀p,G p=none→∀b c,Q (.ref p) (Ad G p (.lst [.int b,.int c]))
theorem Ya{f:Addr}{fd:FuncData}(F:Fun K "_law_box" "_law_box" s_L_box f fd)(T:Blt mg):FnOk P w K mg base CX0 1 f fd p_L_box (Ak K spBox):=by
 refine okD F sc_L_box (fun ds G Q E h=>?_) (fun cdv A outer s H XE ds G Q E hr h=>?_)
 ·obtain⟨ns,k,rfl,_⟩:=h;rfl
 ·obtain⟨ns,k,rfl,⟨k0,k1⟩,q⟩:=h
  refine⟨_,(@qss_cons _ _ _ _ _ (@qs_set _ _ _ _ 2 _ _ sc_L_box.nd (@q_op _ _ _ _ _ _ _ _ (@o_addD _) (@q_op _ _ _ _ _ _ _ _ (@Ed _) (@q_int _ _ _ _) (@q_v1 _ _ 1 _ (by exact⟨rfl,rfl,rfl,rfl⟩))) (@q_int _ _ _ _)) (by rfl) (by exact .inl rfl) (by rfl) (by exact .inl rfl)) (@qss_cons _ _ _ _ _ (@Rn _ _ _ _ _ _ _ _ (@qt_cmp _ _ _ _ _ _ _ _ (@Y4 _) (@q_v1 _ _ 1 _ (by exact⟨rfl,rfl,rfl,rfl⟩)) (@q_callB _ _ _ _ _ _ _ _ _ (@c_len _) (T.blt (by decide)) (by decide +kernel) (@qa_consP _ _ _ _ _ (@q_v1 _ _ 0 _ (by exact⟨rfl,rfl,rfl,rfl⟩)) (@qa_nil _) (by rfl)) (by rfl) (by decide) (by decide) (by rfl) (by rfl)) (nomark _)) (@qss_one _ _ _ (@qs_set _ _ _ _ 2 _ _ sc_L_box.nd (@q_ix _ _ _ _ _ _ (@q_v1 _ _ 0 _ (by exact⟨rfl,rfl,rfl,rfl⟩)) (@q_v1 _ _ 1 _ (by exact⟨rfl,rfl,rfl,rfl⟩)) (by intro _ _ ;rfl)) (by rfl) (by exact .inl rfl) (by rfl) (by exact .inl rfl))) (@qss_nil _)) (@qss_cons _ _ _ _ _ (@qs_if _ _ _ _ _ _ _ _ (@qt_cmp _ _ _ _ _ _ _ _ (@o_eq _) (@q_op _ _ _ _ _ _ _ _ (@Ee _) (@q_v1 _ _ 2 _ (by exact⟨rfl,rfl,rfl,rfl⟩)) (@q_int _ _ _ _)) (@q_int _ _ _ _) (nomark _)) (@qss_one _ _ _ (@qs_ret _ _ _ _ (@q_lst _ _ _ _ (@qa_consP _ _ _ _ _ (@q_op _ _ _ _ _ _ _ _ (@Rs _) (@q_v1 _ _ 2 _ (by exact⟨rfl,rfl,rfl,rfl⟩)) (@q_int _ _ _ _)) (@qa_consP _ _ _ _ _ (@q_op _ _ _ _ _ _ _ _ (@Ee _) (@q_callB _ _ _ _ _ _ _ _ _ (@Wh _) (T.blt (by decide)) (by decide +kernel) (@qa_consP _ _ _ _ _ (@q_v1 _ _ 2 _ (by exact⟨rfl,rfl,rfl,rfl⟩)) (@qa_nil _) (by rfl)) (by rfl) (by decide) (by decide) (by rfl) (by rfl)) (@q_int _ _ _ _)) (@qa_nil _) (by rfl)) (by rfl))))) (@qss_nil _)) (@qss_cons _ _ _ _ _ (@qs_set _ _ _ _ 3 _ _ sc_L_box.nd (@q_int _ _ _ _) (by rfl) (by exact .inl rfl) (by rfl) (by exact .inl rfl)) (@qss_cons _ _ _ _ _ (@Dk _ _ _ _ _ _ _ _ _ _ PassesOwn.never rfl (T.blt (by decide)) (@qa_consP _ _ _ _ _ (@q_int _ _ _ _) (@qa_nil _) (by rfl)) (@qg_name _ _ 4 _ sc_L_box.nd (by rfl) (by exact .inl rfl) (by exact .inl rfl)) (@qss_cons _ _ _ _ _ (@qs_set _ _ _ _ 5 _ _ sc_L_box.nd (@q_op _ _ _ _ _ _ _ _ (@Ee _) (@q_op _ _ _ _ _ _ _ _ (@o_addD _) (@q_op _ _ _ _ _ _ _ _ (@o_addD _) (@q_op _ _ _ _ _ _ _ _ (@Ed _) (@q_op _ _ _ _ _ _ _ _ (@Ee _) (@q_v1 _ _ 2 _ (by exact⟨rfl,rfl,rfl,rfl⟩)) (@q_int _ _ _ _)) (@q_int _ _ _ _)) (@q_op _ _ _ _ _ _ _ _ (@Ed _) (@q_int _ _ _ _) (@q_v1 _ _ 4 _ (by exact⟨rfl,rfl,rfl,rfl⟩)))) (@q_int _ _ _ _)) (@q_int _ _ _ _)) (by rfl) (by exact .inl rfl) (by rfl) (by exact .inl rfl)) (@qss_cons _ _ _ _ _ (@qs_set _ _ _ _ 5 _ _ sc_L_box.nd (@q_op _ _ _ _ _ _ _ _ (@Ee _) (@q_op _ _ _ _ _ _ _ _ (@Ed _) (@q_v1 _ _ 5 _ (by exact⟨rfl,rfl,rfl,rfl⟩)) (@q_v1 _ _ 5 _ (by exact⟨rfl,rfl,rfl,rfl⟩))) (@q_int _ _ _ _)) (by rfl) (by exact .inl rfl) (by rfl) (by exact .inl rfl)) (@qss_one _ _ _ (@qs_set _ _ _ _ 3 _ _ sc_L_box.nd (@q_op _ _ _ _ _ _ _ _ (@o_addD _) (@q_op _ _ _ _ _ _ _ _ (@Ed _) (@q_v1 _ _ 3 _ (by exact⟨rfl,rfl,rfl,rfl⟩)) (@q_int _ _ _ _)) (@q_op _ _ _ _ _ _ _ _ (@Ee _) (@q_op _ _ _ _ _ _ _ _ (@Ed _) (@q_v1 _ _ 5 _ (by exact⟨rfl,rfl,rfl,rfl⟩)) (@q_op _ _ _ _ _ _ _ _ (@o_addD _) (@q_v1 _ _ 5 _ (by exact⟨rfl,rfl,rfl,rfl⟩)) (@q_int _ _ _ _))) (@q_int _ _ _ _))) (by rfl) (by exact .inl rfl) (by rfl) (by exact .inl rfl))))) (by rfl) (by rfl) (by intro _ ;rfl)) (@qss_one _ _ _ (@qs_ret _ _ _ _ (@q_lst _ _ _ _ (@qa_consP _ _ _ _ _ (@q_v1 _ _ 3 _ (by exact⟨rfl,rfl,rfl,rfl⟩)) (@qa_consP _ _ _ _ _ (@q_op _ _ _ _ _ _ _ _ (@Ee _) (@q_callB _ _ _ _ _ _ _ _ _ (@Wh _) (T.blt (by decide)) (by decide +kernel) (@qa_consP _ _ _ _ _ (@q_v1 _ _ 2 _ (by exact⟨rfl,rfl,rfl,rfl⟩)) (@qa_nil _) (by rfl)) (by rfl) (by decide) (by decide) (by rfl) (by rfl)) (@q_int _ _ _ _)) (@qa_nil _) (by rfl)) (by rfl)))))))))),?_⟩
  obtain⟨k,rfl⟩:=Int.eq_ofNat_of_zero_le k0
  have sz:=sz2
  simp only[B2,Cd,nOp,nC,Aq,An,List.map_cons,List.map_nil,List.length_cons,List.length_nil,Nat.zero_add,Nat.reduceAdd,Nat.reduceSub,List.replicate,List.cons_append,List.nil_append,List.getElem?_cons_succ,List.getElem?_cons_zero,Option.some.injEq,dI,D.int.injEq,CMul,Int.reducePow,Int.reduceNeg,As,Wp,By,List.set_cons_succ,List.set_cons_zero,nCB,Ai,A1,List.cons.injEq,and_true,dI0,D.bl.injEq,dIx,exists_eq_left',P7,Cg,decide_eq_true_eq,Lb,Eb,dEq,eqS,B3,F4,Mo,Int.reduceLT,true_and,and_assoc,F5,Int.reduceLE,Int.reduceToNat,B5,and_self,true_or]
  refine⟨fun σ G'=>∃n,σ=[some (.lint ns),some (.int k),some (.int n),none,none,none]∧G=G',?_,?_⟩
  ·by_cases h:k<ns.length
   ·refine it0 (by omega) ?_
    have e:ns[k]? = some ns[k]:=by simp[h]
    exact⟨_,Yt (by rw[List.getElem?_map,e];rfl),Fs.of ⟨_,rfl,rfl⟩⟩
   ·refine it1 (by omega) ?_
    exact Fs.of ⟨_,rfl,rfl⟩
  ·rintro σ' G' ⟨n,rfl,rfl⟩
   simp only[List.getElem?_cons_succ,List.getElem?_cons_zero,Option.some.injEq,sz,true_and,exists_eq_left',D.int.injEq,List.set_cons_succ,List.set_cons_zero]
   by_cases h:n % 2=0
   ·refine it0 h ?_
    exact fun p hp=>Fq.of (q p hp _ _)
   ·refine it1 h ?_
    refine Bw (fun i σ G'=>∃m v v',σ=[some (.lint ns),some (.int k),some (.int n),some (.int m),v,v']∧G=G') ⟨0,none,none,rfl,rfl⟩ ?_ ?_
    ·rintro i σ G' hi ⟨m,v,v',rfl,rfl⟩
     simp only[As,B2,Cd,nOp,Aq,List.set_cons_succ,List.set_cons_zero,List.getElem?_cons_succ,List.getElem?_cons_zero,Option.some.injEq,nC,dI,D.int.injEq,CMul,Int.reducePow,Int.reduceNeg,B5,exists_eq_left',Int.reduceLT,true_and,and_self,or_true,true_or]
     have p1:∀x:Int,0≤x % 2147483647∧x % 2147483647<2147483647:=fun x=>⟨Int.emod_nonneg _ (by decide),Int.emod_lt_of_pos _ (by decide)⟩
     have p2:∀x:Int,0≤x % 2147483629∧x % 2147483629<2147483629:=fun x=>⟨Int.emod_nonneg _ (by decide),Int.emod_lt_of_pos _ (by decide)⟩
     exact⟨.inl ⟨Int.lt_of_lt_of_le (by decide) (p1 _).1,Int.lt_trans (p1 _).2 (by decide)⟩,.inl ⟨Int.lt_of_lt_of_le (by decide) (p2 _).1,Int.lt_trans (p2 _).2 (by decide)⟩,Fs.of ⟨_,_,_,rfl,rfl⟩⟩
    ·rintro σ G' ⟨m,v,v',rfl,rfl⟩
     simp only[B3,F4,Ai,Aq,List.getElem?_cons_succ,List.getElem?_cons_zero,Option.some.injEq,nOp,nCB,A1,List.cons.injEq,and_true,nC,dI,D.int.injEq,List.length_cons,List.length_nil,Nat.zero_add,Nat.reduceAdd,sz,true_and,exists_eq_left',Int.reduceLT]
     exact fun p hp=>Fq.of (q p hp _ _)
abbrev s_L_more:Stmt:=top 30
abbrev T3:List Str:=["_law_box_here", "_law_number", "_law_j"]
abbrev Cz:List Str:=["_law_box_here"]
theorem sc_L_more:FnScope T3 Cz (Ag s_L_more):=⟨rfl,rfl,rfl,by decide +kernel,rfl,by decide +kernel,by decide +kernel⟩
def Jk:DSp:=fun ds G Q _=>∃a,ds=[.ref a]∧∃b c,G a=some (.lst [.int b,.int c])∧∀n c',Q (.int n) (Ad G a (.lst [.int b,.int c']))
theorem U7{f:Addr}{fd:FuncData}(F:Fun K "_law_more" "_law_more" s_L_more f fd)(T:Blt mg):FnOk P w K mg base CX0 1 f fd Cz (Ak K Jk):=by
 refine okD F sc_L_more (fun ds G Q E h=>?_) (fun cdv A outer s H XE ds G Q E hr h=>?_)
 ·obtain⟨a,rfl,_⟩:=h;rfl
 ·obtain⟨a,rfl,b,c,hG,k⟩:=h
  refine⟨_,(@qss_cons _ _ _ _ _ (@qs_set _ _ _ _ 1 _ _ sc_L_more.nd (@q_int _ _ _ _) (by rfl) (by exact .inl rfl) (by rfl) (by exact .inl rfl)) (@qss_cons _ _ _ _ _ (@Dk _ _ _ _ _ _ _ _ _ _ PassesOwn.never rfl (T.blt (by decide)) (@qa_consP _ _ _ _ _ (@q_int _ _ _ _) (@qa_nil _) (by rfl)) (@qg_name _ _ 2 _ sc_L_more.nd (by rfl) (by exact .inl rfl) (by exact .inl rfl)) (@qss_cons _ _ _ _ _ (@qs_asg _ _ _ _ _ _ (@q_op _ _ _ _ _ _ _ _ (@Ee _) (@q_op _ _ _ _ _ _ _ _ (@o_addD _) (@q_op _ _ _ _ _ _ _ _ (@Ed _) (@q_ix _ _ _ _ _ _ (@q_v1 _ _ 0 _ (by exact⟨rfl,rfl,rfl,rfl⟩)) (@q_int _ _ _ _) (by intro _ _ ;rfl)) (@q_int _ _ _ _)) (@q_int _ _ _ _)) (@q_int _ _ _ _)) (@F8 _ _ _ _ _ _ _ (@q_v1 _ _ 0 _ (by exact⟨rfl,rfl,rfl,rfl⟩)) (@q_int _ _ _ _) (@Ms _) (by intro _ ;rfl)) (by rfl) (by rfl) (by rfl)) (@qss_one _ _ _ (@qs_set _ _ _ _ 1 _ _ sc_L_more.nd (@q_op _ _ _ _ _ _ _ _ (@o_addD _) (@q_op _ _ _ _ _ _ _ _ (@Ed _) (@q_v1 _ _ 1 _ (by exact⟨rfl,rfl,rfl,rfl⟩)) (@q_int _ _ _ _)) (@q_op _ _ _ _ _ _ _ _ (@Ee _) (@q_op _ _ _ _ _ _ _ _ (@Rs _) (@q_ix _ _ _ _ _ _ (@q_v1 _ _ 0 _ (by exact⟨rfl,rfl,rfl,rfl⟩)) (@q_int _ _ _ _) (by intro _ _ ;rfl)) (@q_int _ _ _ _)) (@q_int _ _ _ _))) (by rfl) (by exact .inl rfl) (by rfl) (by exact .inl rfl)))) (by rfl) (by rfl) (by intro _ ;rfl)) (@qss_one _ _ _ (@qs_ret _ _ _ _ (@q_v1 _ _ 1 _ (by exact⟨rfl,rfl,rfl,rfl⟩)))))),?_⟩
  obtain⟨G,rfl⟩:=Ry hG
  simp only[B2,Cd,nC,As,F5,Ai,A1,List.cons.injEq,D.int.injEq,and_true,Int.reducePow,Int.reduceNeg,An,List.map_cons,List.map_nil,List.length_cons,List.length_nil,Nat.zero_add,Nat.reduceAdd,Nat.reduceSub,List.replicate,List.cons_append,List.nil_append,List.set_cons_succ,List.set_cons_zero,and_assoc,exists_eq_left',Int.reduceLE,Int.reduceLT,Int.reduceToNat,true_and]
  refine Bw (fun i σ G'=>∃c' n v,σ=[some (.ref a),some (.int n),v]∧G'=Ad G a (.lst [.int b,.int c'])) ⟨c,0,none,rfl,rfl⟩ ?_ ?_
  ·rintro i σ G' hi ⟨c',n,v,rfl,rfl⟩
   simp only[As,B2,Cd,nOp,Aq,List.set_cons_succ,List.set_cons_zero,List.getElem?_cons_zero,Option.some.injEq,nC,dIx,D.int.injEq,dI,CMul,Int.reducePow,Int.reduceNeg,Qz,Rc,List.getElem?_cons_succ,Mo,B5,exists_eq_left',Int.reduceLT,true_and,and_assoc,and_self,or_true,D.ref.injEq,Ci Aa,Aa,GO.lst.injEq,Aw,List.length_cons,List.length_nil,Nat.zero_add,Nat.reduceAdd,ix1,atI1]
   exact Fs.of ⟨_,_,_,rfl,rfl⟩
  ·rintro σ G' ⟨c',n,v,rfl,rfl⟩
   simp only[B3,Aq,List.getElem?_cons_succ,List.getElem?_cons_zero,Option.some.injEq,exists_eq_left']
   have k:=k n c'
   rw[Aw] at k
   exact Fq.of k
abbrev s_L_take:Stmt:=top 31
abbrev T2:List Str:=["_law_box_here", "_law_count", "_law_rest_of", "_law_digit"]
abbrev p_L_take:List Str:=["_law_box_here", "_law_count"]
theorem sc_L_take:FnScope T2 p_L_take (Ag s_L_take):=⟨rfl,rfl,rfl,by decide +kernel,rfl,by decide +kernel,by decide +kernel⟩
def spTake:DSp:=fun ds G Q _=>∃a c,ds=[.ref a,.int c]∧Eh (G a)∧(0<c∧c<1073741824)∧∀r b' c',0≤r→r<c→Q (.int r) (Ad G a (.lst [.int b',.int c']))
theorem U6{f:Addr}{fd:FuncData}(F:Fun K "_law_take" "_law_take" s_L_take f fd)(T:Blt mg)(Aa3:Def P w K mg base CX0 1 "_law_more" Cz Jk):FnOk P w K mg base CX0 2 f fd p_L_take (Ak K spTake):=by
 refine okD F sc_L_take (fun ds G Q E h=>?_) (fun cdv A outer s H XE ds G Q E hr h=>?_)
 ·obtain⟨a,c,rfl,_⟩:=h;rfl
 ·obtain⟨a,c,rfl,⟨b,d,hG⟩,⟨c0,c1⟩,q⟩:=h
  refine⟨_,(@qss_cons _ _ _ _ _ (@qs_if _ _ _ _ _ _ _ _ (@qt_chain _ _ _ _ _ _ _ _ _ _ _ _ (@o_le _) (@Y4 _) (@q_int _ _ _ _) (@q_ix _ _ _ _ _ _ (@q_v1 _ _ 0 _ (by exact⟨rfl,rfl,rfl,rfl⟩)) (@q_int _ _ _ _) (by intro _ _ ;rfl)) (@q_v1 _ _ 1 _ (by exact⟨rfl,rfl,rfl,rfl⟩)) (by with_unfolding_all rfl)) (@qss_one _ _ _ (@qs_asg _ _ _ _ _ _ (@q_op _ _ _ _ _ _ _ _ (@o_addD _) (@q_ix _ _ _ _ _ _ (@q_v1 _ _ 0 _ (by exact⟨rfl,rfl,rfl,rfl⟩)) (@q_int _ _ _ _) (by intro _ _ ;rfl)) (@q_op _ _ _ _ _ _ _ _ (@Ed _) (@q_v1 _ _ 1 _ (by exact⟨rfl,rfl,rfl,rfl⟩)) (@q_call _ _ _ _ _ _ _ _ noX _ _ _ Aa3 (hr.mono (by decide)) (@passN _ _) (@qa_consP _ _ _ _ _ (@q_v1 _ _ 0 _ (by exact⟨rfl,rfl,rfl,rfl⟩)) (@qa_nil _) (by rfl)) (by rfl) (by decide) (by rfl) (by rfl)))) (@F8 _ _ _ _ _ _ _ (@q_v1 _ _ 0 _ (by exact⟨rfl,rfl,rfl,rfl⟩)) (@q_int _ _ _ _) (@Ms _) (by intro _ ;rfl)) (by rfl) (by rfl) (by rfl))) (@qss_nil _)) (@qss_cons _ _ _ _ _ (@qs_asg _ _ _ _ _ _ (@q_callB _ _ _ _ _ _ _ _ _ (@Tv _) (T.blt (by decide)) (by decide +kernel) (@qa_consP _ _ _ _ _ (@q_ix _ _ _ _ _ _ (@q_v1 _ _ 0 _ (by exact⟨rfl,rfl,rfl,rfl⟩)) (@q_int _ _ _ _) (by intro _ _ ;rfl)) (@qa_consP _ _ _ _ _ (@q_v1 _ _ 1 _ (by exact⟨rfl,rfl,rfl,rfl⟩)) (@qa_nil _) (by rfl)) (by rfl)) (by rfl) (by decide) (by decide) (by rfl) (by rfl)) (@qg_tup _ _ _ _ _ 2 rfl (@qgs_cons _ _ _ _ _ (@qg_name _ _ 2 _ sc_L_take.nd (by rfl) (by exact .inl rfl) (by exact .inl rfl)) (@qgs_cons _ _ _ _ _ (@qg_name _ _ 3 _ sc_L_take.nd (by rfl) (by exact .inl rfl) (by exact .inl rfl)) (@qgs_nil _) (by rfl)) (by rfl)) (by rfl) (by rfl)) (by rfl) (by rfl) (by rfl)) (@qss_cons _ _ _ _ _ (@qs_asg _ _ _ _ _ _ (@q_v1 _ _ 2 _ (by exact⟨rfl,rfl,rfl,rfl⟩)) (@F8 _ _ _ _ _ _ _ (@q_v1 _ _ 0 _ (by exact⟨rfl,rfl,rfl,rfl⟩)) (@q_int _ _ _ _) (@Ms _) (by intro _ ;rfl)) (by rfl) (by rfl) (by rfl)) (@qss_one _ _ _ (@qs_ret _ _ _ _ (@q_v1 _ _ 3 _ (by exact⟨rfl,rfl,rfl,rfl⟩))))))),?_⟩
  have h2 : -18446744073709551616<c∧c<18446744073709551616:=by omega
  obtain⟨G,rfl⟩:=Ry hG
  simp only[B2,Eb,By,D1,nC,nOp,Aq,An,List.map_cons,List.map_nil,List.length_cons,List.length_nil,Nat.zero_add,Nat.reduceAdd,Nat.reduceSub,List.replicate,List.cons_append,List.nil_append,List.getElem?_cons_zero,Option.some.injEq,dIx,D.int.injEq,dI0,D.bl.injEq,List.getElem?_cons_succ,Cd,Ba,Ai,A1,Jk,List.cons.injEq,and_true,dI,CMul,Int.reducePow,Int.reduceNeg,Qz,Rc,nCB,Mo,Jf,D.tup.injEq,Eg,As,Jg,List.set_cons_succ,List.set_cons_zero,B3,exists_eq_left',D.ref.injEq,and_assoc,exists_and_left,true_and,c0,c1,Ci Aa,Aa,GO.lst.injEq,Aw,List.length_set,h2,and_self,true_or,Wu,B5,ix0,Cg,decide_eq_true_eq,reduceCtorEq,if_false]
  have fin:∀(n d':Int),Fq Q (.int (n % c)) (Ad G a (.lst [.int (n / c),.int d'])):=fun n d'=>by
   have:=q (n % c) (n / c) d' (Int.emod_nonneg _ (by omega)) (Int.emod_lt_of_pos _ c0)
   rw[Aw] at this
   exact Fq.of this
  by_cases h0:0≤b
  ·refine it0 h0 ?_
   by_cases h1:b<c
   ·refine it0 h1 ?_
    intro n d'
    exact fin _ _
   ·refine it1 h1 ?_
    exact fin _ _
  ·refine it1 h0 ?_
   exact fin _ _
def hid(G:Gp)(a:Addr):Gp:=fun b=>if b=a then none else G b
theorem Vg{G:Gp}{a:Addr}:Sub (hid G a) G:=fun b o h=>by
 unfold hid at h
 split at h
 ·cases h
 ·exact h
theorem Vh{G:Gp}{a:Addr}{o:GO}:hid (Ad G a o) a=hid G a:=by
 funext b;unfold hid Ad
 by_cases e:b=a<;>simp[e]
theorem Oj{G:Gp}{a p:Addr}{o:GO}(h:a≠p):hid (Ad G p o) a=Ad (hid G a) p o:=by
 funext b;unfold hid Ad
 by_cases e:b=a
 ·subst e;simp[h]
 ·simp[e]
theorem Gk{G:Gp}{a p:Addr}(h:G p=none):hid G a p=none:=by
 unfold hid;split<;>first|rfl|exact h
structure Step(a:Addr)(G G':Gp):Prop where
 box:Eh (G' a)
 sub:Sub (hid G a) (hid G' a)
theorem Step.trans{a:Addr}{G G1 G2:Gp}(x:Step a G G1)(y:Step a G1 G2):Step a G G2:=⟨y.box,x.sub.trans y.sub⟩
theorem Step.refl{a:Addr}{G:Gp}(h:Eh (G a)):Step a G G:=⟨h,Sub.refl _⟩
theorem Step.take{a:Addr}{G G1:Gp}(x:Step a G G1)(b c:Int):Step a G (Ad G1 a (.lst [.int b,.int c])):=⟨⟨b,c,Aa⟩,by rw[Vh];exact x.sub⟩
theorem Step.ne{a p:Addr}{G:Gp}(x:Eh (G a))(h:G p=none):a≠p:=fun e=>by subst e;obtain⟨b,c,hb⟩:=x;rw[h] at hb;cases hb
theorem Step.lay{a p:Addr}{G G1:Gp}{o:GO}(x:Step a G G1)(h:G1 p=none):Step a G (Ad G1 p o):=by
 have n:=Step.ne x.box h
 obtain⟨b,c,hb⟩:=x.box
 exact⟨⟨b,c,by rw[Ao n];exact hb⟩,by rw[Oj n];exact x.sub.skip (Gk h)⟩
theorem Step.get{a p:Addr}{G G1:Gp}{o:GO}(x:Step a G G1)(n:a≠p)(h:G p=some o):G1 p=some o:=by
 have e:hid G a p=some o:=by unfold hid;rw[if_neg (Ne.symm n)];exact h
 exact Vg _ _ (x.sub p o e)
theorem Step.back{a b:Addr}{G G1:Gp}(x:Step a G G1)(h:G1 b=none):G b=none:=by
 have n:=Step.ne x.box h
 have e:=x.sub.none (Gk (a:=a) h)
 unfold hid at e
 rwa [if_neg (Ne.symm n)] at e
theorem Step.write{a p:Addr}{G G1:Gp}{o:GO}(x:Step a G G1)(h:G p=none)(n:a≠p):Step a G (Ad G1 p o):=by
 obtain⟨b,c,hb⟩:=x.box
 refine⟨⟨b,c,by rw[Ao n];exact hb⟩,?_⟩
 rw[Oj n]
 intro d u e
 by_cases ed:d=p
 ·subst ed
  have:=Gk (a:=a) h
  rw[this] at e;cases e
 ·rw[Ao ed];exact x.sub d u e
theorem Bz{G:Gp}{a p:Addr}{o u:GO}(g:G a=some o)(h:G p=none):Ad G p u a=some o:=by rw[Ao (gne g h)];exact g
theorem Bh{G:Gp}{a:Addr}{c:Int}{Q:DK}{E:DX}(hb:Eh (G a))(c0:0<c)(c1:c<1073741824)(h:∀r G',0≤r→r<c→Step a G G'→Q (.int r) G'):spTake [.ref a,.int c] G Q E:=
 ⟨a,c,rfl,hb,⟨c0,c1⟩,fun r b' c' h0 h1=>h r _ h0 h1 ((Step.refl hb).take b' c')⟩
end
end K2
set_option maxRecDepth 100000
set_option maxHeartbeats 4000000
namespace K2
open PySem L2 D3
section
variable{P:Program}{w:World}{K:W.Frag}{mg:Str→Option Value}{base:Heap}
def C5(lo hi:Int):D→Bool
 |.int i=>decide (lo≤i)&&decide (i≤hi)
 |_=>false
structure Nums(mg:Str→Option Value):Prop extends Blt mg where
 LEAST_COLUMNS:∃t,mg "LEAST_COLUMNS" = some (.int 2 t)
 MOST_COLUMNS:∃t,mg "MOST_COLUMNS" = some (.int 16 t)
 LEAST_ROWS:∃t,mg "LEAST_ROWS" = some (.int 1 t)
 MOST_ROWS:∃t,mg "MOST_ROWS" = some (.int 9 t)
 LAND:∃t,mg "LAND" = some (.int 0 t)
 MOST_DEPTH:∃t,mg "MOST_DEPTH" = some (.int 9 t)
 LAST_DAY:∃t,mg "LAST_DAY" = some (.int 400 t)
abbrev s_is_whole_within:Stmt:=top 6
abbrev E0:List Str:=["thing", "low", "high"]
abbrev Aj:List Str:=["thing", "low", "high"]
theorem D8:FnScope E0 Aj (Ag s_is_whole_within):=⟨rfl,rfl,rfl,by decide +kernel,rfl,by decide +kernel,by decide +kernel⟩
def Cn:DSp:=fun ds G Q _=>∃d lo hi,ds=[d,.int lo,.int hi]∧Kn G d∧Q (.bl (C5 lo hi d)) G
theorem Sz{f:Addr}{fd:FuncData}(F:Fun K "is_whole_within" "is_whole_within" s_is_whole_within f fd)(T:Nums mg):FnOk P w K mg base CX0 1 f fd Aj (Ak K Cn):=by
 refine okD F D8 (fun ds G Q E h=>?_) (fun cdv A outer s H XE ds G Q E hr h=>?_)
 ·obtain⟨d,lo,hi,rfl,_⟩:=h;rfl
 ·obtain⟨d,lo,hi,rfl,⟨t,ht⟩,k⟩:=h
  refine⟨_,(@qss_one _ _ _ (@qs_ret _ _ _ _ (@q_and _ _ _ _ _ _ _ (@q_callB _ _ _ _ _ _ _ _ _ (@c_isinst _) (T.blt (by decide)) (by decide +kernel) (@qa_consP _ _ _ _ _ (@q_v1 _ _ 0 _ (by exact⟨rfl,rfl,rfl,rfl⟩)) (@qa_consP _ _ _ _ _ (@q_globty _ _ _ "int" (T.blt (by decide)) (by decide +kernel) (by rfl) (by decide) (by decide)) (@qa_nil _) (by rfl)) (by rfl)) (by rfl) (by decide) (by decide) (by rfl) (by rfl)) (@q_and _ _ _ _ _ _ _ (@q_not _ _ _ _ (@q_callB _ _ _ _ _ _ _ _ _ (@c_isinst _) (T.blt (by decide)) (by decide +kernel) (@qa_consP _ _ _ _ _ (@q_v1 _ _ 0 _ (by exact⟨rfl,rfl,rfl,rfl⟩)) (@qa_consP _ _ _ _ _ (@q_globty _ _ _ "bool" (T.blt (by decide)) (by decide +kernel) (by rfl) (by decide) (by decide)) (@qa_nil _) (by rfl)) (by rfl)) (by rfl) (by decide) (by decide) (by rfl) (by rfl))) (@V4 _ _ _ _ _ (@Ur _ _ _ _ _ _ _ _ _ _ _ _ (@o_le _) (@o_le _) (@q_v1 _ _ 1 _ (by exact⟨rfl,rfl,rfl,rfl⟩)) (@q_v1 _ _ 0 _ (by exact⟨rfl,rfl,rfl,rfl⟩)) (@q_v1 _ _ 2 _ (by exact⟨rfl,rfl,rfl,rfl⟩)) (by with_unfolding_all rfl))))))),?_⟩
  simp only[B3,Q6,nCB,Ai,Aq,An,List.map_cons,List.map_nil,List.length_cons,List.length_nil,Nat.zero_add,Nat.reduceAdd,Nat.reduceSub,List.replicate,List.cons_append,List.nil_append,List.getElem?_cons_zero,Option.some.injEq,nC,A1,List.cons.injEq,D.ty.injEq,and_true,D.bl.injEq,V7,D1,List.getElem?_cons_succ,dI0,exists_eq_left',D.int.injEq,decide_eq_true_eq,and_assoc,exists_and_left,Vo,true_and,ht,Yq]
  have other:(pyIs t "int" = false∨pyIs t "bool" = true)→Q (.bl false) G→if pyIs t "int" = true then if (!pyIs t "bool")=true then ∃j,d=D.int j∧if lo≤j then ∃i,d=D.int i∧Fq Q (D.bl (decide (i≤hi))) G else Fq Q (D.bl false) G else Fq Q (D.bl false) G else Fq Q (D.bl false) G:=fun h q=>by
   rcases h with h|h
   ·rw[h,if_neg Bool.false_ne_true];exact Fq.of q
   ·rw[h];split
    ·rw[if_neg (by decide)];exact Fq.of q
    ·exact Fq.of q
  cases d with
  |int i=>
   cases ht
   rw[if_pos (by decide),if_pos (by decide)]
   refine⟨i,rfl,?_⟩
   by_cases h:lo≤i
   ·rw[if_pos h]
    refine⟨i,rfl,Fq.of ?_⟩
    simpa[C5,h] using k
   ·rw[if_neg h]
    refine Fq.of ?_
    simpa[C5,h] using k
  |bl b=>cases ht;exact other (.inr (by decide)) k
  |non=>cases ht;exact other (.inl (by decide)) k
  |str x=>cases ht;exact other (.inl (by decide)) k
  |tup ds=>cases ht;exact other (.inl (by decide)) k
  |ty n=>cases ht
  |lint ns=>cases ht
  |ref a=>
   refine other (.inl ?_) k
   simp only[Dd] at ht
   split at ht<;>first|(cases ht;decide)|cases ht
def Av(c:List Int):D:=.tup (c.map D.int)
def A8(s:List (List Int)):D:=.tup (s.map Av)
structure SeaOk(s:List (List Int))(h:Nat):Prop where
 wide:2≤s.length∧s.length≤16
 high:1≤h∧h≤9
 col:∀c∈s,c.length=h∧∀x∈c,0≤x∧x≤9
def Ko(lo hi:Int):DSp:=fun ds G Q _=>∃i,ds=[.int i]∧lo≤i∧i≤hi∧Q (.bl true) G
def spChk(lo hi:Int):DSp:=fun ds G Q _=>∃i,ds=[.int i]∧lo≤i∧i≤hi∧Q .non G
abbrev s_is_depth:Stmt:=top 15
abbrev No:List Str:=["thing"]
abbrev Bu:List Str:=["thing"]
theorem Lw:FnScope No Bu (Ag s_is_depth):=⟨rfl,rfl,rfl,by decide +kernel,rfl,by decide +kernel,by decide +kernel⟩
theorem S3{f:Addr}{fd:FuncData}(F:Fun K "is_depth" "is_depth" s_is_depth f fd)(T:Nums mg)(Aaz:Def P w K mg base CX0 1 "is_whole_within" Aj Cn):FnOk P w K mg base CX0 2 f fd Bu (Ak K (Ko 0 9)):=by
 refine okD F Lw (fun ds G Q E h=>?_) (fun cdv A outer s H XE ds G Q E hr h=>?_)
 ·obtain⟨i,rfl,_⟩:=h;rfl
 ·obtain⟨i,rfl,h1,h2,k⟩:=h
  refine⟨_,(@qss_one _ _ _ (@qs_ret _ _ _ _ (@q_call _ _ _ _ _ _ _ _ noX _ _ _ Aaz (hr.mono (by decide)) (@passN _ _) (@qa_consP _ _ _ _ _ (@q_v1 _ _ 0 _ (by exact⟨rfl,rfl,rfl,rfl⟩)) (@qa_consP _ _ _ _ _ (@q_globx _ _ _ _ T.LAND (by rfl) (by decide)) (@qa_consP _ _ _ _ _ (@q_globx _ _ _ _ T.MOST_DEPTH (by rfl) (by decide)) (@qa_nil _) (by rfl)) (by rfl)) (by rfl)) (by rfl) (by decide) (by rfl) (by rfl)))),?_⟩
  have kn:Kn G (.int i):=⟨_,rfl⟩
  simp only[B3,Ba,Ai,Aq,An,List.map_cons,List.map_nil,List.length_cons,List.length_nil,Nat.zero_add,Nat.reduceSub,List.replicate,List.cons_append,List.nil_append,List.getElem?_cons_zero,Option.some.injEq,nC,A1,Cn,List.cons.injEq,D.int.injEq,and_true,C5,and_assoc,exists_and_left,exists_eq_left',kn,h1,decide_true,h2,true_and]
  exact Fq.of k
abbrev s_is_day:Stmt:=top 16
abbrev T1:List Str:=["thing"]
abbrev Cy:List Str:=["thing"]
theorem Pn:FnScope T1 Cy (Ag s_is_day):=⟨rfl,rfl,rfl,by decide +kernel,rfl,by decide +kernel,by decide +kernel⟩
theorem X9{f:Addr}{fd:FuncData}(F:Fun K "is_day" "is_day" s_is_day f fd)(T:Nums mg)(Aaz:Def P w K mg base CX0 1 "is_whole_within" Aj Cn):FnOk P w K mg base CX0 2 f fd Cy (Ak K (Ko 0 400)):=by
 refine okD F Pn (fun ds G Q E h=>?_) (fun cdv A outer s H XE ds G Q E hr h=>?_)
 ·obtain⟨i,rfl,_⟩:=h;rfl
 ·obtain⟨i,rfl,h1,h2,k⟩:=h
  refine⟨_,(@qss_one _ _ _ (@qs_ret _ _ _ _ (@q_call _ _ _ _ _ _ _ _ noX _ _ _ Aaz (hr.mono (by decide)) (@passN _ _) (@qa_consP _ _ _ _ _ (@q_v1 _ _ 0 _ (by exact⟨rfl,rfl,rfl,rfl⟩)) (@qa_consP _ _ _ _ _ (@q_int _ _ _ _) (@qa_consP _ _ _ _ _ (@q_globx _ _ _ _ T.LAST_DAY (by rfl) (by decide)) (@qa_nil _) (by rfl)) (by rfl)) (by rfl)) (by rfl) (by decide) (by rfl) (by rfl)))),?_⟩
  have kn:Kn G (.int i):=⟨_,rfl⟩
  simp only[B3,Ba,Ai,Aq,An,List.map_cons,List.map_nil,List.length_cons,List.length_nil,Nat.zero_add,Nat.reduceSub,List.replicate,List.cons_append,List.nil_append,List.getElem?_cons_zero,Option.some.injEq,nC,A1,Cn,List.cons.injEq,D.int.injEq,and_true,C5,and_assoc,exists_and_left,exists_eq_left',kn,h1,decide_true,h2,true_and]
  exact Fq.of k
theorem Cj{α:Type}{xs:List α}:xs.filter (fun _=>true)=xs:=List.filter_eq_self.mpr fun _ _=>rfl
theorem Gv{α:Type}(c:List α):(c.map fun _=>true).all id=true:=by simp
abbrev s_is_column:Stmt:=top 17
abbrev Mi:List Str:=["thing"]
abbrev Bo:List Str:=["thing"]
theorem J7:FnScope Mi Bo (Ag s_is_column):=⟨rfl,rfl,rfl,by decide +kernel,rfl,by decide +kernel,by decide +kernel⟩
theorem Hg:((["depth"]:List Str)++(["thing"]:List Str)).Nodup:=by decide +kernel
def Ek:DSp:=fun ds G Q _=>∃c,ds=[Av c]∧1≤c.length∧c.length≤9∧(∀x∈c,0≤x∧x≤9)∧Q (.bl true) G
theorem Pu{f:Addr}{fd:FuncData}(F:Fun K "is_column" "is_column" s_is_column f fd)(T:Nums mg)(Aa4:Def P w K mg base CX0 2 "is_depth" Bu (Ko 0 9)):FnOk P w K mg base CX0 3 f fd Bo (Ak K Ek):=by
 refine okD F J7 (fun ds G Q E h=>?_) (fun cdv A outer s H XE ds G Q E hr h=>?_)
 ·obtain⟨c,rfl,_⟩:=h;rfl
 ·obtain⟨c,rfl,h1,h9,hx,k⟩:=h
  refine⟨_,(@qss_cons _ _ _ _ _ (@qs_if _ _ _ _ _ _ _ _ (@qt_of _ _ _ (@Ks _ _ _ _ _ _ _ (@qt_not _ _ _ _ (@qt_tru _ _ _ (@q_callB _ _ _ _ _ _ _ _ _ (@c_isinst _) (T.blt (by decide)) (by decide +kernel) (@qa_consP _ _ _ _ _ (@q_v1 _ _ 0 _ (by exact⟨rfl,rfl,rfl,rfl⟩)) (@qa_consP _ _ _ _ _ (@q_globty _ _ _ "tuple" (T.blt (by decide)) (by decide +kernel) (by rfl) (by decide) (by decide)) (@qa_nil _) (by rfl)) (by rfl)) (by rfl) (by decide) (by decide) (by rfl) (by rfl)) (by intro _ ;rfl))) (@qw_or1 _ _ _ _ (@qt_not _ _ _ _ (@qt_chain _ _ _ _ _ _ _ _ _ _ _ _ (@o_le _) (@o_le _) (@q_globx _ _ _ _ T.LEAST_ROWS (by rfl) (by decide)) (@q_callB _ _ _ _ _ _ _ _ _ (@c_len _) (T.blt (by decide)) (by decide +kernel) (@qa_consP _ _ _ _ _ (@q_v1 _ _ 0 _ (by exact⟨rfl,rfl,rfl,rfl⟩)) (@qa_nil _) (by rfl)) (by rfl) (by decide) (by decide) (by rfl) (by rfl)) (@q_globx _ _ _ _ T.MOST_ROWS (by rfl) (by decide)) (by with_unfolding_all rfl)))))) (@qss_one _ _ _ (@qs_ret _ _ _ _ (@q_bl _ _ _ _))) (@qss_nil _)) (@qss_one _ _ _ (@qs_ret _ _ _ _ (@q_callB _ _ _ _ _ _ _ _ _ (@c_all _ rfl) (T.blt (by decide)) (by decide +kernel) (@qa_consP _ _ _ _ _ (@q_compz _ _ _ _ _ _ _ _ _ _ _ ["depth"] ["thing"] rfl (@compOz _ _ _ _ (by rfl) (by rfl) (by rfl) (by rfl) (by rfl)) (@q_v1 _ _ 0 _ (by exact⟨rfl,rfl,rfl,rfl⟩)) (fun _ _ _=>(@qg_name _ _ 0 _ Hg (by rfl) (by exact .inl rfl) (by exact .inr rfl))) (fun _ _ _=>(@qf_nil _)) (fun _ _ _=>(@q_call _ _ _ _ _ _ _ _ noX _ _ _ Aa4 (hr.mono (by decide)) (@passN _ _) (@qa_consP _ _ _ _ _ (@q_v1 _ _ 0 _ (by exact⟨rfl,rfl,rfl,rfl⟩)) (@qa_nil _) (by rfl)) (by rfl) (by decide) (by rfl) (by rfl))) (by intro _ ;rfl)) (@qa_nil _) (by rfl)) (by rfl) (by decide) (by decide) (by rfl) (by rfl))))),?_⟩
  unfold Av
  simp only[B2,Eb,nOr,Je,F3,nCB,Ai,Aq,An,List.map_cons,List.map_nil,List.length_cons,List.length_nil,Nat.zero_add,Nat.reduceSub,List.replicate,List.cons_append,List.nil_append,List.getElem?_cons_zero,Option.some.injEq,nC,A1,List.cons.injEq,D.ty.injEq,and_true,B3,Cg,D0,exists_eq_left',Er,if_true,By,D1,dI0,D.int.injEq,D.bl.injEq,Bool.not_false,decide_eq_true_eq,F2,and_assoc,exists_and_left,Gs,true_and,Mp]
  refine⟨true,rfl,it1 (by decide) (it0 (by simp;omega) (it1 (by simp;omega) fun p hp=>?_))⟩
  have hz:(c.map D.int).length<sizeLine:=by rw[List.length_map,sizeLine_eq];omega
  refine C9 (fun x=>.bl true) (fun _=>true) hz (fun _=>by first|rfl|trivial) (by decide) (fun x ys hx' hl R1 R2 g1 _=>?_) ?_
  ·obtain⟨i,hi,rfl⟩:=List.mem_map.mp hx'
   simp only[Ef,Ba,Ai,Aq,List.replicate,List.cons_append,List.nil_append,List.set_cons_zero,List.getElem?_cons_zero,Option.some.injEq,A1,Ko,List.cons.injEq,and_true,Aa,hl,Aw,true_and,exists_eq_left',D.int.injEq,if_true]
   exact⟨(hx i hi).1,(hx i hi).2,Fg.of (g1 rfl)⟩
  ·refine⟨p,rfl,c.map (fun _=>true),by rw[Aa,Cj,List.map_map,List.map_map];rfl,?_⟩
   refine⟨G,Sub.new hp,?_⟩
   rw[Gv];exact k
abbrev s_is_sea:Stmt:=top 18
abbrev T0:List Str:=["thing"]
abbrev Cw:List Str:=["thing"]
theorem Pm:FnScope T0 Cw (Ag s_is_sea):=⟨rfl,rfl,rfl,by decide +kernel,rfl,by decide +kernel,by decide +kernel⟩
theorem nd_is_sea_1:((["column"]:List Str)++(["thing"]:List Str)).Nodup:=by decide +kernel
theorem L1:((["column"]:List Str)++(["thing"]:List Str)).Nodup:=by decide +kernel
def Nt:DSp:=fun ds G Q _=>∃s h,ds=[A8 s]∧SeaOk s h∧Q (.bl true) G
theorem X6{f:Addr}{fd:FuncData}(F:Fun K "is_sea" "is_sea" s_is_sea f fd)(T:Nums mg)(Aa5:Def P w K mg base CX0 3 "is_column" Bo Ek):FnOk P w K mg base CX0 4 f fd Cw (Ak K Nt):=by
 refine okD F Pm (fun ds G Q E h=>?_) (fun cdv A outer s H XE ds G Q E hr h=>?_)
 ·obtain⟨c,_,rfl,_⟩:=h;rfl
 ·obtain⟨c,h,rfl,ok,k⟩:=h
  refine⟨_,(@qss_cons _ _ _ _ _ (@qs_if _ _ _ _ _ _ _ _ (@qt_of _ _ _ (@Ks _ _ _ _ _ _ _ (@qt_not _ _ _ _ (@qt_tru _ _ _ (@q_callB _ _ _ _ _ _ _ _ _ (@c_isinst _) (T.blt (by decide)) (by decide +kernel) (@qa_consP _ _ _ _ _ (@q_v2 _ _ 0 _ (by exact⟨rfl,rfl,rfl,rfl⟩)) (@qa_consP _ _ _ _ _ (@q_globty _ _ _ "tuple" (T.blt (by decide)) (by decide +kernel) (by rfl) (by decide) (by decide)) (@qa_nil _) (by rfl)) (by rfl)) (by rfl) (by decide) (by decide) (by rfl) (by rfl)) (by intro _ ;rfl))) (@qw_or1 _ _ _ _ (@qt_not _ _ _ _ (@qt_chain _ _ _ _ _ _ _ _ _ _ _ _ (@o_le _) (@o_le _) (@q_globx _ _ _ _ T.LEAST_COLUMNS (by rfl) (by decide)) (@q_callB _ _ _ _ _ _ _ _ _ (@c_len _) (T.blt (by decide)) (by decide +kernel) (@qa_consP _ _ _ _ _ (@q_v2 _ _ 0 _ (by exact⟨rfl,rfl,rfl,rfl⟩)) (@qa_nil _) (by rfl)) (by rfl) (by decide) (by decide) (by rfl) (by rfl)) (@q_globx _ _ _ _ T.MOST_COLUMNS (by rfl) (by decide)) (by with_unfolding_all rfl)))))) (@qss_one _ _ _ (@qs_ret _ _ _ _ (@q_bl _ _ _ _))) (@qss_nil _)) (@qss_cons _ _ _ _ _ (@qs_if _ _ _ _ _ _ _ _ (@qt_not _ _ _ _ (@qt_tru _ _ _ (@q_callB _ _ _ _ _ _ _ _ _ (@c_all _ rfl) (T.blt (by decide)) (by decide +kernel) (@qa_consP _ _ _ _ _ (@q_compz _ _ _ _ _ _ _ _ _ _ _ ["column"] ["thing"] rfl (@compOz _ _ _ _ (by rfl) (by rfl) (by rfl) (by rfl) (by rfl)) (@q_v2 _ _ 0 _ (by exact⟨rfl,rfl,rfl,rfl⟩)) (fun _ _ _=>(@qg_name _ _ 0 _ nd_is_sea_1 (by rfl) (by exact .inl rfl) (by exact .inr rfl))) (fun _ _ _=>(@qf_nil _)) (fun _ _ _=>(@q_call _ _ _ _ _ _ _ _ noX _ _ _ Aa5 (hr.mono (by decide)) (@passN _ _) (@qa_consP _ _ _ _ _ (@q_v1 _ _ 0 _ (by exact⟨rfl,rfl,rfl,rfl⟩)) (@qa_nil _) (by rfl)) (by rfl) (by decide) (by rfl) (by rfl))) (by intro _ ;rfl)) (@qa_nil _) (by rfl)) (by rfl) (by decide) (by decide) (by rfl) (by rfl)) (by intro _ ;rfl))) (@qss_one _ _ _ (@qs_ret _ _ _ _ (@q_bl _ _ _ _))) (@qss_nil _)) (@qss_one _ _ _ (@qs_ret _ _ _ _ (@q_callB _ _ _ _ _ _ _ _ _ (@c_all _ rfl) (T.blt (by decide)) (by decide +kernel) (@qa_consP _ _ _ _ _ (@q_compz _ _ _ _ _ _ _ _ _ _ _ ["column"] ["thing"] rfl (@compOz _ _ _ _ (by rfl) (by rfl) (by rfl) (by rfl) (by rfl)) (@q_v2 _ _ 0 _ (by exact⟨rfl,rfl,rfl,rfl⟩)) (fun _ _ _=>(@qg_name _ _ 0 _ L1 (by rfl) (by exact .inl rfl) (by exact .inr rfl))) (fun _ _ _=>(@qf_nil _)) (fun _ _ _=>(@q_cmp _ _ _ _ _ _ _ _ (@o_eq _) (@q_callB _ _ _ _ _ _ _ _ _ (@c_len _) (T.blt (by decide)) (by decide +kernel) (@qa_consP _ _ _ _ _ (@q_v1 _ _ 0 _ (by exact⟨rfl,rfl,rfl,rfl⟩)) (@qa_nil _) (by rfl)) (by rfl) (by decide) (by decide) (by rfl) (by rfl)) (@q_callB _ _ _ _ _ _ _ _ _ (@c_len _) (T.blt (by decide)) (by decide +kernel) (@qa_consP _ _ _ _ _ (@q_ix _ _ _ _ _ _ (@q_v2 _ _ 1 _ (by exact⟨rfl,rfl,rfl,rfl⟩)) (@q_int _ _ _ _) (by intro _ _ ;rfl)) (@qa_nil _) (by rfl)) (by rfl) (by decide) (by decide) (by rfl) (by rfl)) (nomark _))) (by intro _ ;rfl)) (@qa_nil _) (by rfl)) (by rfl) (by decide) (by decide) (by rfl) (by rfl)))))),?_⟩
  unfold A8
  simp only[B2,Eb,nOr,Je,F3,nCB,Ai,Aq,An,List.map_cons,List.map_nil,List.length_cons,List.length_nil,Nat.zero_add,Nat.reduceSub,List.replicate,List.cons_append,List.nil_append,List.getElem?_cons_zero,Option.some.injEq,nC,A1,List.cons.injEq,D.ty.injEq,and_true,B3,Cg,D0,exists_eq_left',Er,if_true,By,D1,dI0,D.int.injEq,D.bl.injEq,Bool.not_false,decide_eq_true_eq,F2,and_assoc,exists_and_left,Gs,true_and,Mp]
  have hw:=ok.wide
  refine⟨true,rfl,it1 (by decide) (it0 (by simp;omega) (it1 (by simp;omega) fun p hp=>?_))⟩
  have hz:(c.map Av).length<sizeLine:=by rw[List.length_map,sizeLine_eq];omega
  refine C9 (fun x=>.bl true) (fun _=>true) hz (fun _=>by first|rfl|trivial) (by decide) (fun x ys hx' hl R1 R2 g1 _=>?_) ?_
  ·obtain⟨i,hi,rfl⟩:=List.mem_map.mp hx'
   obtain⟨e,hx⟩:=ok.col i hi
   have h1:=ok.high
   simp only[Ef,Ba,Ai,Aq,List.replicate,List.cons_append,List.nil_append,List.set_cons_zero,List.getElem?_cons_zero,Option.some.injEq,A1,Ek,List.cons.injEq,and_true,Aa,hl,Aw,true_and,exists_eq_left',if_true]
   exact⟨i,rfl,by omega,by omega,hx,Fg.of (g1 rfl)⟩
  ·refine⟨p,rfl,c.map (fun _=>true),by rw[Aa,Cj,List.map_map,List.map_map];rfl,true,by rw[Gv];rfl,it1 (by decide) fun p2 hp2=>?_⟩
   have at0:atI (c.map Av) 0=some (Av (c.headD [])):=by
    cases c with
    |nil=>simp at hw
    |cons x r=>rw[List.map_cons,Wu];rfl
   have hc0:(c.headD []).length=h:=(ok.col _ (by cases c with|nil=>simp at hw|cons x r=>simp)).1
   refine C9 (fun x=>.bl true) (fun _=>true) hz (fun _=>by first|rfl|trivial) (by decide) (fun x ys hx' hl R1 R2 g1 _=>?_) ?_
   ·obtain⟨i,hi,rfl⟩:=List.mem_map.mp hx'
    obtain⟨e,hx⟩:=ok.col i hi
    simp only[Ef,nOp,nCB,Ai,Aq,List.replicate,List.cons_append,List.nil_append,List.set_cons_zero,List.getElem?_cons_zero,Option.some.injEq,A1,List.cons.injEq,and_true,List.getElem?_cons_succ,nC,dIx,D.int.injEq,dEq,eqS,Aa,hl,Aw,true_and,exists_eq_left',Es,if_true]
    refine⟨h,by simp[Av,Jh,e],Av (c.headD []),at0,h,by rw[←hc0];simp only[Av,Jh,List.length_map],?_⟩
    rw[decide_eq_true rfl]
    exact Fg.of (g1 rfl)
   ·refine⟨p2,rfl,c.map (fun _=>true),by rw[Aa,Cj,List.map_map,List.map_map];rfl,?_⟩
    refine⟨G,(Sub.new hp).trans (Sub.new hp2),?_⟩
    rw[Gv];exact k
abbrev s_check_sea:Stmt:=top 20
abbrev Mj:List Str:=["thing"]
abbrev p_check_sea:List Str:=["thing"]
theorem J8:FnScope Mj p_check_sea (Ag s_check_sea):=⟨rfl,rfl,rfl,by decide +kernel,rfl,by decide +kernel,by decide +kernel⟩
def spCheckSea:DSp:=fun ds G Q _=>∃s h,ds=[A8 s]∧SeaOk s h∧Q .non G
theorem Lz{f:Addr}{fd:FuncData}(F:Fun K "check_sea" "check_sea" s_check_sea f fd)(T:Nums mg)(Aa6:Def P w K mg base CX0 4 "is_sea" Cw Nt):FnOk P w K mg base CX0 5 f fd p_check_sea (Ak K spCheckSea):=by
 refine okD F J8 (fun ds G Q E h=>?_) (fun cdv A outer s H XE ds G Q E hr h=>?_)
 ·obtain⟨c,_,rfl,_⟩:=h;rfl
 ·obtain⟨c,h,rfl,ok,k⟩:=h
  refine⟨_,(@qss_one _ _ _ (@qs_if _ _ _ _ _ _ _ _ (@qt_not _ _ _ _ (@qt_tru _ _ _ (@q_call _ _ _ _ _ _ _ _ noX _ _ _ Aa6 (hr.mono (by decide)) (@passN _ _) (@qa_consP _ _ _ _ _ (@q_v1 _ _ 0 _ (by exact⟨rfl,rfl,rfl,rfl⟩)) (@qa_nil _) (by rfl)) (by rfl) (by decide) (by rfl) (by rfl)) (by intro _ ;rfl))) (@qss_one _ _ _ (@Gd _ _)) (@qss_nil _))),?_⟩
  simp only[Eb,Je,F3,Ba,Ai,Aq,An,List.map_cons,List.map_nil,List.length_cons,List.length_nil,Nat.zero_add,Nat.reduceSub,List.replicate,List.cons_append,List.nil_append,List.getElem?_cons_zero,Option.some.injEq,A1,Nt,List.cons.injEq,and_true,Cg,exists_and_left,exists_eq_left']
  refine⟨c,rfl,h,ok,?_⟩
  first|exact Fq.of k|exact⟨true,rfl,it1 (by decide) (Fq.of k)⟩
abbrev s_check_day:Stmt:=top 22
abbrev Mk:List Str:=["thing"]
abbrev p_check_day:List Str:=["thing"]
theorem J9:FnScope Mk p_check_day (Ag s_check_day):=⟨rfl,rfl,rfl,by decide +kernel,rfl,by decide +kernel,by decide +kernel⟩
theorem L0{f:Addr}{fd:FuncData}(F:Fun K "check_day" "check_day" s_check_day f fd)(T:Nums mg)(Aa7:Def P w K mg base CX0 2 "is_day" Cy (Ko 0 400)):FnOk P w K mg base CX0 3 f fd p_check_day (Ak K (spChk 0 400)):=by
 refine okD F J9 (fun ds G Q E h=>?_) (fun cdv A outer s H XE ds G Q E hr h=>?_)
 ·obtain⟨c,rfl,_⟩:=h;rfl
 ·obtain⟨c,rfl,h1,h2,k⟩:=h
  refine⟨_,(@qss_one _ _ _ (@qs_if _ _ _ _ _ _ _ _ (@qt_not _ _ _ _ (@qt_tru _ _ _ (@q_call _ _ _ _ _ _ _ _ noX _ _ _ Aa7 (hr.mono (by decide)) (@passN _ _) (@qa_consP _ _ _ _ _ (@q_v1 _ _ 0 _ (by exact⟨rfl,rfl,rfl,rfl⟩)) (@qa_nil _) (by rfl)) (by rfl) (by decide) (by rfl) (by rfl)) (by intro _ ;rfl))) (@qss_one _ _ _ (@Gd _ _)) (@qss_nil _))),?_⟩
  simp only[Eb,Je,F3,Ba,Ai,Aq,An,List.map_cons,List.map_nil,List.length_cons,List.length_nil,Nat.zero_add,Nat.reduceSub,List.replicate,List.cons_append,List.nil_append,List.getElem?_cons_zero,Option.some.injEq,A1,Ko,List.cons.injEq,and_true,Cg,exists_eq_left',D.int.injEq]
  exact⟨h1,h2,true,rfl,it1 (by decide) (Fq.of k)⟩
def Be(s:List (List Int))(c r:Nat):Int:=(s.getD c []).getD r 0
abbrev s_depth_at:Stmt:=top 23
abbrev Np:List Str:=["sea", "cell", "column", "row"]
abbrev Bv:List Str:=["sea", "cell"]
theorem sc_depth_at:FnScope Np Bv (Ag s_depth_at):=⟨rfl,rfl,rfl,by decide +kernel,rfl,by decide +kernel,by decide +kernel⟩
def Dq:DSp:=fun ds G Q _=>∃s c r,ds=[A8 s,.tup [.int (c:Nat),.int (r:Nat)]]∧c<s.length∧r<(s.getD c []).length∧Q (.int (Be s c r)) G
theorem Na{f:Addr}{fd:FuncData}(F:Fun K "depth_at" "depth_at" s_depth_at f fd)(T:Nums mg):FnOk P w K mg base CX0 1 f fd Bv (Ak K Dq):=by
 refine okD F sc_depth_at (fun ds G Q E h=>?_) (fun cdv A outer s H XE ds G Q E hr h=>?_)
 ·obtain⟨_,_,_,rfl,_⟩:=h;rfl
 ·obtain⟨s,c,r,rfl,hc,hr',k⟩:=h
  refine⟨_,(@qss_cons _ _ _ _ _ (@qs_asg _ _ _ _ _ _ (@q_v1 _ _ 1 _ (by exact⟨rfl,rfl,rfl,rfl⟩)) (@qg_tup _ _ _ _ _ 2 rfl (@qgs_cons _ _ _ _ _ (@qg_name _ _ 2 _ sc_depth_at.nd (by rfl) (by exact .inl rfl) (by exact .inl rfl)) (@qgs_cons _ _ _ _ _ (@qg_name _ _ 3 _ sc_depth_at.nd (by rfl) (by exact .inl rfl) (by exact .inl rfl)) (@qgs_nil _) (by rfl)) (by rfl)) (by rfl) (by rfl)) (by rfl) (by rfl) (by rfl)) (@qss_one _ _ _ (@qs_ret _ _ _ _ (@q_ix _ _ _ _ _ _ (@q_ix _ _ _ _ _ _ (@q_v1 _ _ 0 _ (by exact⟨rfl,rfl,rfl,rfl⟩)) (@q_v1 _ _ 2 _ (by exact⟨rfl,rfl,rfl,rfl⟩)) (by intro _ _ ;rfl)) (@q_v1 _ _ 3 _ (by exact⟨rfl,rfl,rfl,rfl⟩)) (by intro _ _ ;rfl))))),?_⟩
  unfold A8
  simp only[B2,Cd,Aq,An,List.map_cons,List.map_nil,List.length_cons,List.length_nil,Nat.zero_add,Nat.reduceAdd,Nat.reduceSub,List.replicate,List.cons_append,List.nil_append,List.getElem?_cons_succ,List.getElem?_cons_zero,Option.some.injEq,Jf,Eg,As,Jg,B3,nOp,List.set_cons_succ,List.set_cons_zero,dIx,exists_eq_left',Es,D.tup.injEq,List.cons.injEq,and_assoc,exists_and_left,true_and,D.int.injEq]
  refine⟨Av (s.getD c []),Cp (by simp[hc]),.int (Be s c r),?_,Fq.of k⟩
  show atI ((s.getD c []).map D.int) (r:Int)=_
  unfold Be
  generalize s.getD c []=col at *
  refine Cp ?_
  rw[List.getElem?_map,List.getElem?_eq_getElem hr',List.getD_eq_getElem?_getD,List.getElem?_eq_getElem hr'];rfl
abbrev Cl:=Int×Int
def InS(s:List (List Int))(h:Nat)(c:Cl):Prop:=0≤c.1∧c.1<s.length∧0≤c.2∧c.2<h
instance (s:List (List Int)) (h:Nat) (c:Cl):Decidable (InS s h c):=inferInstanceAs (Decidable (_∧_))
theorem InS.nat{s:List (List Int)}{h:Nat}{c:Cl}(i:InS s h c):∃x y:Nat,c=((x:Int),(y:Int))∧x<s.length∧y<h:=by
 obtain⟨a,b,c',d⟩:=i
 refine⟨c.1.toNat,c.2.toNat,Prod.ext ?_ ?_,?_,?_⟩<;>omega
theorem SeaOk.colD{s:List (List Int)}{h:Nat}(ok:SeaOk s h){x:Nat}(hx:x<s.length):(s.getD x []).length=h∧∀y∈s.getD x [],0≤y∧y≤9:=by
 have e:s.getD x []=s[x]:=by rw[List.getD_eq_getElem?_getD,List.getElem?_eq_getElem hx];rfl
 rw[e];exact ok.col _ (List.getElem_mem hx)
theorem SeaOk.head{s:List (List Int)}{h:Nat}(ok:SeaOk s h):atI (s.map Av) 0=some (Av (s.getD 0 []))∧(s.getD 0 []).length=h:=by
 have hw:=ok.wide
 refine⟨?_,(ok.colD (by omega)).1⟩
 cases s with
 |nil=>simp at hw
 |cons x r=>rw[List.map_cons,Wu];rfl
abbrev s_is_cell:Stmt:=top 19
abbrev Qu:List Str:=["sea", "thing", "column", "row"]
abbrev p_is_cell:List Str:=["sea", "thing"]
theorem sc_is_cell:FnScope Qu p_is_cell (Ag s_is_cell):=⟨rfl,rfl,rfl,by decide +kernel,rfl,by decide +kernel,by decide +kernel⟩
def spCell:DSp:=fun ds G Q _=>∃s h c,ds=[A8 s,Ae c]∧SeaOk s h∧Q (.bl (decide (InS s h c))) G
theorem U9{f:Addr}{fd:FuncData}(F:Fun K "is_cell" "is_cell" s_is_cell f fd)(T:Nums mg)(Aaz:Def P w K mg base CX0 1 "is_whole_within" Aj Cn):FnOk P w K mg base CX0 2 f fd p_is_cell (Ak K spCell):=by
 refine okD F sc_is_cell (fun ds G Q E h=>?_) (fun cdv A outer s H XE ds G Q E hr h=>?_)
 ·obtain⟨_,_,_,rfl,_⟩:=h;rfl
 ·obtain⟨s,h,c,rfl,ok,k⟩:=h
  refine⟨_,(@qss_cons _ _ _ _ _ (@qs_if _ _ _ _ _ _ _ _ (@qt_of _ _ _ (@Ks _ _ _ _ _ _ _ (@qt_not _ _ _ _ (@qt_tru _ _ _ (@q_callB _ _ _ _ _ _ _ _ _ (@c_isinst _) (T.blt (by decide)) (by decide +kernel) (@qa_consP _ _ _ _ _ (@q_v1 _ _ 1 _ (by exact⟨rfl,rfl,rfl,rfl⟩)) (@qa_consP _ _ _ _ _ (@q_globty _ _ _ "tuple" (T.blt (by decide)) (by decide +kernel) (by rfl) (by decide) (by decide)) (@qa_nil _) (by rfl)) (by rfl)) (by rfl) (by decide) (by decide) (by rfl) (by rfl)) (by intro _ ;rfl))) (@qw_or1 _ _ _ _ (@qt_cmp _ _ _ _ _ _ _ _ (@Y3 _) (@q_callB _ _ _ _ _ _ _ _ _ (@c_len _) (T.blt (by decide)) (by decide +kernel) (@qa_consP _ _ _ _ _ (@q_v1 _ _ 1 _ (by exact⟨rfl,rfl,rfl,rfl⟩)) (@qa_nil _) (by rfl)) (by rfl) (by decide) (by decide) (by rfl) (by rfl)) (@q_int _ _ _ _) (nomark _))))) (@qss_one _ _ _ (@qs_ret _ _ _ _ (@q_bl _ _ _ _))) (@qss_nil _)) (@qss_cons _ _ _ _ _ (@qs_asg _ _ _ _ _ _ (@q_v1 _ _ 1 _ (by exact⟨rfl,rfl,rfl,rfl⟩)) (@qg_tup _ _ _ _ _ 2 rfl (@qgs_cons _ _ _ _ _ (@qg_name _ _ 2 _ sc_is_cell.nd (by rfl) (by exact .inl rfl) (by exact .inl rfl)) (@qgs_cons _ _ _ _ _ (@qg_name _ _ 3 _ sc_is_cell.nd (by rfl) (by exact .inl rfl) (by exact .inl rfl)) (@qgs_nil _) (by rfl)) (by rfl)) (by rfl) (by rfl)) (by rfl) (by rfl) (by rfl)) (@qss_one _ _ _ (@qs_ret _ _ _ _ (@q_and _ _ _ _ _ _ _ (@q_call _ _ _ _ _ _ _ _ noX _ _ _ Aaz (hr.mono (by decide)) (@passN _ _) (@qa_consP _ _ _ _ _ (@q_v1 _ _ 2 _ (by exact⟨rfl,rfl,rfl,rfl⟩)) (@qa_consP _ _ _ _ _ (@q_int _ _ _ _) (@qa_consP _ _ _ _ _ (@q_op _ _ _ _ _ _ _ _ (@o_sub _) (@q_callB _ _ _ _ _ _ _ _ _ (@c_len _) (T.blt (by decide)) (by decide +kernel) (@qa_consP _ _ _ _ _ (@q_v1 _ _ 0 _ (by exact⟨rfl,rfl,rfl,rfl⟩)) (@qa_nil _) (by rfl)) (by rfl) (by decide) (by decide) (by rfl) (by rfl)) (@q_int _ _ _ _)) (@qa_nil _) (by rfl)) (by rfl)) (by rfl)) (by rfl) (by decide) (by rfl) (by rfl)) (@V4 _ _ _ _ _ (@q_call _ _ _ _ _ _ _ _ noX _ _ _ Aaz (hr.mono (by decide)) (@passN _ _) (@qa_consP _ _ _ _ _ (@q_v1 _ _ 3 _ (by exact⟨rfl,rfl,rfl,rfl⟩)) (@qa_consP _ _ _ _ _ (@q_int _ _ _ _) (@qa_consP _ _ _ _ _ (@q_op _ _ _ _ _ _ _ _ (@o_sub _) (@q_callB _ _ _ _ _ _ _ _ _ (@c_len _) (T.blt (by decide)) (by decide +kernel) (@qa_consP _ _ _ _ _ (@q_ix _ _ _ _ _ _ (@q_v1 _ _ 0 _ (by exact⟨rfl,rfl,rfl,rfl⟩)) (@q_int _ _ _ _) (by intro _ _ ;rfl)) (@qa_nil _) (by rfl)) (by rfl) (by decide) (by decide) (by rfl) (by rfl)) (@q_int _ _ _ _)) (@qa_nil _) (by rfl)) (by rfl)) (by rfl)) (by rfl) (by decide) (by rfl) (by rfl)))))))),?_⟩
  obtain⟨a0,hl⟩:=ok.head
  have kn:∀i,Kn G (.int i):=fun i=>⟨_,rfl⟩
  unfold A8 Ae
  simp only[B2,Eb,nOr,Je,F3,nCB,Ai,Aq,An,List.map_cons,List.map_nil,List.length_cons,List.length_nil,Nat.zero_add,Nat.reduceAdd,Nat.reduceSub,List.replicate,List.cons_append,List.nil_append,List.getElem?_cons_succ,List.getElem?_cons_zero,Option.some.injEq,nC,A1,List.cons.injEq,D.ty.injEq,and_true,B3,Cg,Cd,Jf,Eg,As,Jg,Q6,Ba,List.set_cons_succ,List.set_cons_zero,nOp,dI0,D.int.injEq,Cn,D.bl.injEq,dIx,and_assoc,exists_and_left,exists_eq_left',Es,a0,Av,F2,List.length_map,D.tup.injEq,true_and,kn,if_true,By,dNe,eqS,Gs,Mp]
  refine⟨true,rfl,it1 (by decide) (it1 (by decide) ?_)⟩
  by_cases h1:C5 0 (s.length-1) (.int c.1)=true
  ·refine it0 h1 ?_
   have e:decide (InS s h c)=C5 0 (((s.getD 0 []).length:Nat)-1) (.int c.2):=by
    rw[hl]
    simp only[C5,Bool.and_eq_true,decide_eq_true_eq] at h1 ⊢
    rw[Bool.eq_iff_iff,decide_eq_true_iff]
    simp only[decide_eq_true_eq,Bool.and_eq_true,InS]
    omega
   rw[e] at k
   exact Fq.of k
  ·refine it1 h1 ?_
   have e:decide (InS s h c)=false:=by
    simp only[C5,Bool.and_eq_true,decide_eq_true_eq] at h1
    rw[decide_eq_false_iff_not]
    unfold InS
    omega
   rw[e] at k
   exact Fq.of k
abbrev s_check_cell:Stmt:=top 21
abbrev Km:List Str:=["sea", "thing"]
abbrev Bj:List Str:=["sea", "thing"]
theorem Hm:FnScope Km Bj (Ag s_check_cell):=⟨rfl,rfl,rfl,by decide +kernel,rfl,by decide +kernel,by decide +kernel⟩
def Cq:DSp:=fun ds G Q _=>∃s h c,ds=[A8 s,Ae c]∧SeaOk s h∧InS s h c∧Q .non G
theorem Kb{f:Addr}{fd:FuncData}(F:Fun K "check_cell" "check_cell" s_check_cell f fd)(T:Nums mg)(Aa0:Def P w K mg base CX0 2 "is_cell" p_is_cell spCell):FnOk P w K mg base CX0 3 f fd Bj (Ak K Cq):=by
 refine okD F Hm (fun ds G Q E h=>?_) (fun cdv A outer s H XE ds G Q E hr h=>?_)
 ·obtain⟨_,_,_,rfl,_⟩:=h;rfl
 ·obtain⟨s,h,c,rfl,ok,hc,k⟩:=h
  refine⟨_,(@qss_one _ _ _ (@qs_if _ _ _ _ _ _ _ _ (@qt_not _ _ _ _ (@qt_tru _ _ _ (@q_call _ _ _ _ _ _ _ _ noX _ _ _ Aa0 (hr.mono (by decide)) (@passN _ _) (@qa_consP _ _ _ _ _ (@q_v1 _ _ 0 _ (by exact⟨rfl,rfl,rfl,rfl⟩)) (@qa_consP _ _ _ _ _ (@q_v1 _ _ 1 _ (by exact⟨rfl,rfl,rfl,rfl⟩)) (@qa_nil _) (by rfl)) (by rfl)) (by rfl) (by decide) (by rfl) (by rfl)) (by intro _ ;rfl))) (@qss_one _ _ _ (@Gd _ _)) (@qss_nil _))),?_⟩
  simp only[Eb,Je,F3,Ba,Ai,Aq,An,List.map_cons,List.map_nil,List.length_cons,List.length_nil,Nat.zero_add,Nat.reduceAdd,Nat.reduceSub,List.replicate,List.cons_append,List.nil_append,List.getElem?_cons_zero,Option.some.injEq,List.getElem?_cons_succ,A1,spCell,List.cons.injEq,and_true,Cg,and_assoc,exists_and_left,exists_eq_left']
  refine⟨s,rfl,h,c,rfl,ok,?_⟩
  rw[decide_eq_true hc]
  exact⟨true,rfl,it1 (by decide) (Fq.of k)⟩
def O5(s:List (List Int))(c:Cl):Int:=Be s c.1.toNat c.2.toNat
theorem Gj{G:Gp}{s:List (List Int)}{i:Int}:Dw G (A8 s) i=atI (s.map Av) i:=rfl
theorem Vd{G:Gp}{s:List (List Int)}:Jh G (A8 s)=some s.length:=congrArg some (List.length_map ..)
theorem Ve{G:Gp}{c:List Int}:Jh G (Av c)=some c.length:=congrArg some (List.length_map ..)
theorem Ti{G:Gp}{c:List Int}{i:Int}:Dw G (Av c) i=atI (c.map D.int) i:=rfl
theorem Nf{G:Gp}{o:Cl}:Dw G (Ae o) 0=some (.int o.1):=rfl
theorem Nd{G:Gp}{o:Cl}:Dw G (Ae o) 1=some (.int o.2):=rfl
theorem Rh{s:List (List Int)}{h:Nat}(ok:SeaOk s h){o:Cl}(ho:InS s h o):atI (s.map Av) o.1=some (Av (s.getD o.1.toNat []))∧atI ((s.getD o.1.toNat []).map D.int) o.2=some (.int (O5 s o))∧0≤O5 s o∧O5 s o≤9:=by
 obtain⟨x,y,rfl,hx,hy⟩:=ho.nat
 have hc:=ok.colD hx
 have hy':y<(s.getD x []).length:=by rw[hc.1];exact hy
 have e:(s.getD x [])[y]? = some (Be s x y):=by unfold Be;rw[List.getD_eq_getElem?_getD (l:=s.getD x []),List.getElem?_eq_getElem hy'];rfl
 refine⟨Cp (by simp[hx]),?_,hc.2 _ (List.mem_of_getElem? e)⟩
 show atI ((s.getD x []).map D.int) (y:Int)=some (.int (Be s x y))
 exact Cp (by rw[List.getElem?_map,e];rfl)
def wat(s:List (List Int))(h:Nat)(c:Cl):Bool:=decide (InS s h c)&&decide (O5 s c≠0)
theorem Rf{s:List (List Int)}{h:Nat}{c:Cl}(w:wat s h c=true):InS s h c:=by
 unfold wat at w
 simp only[Bool.and_eq_true,decide_eq_true_eq] at w
 exact w.1
abbrev s_is_water:Stmt:=top 24
abbrev Nn:List Str:=["sea", "cell"]
abbrev p_is_water:List Str:=["sea", "cell"]
theorem Lv:FnScope Nn p_is_water (Ag s_is_water):=⟨rfl,rfl,rfl,by decide +kernel,rfl,by decide +kernel,by decide +kernel⟩
def spWater:DSp:=fun ds G Q _=>∃s h c,ds=[A8 s,Ae c]∧SeaOk s h∧InS s h c∧Q (.bl (wat s h c)) G
theorem S0{f:Addr}{fd:FuncData}(F:Fun K "is_water" "is_water" s_is_water f fd)(T:Nums mg)(Aa8:Def P w K mg base CX0 1 "depth_at" Bv Dq):FnOk P w K mg base CX0 2 f fd p_is_water (Ak K spWater):=by
 refine okD F Lv (fun ds G Q E h=>?_) (fun cdv A outer s H XE ds G Q E hr h=>?_)
 ·obtain⟨_,_,_,rfl,_⟩:=h;rfl
 ·obtain⟨s,h,c,rfl,ok,hc,k⟩:=h
  refine⟨_,(@qss_one _ _ _ (@qs_ret _ _ _ _ (@q_cmp _ _ _ _ _ _ _ _ (@Y3 _) (@q_call _ _ _ _ _ _ _ _ noX _ _ _ Aa8 (hr.mono (by decide)) (@passN _ _) (@qa_consP _ _ _ _ _ (@q_v1 _ _ 0 _ (by exact⟨rfl,rfl,rfl,rfl⟩)) (@qa_consP _ _ _ _ _ (@q_v1 _ _ 1 _ (by exact⟨rfl,rfl,rfl,rfl⟩)) (@qa_nil _) (by rfl)) (by rfl)) (by rfl) (by decide) (by rfl) (by rfl)) (@q_globx _ _ _ _ T.LAND (by rfl) (by decide)) (nomark _)))),?_⟩
  obtain⟨x,y,rfl,hx,hy⟩:=hc.nat
  simp only[B3,nOp,Ba,Ai,Aq,An,Ae,List.map_cons,List.map_nil,List.length_cons,List.length_nil,Nat.zero_add,Nat.reduceAdd,Nat.reduceSub,List.replicate,List.cons_append,List.nil_append,List.getElem?_cons_zero,Option.some.injEq,List.getElem?_cons_succ,A1,Dq,List.cons.injEq,and_true,nC,dNe,eqS,exists_eq_left',and_assoc,exists_and_left,D.tup.injEq,D.int.injEq]
  refine⟨s,rfl,x,rfl,y,rfl,hx,by rw[(ok.colD hx).1];exact hy,?_⟩
  have e:wat s h ((x:Int),(y:Int)) = !decide (Be s x y=0):=by
   unfold wat O5
   rw[decide_eq_true hc,Bool.true_and,decide_not];rfl
  rw[e] at k
  first|exact Fq.of k|exact⟨_,rfl,Fq.of k⟩
def O6:D→Cl
 |.tup [.int x,.int y]=>(x,y)
 |_=>(0,0)
theorem Qj{c:Cl}:O6 (Ae c)=c:=rfl
theorem Qf{q:Cl→Bool}{l:List Cl}:((l.map Ae).filter fun d=>q (O6 d))=(l.filter q).map Ae:=by
 rw[List.filter_map];rfl
def beside(c:Cl):List Cl:=[(c.1-1,c.2),(c.1,c.2-1),(c.1,c.2+1),(c.1+1,c.2)]
def Cm(s:List (List Int))(h:Nat)(c:Cl):List Cl:=(beside c).filter (wat s h)
abbrev s_waters_beside:Stmt:=top 25
abbrev Fr:List Str:=["sea", "cell", "column", "row", "beside"]
abbrev A2:List Str:=["sea", "cell"]
theorem sc_waters_beside:FnScope Fr A2 (Ag s_waters_beside):=⟨rfl,rfl,rfl,by decide +kernel,rfl,by decide +kernel,by decide +kernel⟩
theorem D9:((["other"]:List Str)++(["sea", "cell", "column", "row", "beside"]:List Str)).Nodup:=by decide +kernel
def El:DSp:=fun ds G Q _=>∃s h c,ds=[A8 s,Ae c]∧SeaOk s h∧∀p,G p=none→Q (.ref p) (Ad G p (.lst ((Cm s h c).map Ae)))
theorem Px{f:Addr}{fd:FuncData}(F:Fun K "waters_beside" "waters_beside" s_waters_beside f fd)(T:Nums mg)(Aa0:Def P w K mg base CX0 2 "is_cell" p_is_cell spCell)(Aa1:Def P w K mg base CX0 2 "is_water" p_is_water spWater):FnOk P w K mg base CX0 3 f fd A2 (Ak K El):=by
 refine okD F sc_waters_beside (fun ds G Q E h=>?_) (fun cdv A outer s H XE ds G Q E hr h=>?_)
 ·obtain⟨_,_,_,rfl,_⟩:=h;rfl
 ·obtain⟨s,h,c,rfl,ok,k⟩:=h
  refine⟨_,(@qss_cons _ _ _ _ _ (@qs_asg _ _ _ _ _ _ (@q_v1 _ _ 1 _ (by exact⟨rfl,rfl,rfl,rfl⟩)) (@qg_tup _ _ _ _ _ 2 rfl (@qgs_cons _ _ _ _ _ (@qg_name _ _ 2 _ sc_waters_beside.nd (by rfl) (by exact .inl rfl) (by exact .inl rfl)) (@qgs_cons _ _ _ _ _ (@qg_name _ _ 3 _ sc_waters_beside.nd (by rfl) (by exact .inl rfl) (by exact .inl rfl)) (@qgs_nil _) (by rfl)) (by rfl)) (by rfl) (by rfl)) (by rfl) (by rfl) (by rfl)) (@qss_cons _ _ _ _ _ (@qs_set _ _ _ _ 4 _ _ sc_waters_beside.nd (@q_lst _ _ _ _ (@qa_consP _ _ _ _ _ (@q_tup _ _ _ _ _ (@qa_consP _ _ _ _ _ (@q_op _ _ _ _ _ _ _ _ (@o_sub _) (@q_v1 _ _ 2 _ (by exact⟨rfl,rfl,rfl,rfl⟩)) (@q_int _ _ _ _)) (@qa_consP _ _ _ _ _ (@q_v1 _ _ 3 _ (by exact⟨rfl,rfl,rfl,rfl⟩)) (@qa_nil _) (by rfl)) (by rfl))) (@qa_consP _ _ _ _ _ (@q_tup _ _ _ _ _ (@qa_consP _ _ _ _ _ (@q_v1 _ _ 2 _ (by exact⟨rfl,rfl,rfl,rfl⟩)) (@qa_consP _ _ _ _ _ (@q_op _ _ _ _ _ _ _ _ (@o_sub _) (@q_v1 _ _ 3 _ (by exact⟨rfl,rfl,rfl,rfl⟩)) (@q_int _ _ _ _)) (@qa_nil _) (by rfl)) (by rfl))) (@qa_consP _ _ _ _ _ (@q_tup _ _ _ _ _ (@qa_consP _ _ _ _ _ (@q_v1 _ _ 2 _ (by exact⟨rfl,rfl,rfl,rfl⟩)) (@qa_consP _ _ _ _ _ (@q_op _ _ _ _ _ _ _ _ (@o_addD _) (@q_v1 _ _ 3 _ (by exact⟨rfl,rfl,rfl,rfl⟩)) (@q_int _ _ _ _)) (@qa_nil _) (by rfl)) (by rfl))) (@qa_consP _ _ _ _ _ (@q_tup _ _ _ _ _ (@qa_consP _ _ _ _ _ (@q_op _ _ _ _ _ _ _ _ (@o_addD _) (@q_v1 _ _ 2 _ (by exact⟨rfl,rfl,rfl,rfl⟩)) (@q_int _ _ _ _)) (@qa_consP _ _ _ _ _ (@q_v1 _ _ 3 _ (by exact⟨rfl,rfl,rfl,rfl⟩)) (@qa_nil _) (by rfl)) (by rfl))) (@qa_nil _) (by rfl)) (by rfl)) (by rfl)) (by rfl))) (by rfl) (by exact .inl rfl) (by rfl) (by exact .inl rfl)) (@qss_one _ _ _ (@qs_ret _ _ _ _ (@q_compz _ _ _ _ _ _ _ _ _ _ _ ["other"] ["sea", "cell", "column", "row", "beside"] rfl (@compOz _ _ _ _ (by rfl) (by rfl) (by rfl) (by rfl) (by rfl)) (@q_v1 _ _ 4 _ (by exact⟨rfl,rfl,rfl,rfl⟩)) (fun _ _ _=>(@qg_name _ _ 0 _ D9 (by rfl) (by exact .inl rfl) (by exact .inr rfl))) (fun _ _ _=>(@qf_one _ _ _ (@qt_of _ _ _ (@qw_and _ _ _ _ _ _ _ (@qt_tru _ _ _ (@q_call _ _ _ _ _ _ _ _ noX _ _ _ Aa0 (hr.mono (by decide)) (@passN _ _) (@qa_consP _ _ _ _ _ (@q_v2 _ _ 1 _ (by exact⟨rfl,rfl,rfl,rfl⟩)) (@qa_consP _ _ _ _ _ (@q_v1 _ _ 0 _ (by exact⟨rfl,rfl,rfl,rfl⟩)) (@qa_nil _) (by rfl)) (by rfl)) (by rfl) (by decide) (by rfl) (by rfl)) (by intro _ ;rfl)) (@qw_and1 _ _ _ _ (@qt_tru _ _ _ (@q_call _ _ _ _ _ _ _ _ noX _ _ _ Aa1 (hr.mono (by decide)) (@passN _ _) (@qa_consP _ _ _ _ _ (@q_v2 _ _ 1 _ (by exact⟨rfl,rfl,rfl,rfl⟩)) (@qa_consP _ _ _ _ _ (@q_v1 _ _ 0 _ (by exact⟨rfl,rfl,rfl,rfl⟩)) (@qa_nil _) (by rfl)) (by rfl)) (by rfl) (by decide) (by rfl) (by rfl)) (by intro _ ;rfl))))))) (fun _ _ _=>(@q_v1 _ _ 0 _ (by exact⟨rfl,rfl,rfl,rfl⟩))) (by intro _ ;rfl)))))),?_⟩
  unfold Ae
  have sz4:4≤sizeLine:=szl (by decide)
  have sz2:=sz2
  simp only[B2,Cd,Aq,An,List.map_cons,List.map_nil,List.length_cons,List.length_nil,Nat.zero_add,Nat.reduceAdd,Nat.reduceSub,List.replicate,List.cons_append,List.nil_append,List.getElem?_cons_succ,List.getElem?_cons_zero,Option.some.injEq,Jf,Eg,As,Jg,F4,Ai,Jd,nOp,List.set_cons_succ,List.set_cons_zero,nC,dI0,D.int.injEq,A1,sz2,sz4,B3,D0,exists_eq_left',true_and,D.tup.injEq,List.cons.injEq,and_assoc,exists_and_left,B5]
  intro p hp
  have e:[D.tup [.int (c.1-1),.int c.2],.tup [.int c.1,.int (c.2-1)],.tup [.int c.1,.int (c.2+1)],.tup [.int (c.1+1),.int c.2]]=(beside c).map Ae:=rfl
  rw[e,Ax Aa]
  refine⟨_,rfl,fun p2 hp2=>?_⟩
  have hz:((beside c).map Ae).length<sizeLine:=by rw[List.length_map,sizeLine_eq];exact(by decide:4<16777216)
  refine C9 id (fun d=>wat s h (O6 d)) hz (fun _=>Ax (Bz Aa hp2)) (by decide) (fun x ys hx' hl R1 R2 g1 g2=>?_) ?_
  ·obtain⟨o,ho,rfl⟩:=List.mem_map.mp hx'
   simp only[Qy,F3,Ba,Ai,Aq,List.replicate,List.cons_append,List.nil_append,List.set_cons_zero,List.getElem?_cons_succ,List.getElem?_cons_zero,Option.some.injEq,A1,spCell,List.cons.injEq,and_true,spWater,Aa,hl,Aw,true_and,exists_eq_left',and_assoc,exists_and_left,reduceCtorEq,if_false]
   simp only[Qj,id] at g1 g2
   refine⟨s,rfl,h,o,rfl,ok,_,rfl,?_⟩
   by_cases hi:InS s h o
   ·refine it0 (decide_eq_true hi) ⟨s,rfl,h,o,rfl,ok,hi,_,rfl,?_⟩
    by_cases hw:wat s h o=true
    ·exact it0 hw (Fg.of (g1 hw))
    ·exact it1 hw (Fg.of (g2 (by simpa using hw)))
   ·refine it1 (by simpa using hi) (Fg.of (g2 ?_))
    cases e:wat s h o with
    |false=>rfl
    |true=>exact absurd (Rf e) hi
  ·rw[List.map_id,Qf]
   have hp3:=F0 hp2
   refine⟨_,?_,k p2 hp3.2⟩
   exact Sub.upd (Sub.new hp) _ _
end
end K2
set_option maxRecDepth 100000
set_option maxHeartbeats 4000000
namespace K2
open PySem L2 D3
def Ball(s:List (List Int))(h:Nat)(c:Cl):Nat→Cl→Prop
 |0,x=>x=c
 |n+1,x=>Ball s h c n x∨∃y,Ball s h c n y∧x∈Cm s h y
theorem T8{s:List (List Int)}{h:Nat}{x y:Cl}(hx:x∈Cm s h y):InS s h x:=Rf (List.mem_filter.mp hx).2
theorem Ball.inS{s:List (List Int)}{h:Nat}{c:Cl}(hc:InS s h c):∀{n:Nat} {x:Cl},Ball s h c n x→InS s h x
 |0,_,e=>by cases e;exact hc
 |_+1,_,.inl e=>Ball.inS hc e
 |_+1,_,.inr ⟨_,_,hx⟩=>T8 hx
theorem Ball.stop{s:List (List Int)}{h:Nat}{c:Cl}{n:Nat}{rs:List Cl}(he:∀x,x∈rs↔Ball s h c n x)(cl:∀y∈rs,∀x∈Cm s h y,x∈rs):∀(k:Nat) (x:Cl),x∈rs↔Ball s h c (n+k) x
 |0,x=>he x
 |k+1,x=>by
  have ih:=Ball.stop he cl k
  show x∈rs↔Ball s h c (n+k) x∨∃y,Ball s h c (n+k) y∧x∈Cm s h y
  refine⟨fun hx=>.inl ((ih x).mp hx),fun hx=>?_⟩
  rcases hx with hx|⟨y,hy,hx⟩
  ·exact(ih x).mpr hx
  ·exact cl y ((ih y).mpr hy) x hx
def Drift(s:List (List Int))(h:Nat)(c:Cl)(n:Nat)(x:Cl):Prop:=if wat s h c=true then Ball s h c n x else x=c
theorem Drift.inS{s:List (List Int)}{h:Nat}{c x:Cl}{n:Nat}(hc:InS s h c)(hx:Drift s h c n x):InS s h x:=by
 unfold Drift at hx
 split at hx
 ·exact Ball.inS hc hx
 ·subst hx;exact hc
theorem Jy{a:Cl}:¬Bf a a:=by unfold Bf;omega
theorem Tc{a b:Cl}(h:Bf a b):¬Bf b a:=by unfold Bf at *;omega
theorem E5:∀{a b:List Cl},a.Pairwise Bf→b.Pairwise Bf→(∀x,x∈a↔x∈b)→a=b
 |[],[],_,_,_=>rfl
 |[],y::q,_,_,h=>absurd ((h y).mpr (by simp)) (by simp)
 |x::r,[],_,_,h=>absurd ((h x).mp (by simp)) (by simp)
 |x::r,y::q,ha,hb,h=>by
  obtain⟨a1,a2⟩:=List.pairwise_cons.mp ha
  obtain⟨b1,b2⟩:=List.pairwise_cons.mp hb
  have exy:x=y:=by
   rcases List.mem_cons.mp ((h x).mp (by simp)) with e|e
   ·exact e
   ·rcases List.mem_cons.mp ((h y).mpr (by simp)) with e'|e'
    ·exact e'.symm
    ·exact absurd (b1 x e) (Tc (a1 y e'))
  subst exy
  have:r=q:=E5 a2 b2 fun z=>by
   have hz:=h z
   rw[List.mem_cons,List.mem_cons] at hz
   constructor
   ·intro hr
    rcases hz.mp (.inr hr) with e|e
    ·subst e;exact absurd (a1 z hr) Jy
    ·exact e
   ·intro hr
    rcases hz.mpr (.inr hr) with e|e
    ·subst e;exact absurd (b1 z hr) Jy
    ·exact e
  rw[this]
theorem Jx:∀(n:Nat) (l:List Nat),l.Nodup→(∀x∈l,x<n)→l.length≤n
 |0,l,_,h=>by
  cases l with
  |nil=>exact Nat.le_refl _
  |cons x r=>exact absurd (h x (by simp)) (by omega)
 |n+1,l,nd,h=>by
  by_cases hn:n∈l
  ·have:=Jx n (l.erase n) (nd.erase n) fun x hx=>by
    have:=nd.mem_erase_iff.mp hx
    have:=h x this.2
    omega
   rw[List.length_erase_of_mem hn] at this
   omega
  ·have:=Jx n l nd fun x hx=>by
    have:=h x hx
    have:x≠n:=fun e=>hn (e ▸ hx)
    omega
   omega
theorem Qk{s:List (List Int)}{h:Nat}{l:List Cl}(nd:l.Nodup)(hl:∀x∈l,InS s h x):l.length≤s.length*h:=by
 have e:=Jx (s.length*h) (l.map fun x=>x.1.toNat*h+x.2.toNat) (F9 nd fun x hx y hy e=>?_) fun z hz=>?_
 ·rwa [List.length_map] at e
 ·obtain⟨a,b,c,d⟩:=hl x hx
  obtain⟨a',b',c',d'⟩:=hl y hy
  have e:=(show x.1.toNat*h+x.2.toNat=y.1.toNat*h+y.2.toNat from e)
  have hd:x.2.toNat<h:=by omega
  have hd':y.2.toNat<h:=by omega
  have e1:x.1.toNat=y.1.toNat:=by
   have h1:(x.1.toNat*h+x.2.toNat) / h=x.1.toNat:=by rw[Nat.mul_comm,Nat.mul_add_div (by omega),Nat.div_eq_of_lt hd];omega
   have h2:(y.1.toNat*h+y.2.toNat) / h=y.1.toNat:=by rw[Nat.mul_comm,Nat.mul_add_div (by omega),Nat.div_eq_of_lt hd'];omega
   rw[←h1,←h2,e]
  rw[e1] at e
  exact Prod.ext (by omega) (by omega)
 ·obtain⟨x,hx,rfl⟩:=List.mem_map.mp hz
  obtain⟨a,b,c,d⟩:=hl x hx
  have h1:x.1.toNat+1≤s.length:=by omega
  have h2:(x.1.toNat+1)*h≤s.length*h:=Nat.mul_le_mul_right _ h1
  have h3:(x.1.toNat+1)*h=x.1.toNat*h+h:=by rw[Nat.add_mul,Nat.one_mul]
  have h4:x.2.toNat<h:=by omega
  show x.1.toNat*h+x.2.toNat<_
  omega
theorem Cc{s:List (List Int)}{h:Nat}(ok:SeaOk s h){l:List Cl}(nd:l.Nodup)(hl:∀x∈l,InS s h x):l.length≤144:=by
 have h1:=Qk nd hl
 have h2:=ok.wide
 have h3:=ok.high
 have h4:s.length*h≤16*9:=Nat.mul_le_mul h2.2 h3.2
 omega
theorem Cb{l:List Cl}(h:l.Pairwise Bf):l.Nodup:=h.imp fun {a b} h e=>by subst e;exact Jy h
def Bs(a:List Cl×List Cl)(o:Cl):List Cl×List Cl:=if o∈a.1 then a else (a.1++[o],a.2++[o])
def Jc(s:List (List Int))(h:Nat)(a:List Cl×List Cl)(c:Cl):List Cl×List Cl:=(Cm s h c).foldl Bs a
def Dn(s:List (List Int))(h:Nat)(edge rs:List Cl):List Cl×List Cl:=edge.foldl (Jc s h) (rs,[])
structure Stepped(r0:List Cl)(L:Cl→Prop)(a:List Cl×List Cl):Prop where
 eq:a.1=r0++a.2
 nd:a.1.Nodup
 mem:∀x,x∈a.1↔x∈r0∨L x
theorem Stepped.congr{r0:List Cl}{L L':Cl→Prop}{a:List Cl×List Cl}(S:Stepped r0 L a)(h:∀x,L x↔L' x):Stepped r0 L' a:=⟨S.eq,S.nd,fun x=>by rw[S.mem,h]⟩
theorem Stepped.step{r0:List Cl}{L:Cl→Prop}{a:List Cl×List Cl}(S:Stepped r0 L a)(o:Cl):Stepped r0 (fun x=>L x∨x=o) (Bs a o):=by
 unfold Bs
 by_cases ho:o∈a.1
 ·rw[if_pos ho]
  refine⟨S.eq,S.nd,fun x=>?_⟩
  rw[S.mem]
  constructor
  ·rintro(h|h)
   ·exact .inl h
   ·exact .inr (.inl h)
  ·rintro(h|h|h)
   ·exact .inl h
   ·exact .inr h
   ·subst h;exact(S.mem x).mp ho
 ·rw[if_neg ho]
  refine⟨by rw[S.eq,List.append_assoc],?_,fun x=>?_⟩
  ·rw[List.nodup_append]
   refine⟨S.nd,by simp,fun x hx y hy e=>?_⟩
   rw[List.mem_singleton] at hy
   subst hy;subst e;exact ho hx
  ·rw[List.mem_append,List.mem_singleton,S.mem,or_assoc]
theorem Stepped.fold{r0:List Cl}:∀(l:List Cl) {L:Cl→Prop} {a:List Cl×List Cl},Stepped r0 L a→Stepped r0 (fun x=>L x∨x∈l) (l.foldl Bs a)
 |[],_,_,S=>S.congr fun x=>by simp
 |o::l,L,a,S=>((S.step o).fold l).congr fun x=>by rw[List.mem_cons,or_assoc]
theorem Stepped.one{s:List (List Int)}{h:Nat}{r0:List Cl}:∀(edge:List Cl) {L:Cl→Prop} {a:List Cl×List Cl},Stepped r0 L a→Stepped r0 (fun x=>L x∨∃y∈edge,x∈Cm s h y) (edge.foldl (Jc s h) a)
 |[],_,_,S=>S.congr fun x=>by simp
 |o::l,L,a,S=>(Stepped.one l (S.fold (Cm s h o))).congr fun x=>by
  rw[or_assoc]
  simp only[List.mem_cons,exists_eq_or_imp]
theorem M8{s:List (List Int)}{h:Nat}{r0:List Cl}(nd:r0.Nodup)(edge:List Cl):Stepped r0 (fun x=>∃y∈edge,x∈Cm s h y) (Dn s h edge r0):=
 (Stepped.one (s:=s) (h:=h) edge (L:=fun _=>False) (a:=(r0,[])) ⟨by simp,nd,fun x=>by simp⟩).congr fun x=>by simp
structure Bfs(s:List (List Int))(h:Nat)(c:Cl)(n:Nat)(rs edge:List Cl):Prop where
 nd:rs.Nodup
 mem:∀x,x∈rs↔Ball s h c n x
 sub:∀x∈edge,x∈rs
 len:edge.length≤rs.length
 old:∀y∈rs,y ∉ edge→∀x∈Cm s h y,x∈rs
theorem Bfs.start{s:List (List Int)}{h:Nat}{c:Cl}:Bfs s h c 0 [c] [c]:=⟨by simp,fun x=>by rw[List.mem_singleton];exact Iff.rfl,fun x h=>h,Nat.le_refl _,fun y hy hn=>absurd hy hn⟩
theorem Bfs.step{s:List (List Int)}{h:Nat}{c:Cl}{n:Nat}{rs edge:List Cl}(b:Bfs s h c n rs edge):Bfs s h c (n+1) (Dn s h edge rs).1 (Dn s h edge rs).2:=by
 have S:=M8 (s:=s) (h:=h) b.nd edge
 have all:∀x,x∈(Dn s h edge rs).1↔x∈rs∨∃y∈rs,x∈Cm s h y:=fun x=>by
  rw[S.mem]
  constructor
  ·rintro(h|⟨y,hy,hx⟩)
   ·exact .inl h
   ·exact .inr ⟨y,b.sub y hy,hx⟩
  ·rintro(h|⟨y,hy,hx⟩)
   ·exact .inl h
   ·by_cases he:y∈edge
    ·exact .inr ⟨y,he,hx⟩
    ·exact .inl (b.old y hy he x hx)
 refine⟨S.nd,fun x=>?_,fun x hx=>?_,?_,fun y hy hn x hx=>?_⟩
 ·rw[all,b.mem]
  show _↔_∨_
  constructor
  ·rintro(h|⟨y,hy,hx⟩)
   ·exact .inl h
   ·exact .inr ⟨y,(b.mem y).mp hy,hx⟩
  ·rintro(h|⟨y,hy,hx⟩)
   ·exact .inl h
   ·exact .inr ⟨y,(b.mem y).mpr hy,hx⟩
 ·rw[S.eq];exact List.mem_append_right _ hx
 ·rw[S.eq,List.length_append];omega
 ·have hr:y∈rs:=by
   rw[S.eq] at hy
   exact(List.mem_append.mp hy).resolve_right hn
  exact(all x).mpr (.inr ⟨y,hr,hx⟩)
theorem Bfs.stop{s:List (List Int)}{h:Nat}{c:Cl}{n:Nat}{rs:List Cl}(b:Bfs s h c n rs [])(k:Nat)(x:Cl):x∈rs↔Ball s h c (n+k) x:=Ball.stop b.mem (fun y hy=>b.old y hy (by simp)) k x
theorem Bfs.inS{s:List (List Int)}{h:Nat}{c:Cl}{n:Nat}{rs edge:List Cl}(b:Bfs s h c n rs edge)(hc:InS s h c):∀x∈rs,InS s h x:=fun x hx=>Ball.inS hc ((b.mem x).mp hx)
theorem Pd(a:List Cl×List Cl)(o:Cl):(Bs a o).1.length≤a.1.length+1∧(Bs a o).2.length≤a.2.length+1:=by
 unfold Bs
 split
 ·omega
 ·simp
theorem Sub.over{G0 G:Gp}(s:Sub G0 G){p:Addr}(h:G0 p=none)(o:GO):Sub G0 (Ad G p o):=fun a u e=>by rw[Ao (gne e h)];exact s a u e
def B6(c:Cl):PyData:=.tuple [.int c.1,.int c.2]
theorem En{G:Gp}{c:Cl}:RepD G (Ae c) (B6 c):=.tup (.cons (.int _) (.cons (.int _) .nil))
theorem B8{G:Gp}:∀{cs:List Cl},RepDs G (cs.map Ae) (cs.map B6)
 |[]=>.nil
 |_::_=>.cons En B8
theorem Ep(c:Cl):(B6 c).canLay0=true:=by simp[B6,PyData.canLay0,PyData.canLayAll0]
theorem Bn:∀cs:List Cl,PyData.canLayAll0 (cs.map B6)=true
 |[]=>rfl
 |c::r=>by rw[List.map_cons,PyData.canLayAll0,Ep,Bn r];rfl
theorem Gr(c:Cl):(B6 c).depth=1:=by simp[B6,PyData.depth,PyData.depthAll]
theorem Du:∀cs:List Cl,PyData.depthAll (cs.map B6)≤1
 |[]=>Nat.zero_le _
 |c::r=>by
  rw[List.map_cons,PyData.depthAll,Gr]
  exact Nat.max_le.mpr ⟨Nat.le_refl _,Du r⟩
theorem Gq(a b:Cl):PyData.eqv (B6 a) (B6 b)=decide (a=b):=by
 unfold B6
 simp only[PyData.eqv,PyData.eqvAll]
 show((a.1 == b.1)&&((a.2 == b.2)&&true))=_
 rw[Bool.and_true,Bool.eq_iff_iff]
 simp only[Bool.and_eq_true,beq_iff_eq,decide_eq_true_eq]
 exact⟨fun h=>Prod.ext h.1 h.2,fun h=>by rw[h];exact⟨rfl,rfl⟩⟩
theorem Dt:∀a b:List Cl,PyData.eqvAll (a.map B6) (b.map B6)=decide (a=b)
 |[],[]=>by simp[PyData.eqvAll]
 |[],y::r=>by simp[PyData.eqvAll]
 |x::r,[]=>by simp[PyData.eqvAll]
 |x::r,y::q=>by
  simp only[List.map_cons,PyData.eqvAll,Dt r q,Gq]
  rw[Bool.eq_iff_iff]
  simp
theorem Ca{G:Gp}{p q:Addr}{a b:List Cl}{Q:DK}(hp:G p=some (.lst (a.map Ae)))(hq:G q=some (.lst (b.map Ae)))(h:Q (.bl (!decide (a=b))) G):T6 (.ref p) (.ref q) G Q:=
 ⟨_,_,.lst hp B8,.lst hq B8,by rw[PyData.canLay0];exact Bn a,by rw[PyData.canLay0];exact Bn b,by rw[PyData.depth,PyData.depth];have:=Du a;omega,by rw[PyData.eqv,Dt];exact h⟩
end K2
set_option maxRecDepth 100000
set_option maxHeartbeats 4000000
namespace K2
open PySem L2 D3
section
variable{P:Program}{w:World}{K:W.Frag}{mg:Str→Option Value}{base:Heap}
theorem Go:∀(l:List Cl) (a:List Cl×List Cl),(l.foldl Bs a).1.length≤a.1.length+l.length∧(l.foldl Bs a).2.length≤a.2.length+l.length
 |[],a=>⟨Nat.le_refl _,Nat.le_refl _⟩
 |o::l,a=>by
  have h1:=Pd a o
  have h2:=Go l (Bs a o)
  rw[List.foldl_cons,List.length_cons];omega
theorem Kx(s:List (List Int))(h:Nat)(c:Cl):(Cm s h c).length≤4:=Nat.le_trans (List.length_filter_le _ _) (Nat.le_refl _)
theorem Oa(s:List (List Int))(h:Nat):∀(l:List Cl) (a:List Cl×List Cl),(l.foldl (Jc s h) a).1.length≤a.1.length+4*l.length∧(l.foldl (Jc s h) a).2.length≤a.2.length+4*l.length
 |[],a=>⟨Nat.le_refl _,Nat.le_refl _⟩
 |o::l,a=>by
  have h1:=Go (Cm s h o) a
  have h0:=Kx s h o
  have h2:=Oa s h l (Jc s h a o)
  rw[List.foldl_cons,List.length_cons]
  have e:Jc s h a o=(Cm s h o).foldl Bs a:=rfl
  rw[e] at h2 ⊢;omega
theorem Io{α β:Type}{f:β→α→β}{l:List α}{i:Nat}{x:α}{b:β}(h:l[i]? = some x):(l.take (i+1)).foldl f b=f ((l.take i).foldl f b) x:=by
 rw[List.take_add_one,h,Option.toList_some,List.foldl_append];rfl
theorem Ds{l:List Cl}{i:Nat}{x:D}(h:(l.map Ae)[i]? = some x):∃c,l[i]? = some c∧x=Ae c:=by
 rw[List.getElem?_map] at h
 cases e:l[i]? with
 |none=>rw[e] at h;cases h
 |some c=>rw[e] at h;cases h;exact⟨c,rfl,rfl⟩
theorem szm{n:Nat}(h:n<20000):n<sizeLine:=by rw[sizeLine_eq];omega
abbrev s_one_step_on:Stmt:=top 26
abbrev Hq:List Str:=["sea", "edge", "reached", "beyond", "cell", "other"]
abbrev Bc:List Str:=["sea", "edge", "reached"]
theorem sc_one_step_on:FnScope Hq Bc (Ag s_one_step_on):=⟨rfl,rfl,rfl,by decide +kernel,rfl,by decide +kernel,by decide +kernel⟩
def E7:DSp:=fun ds G Q _=>∃s h e p edge r0,ds=[A8 s,.ref e,.ref p]∧SeaOk s h∧G e=some (.lst (edge.map Ae))∧G p=some (Bt r0)∧r0.length+4*edge.length<10000∧
 ∀q,G q=none→Q (.ref q) (Ad (Ad G p (Bt (Dn s h edge r0).1)) q (.lst ((Dn s h edge r0).2.map Ae)))
theorem M9{f:Addr}{fd:FuncData}(F:Fun K "one_step_on" "one_step_on" s_one_step_on f fd)(T:Nums mg)(Aa9:Def P w K mg base CX0 3 "waters_beside" A2 El):FnOk P w K mg base CX0 4 f fd Bc (Ak K E7):=by
 refine okD F sc_one_step_on (fun ds G Q E h=>?_) (fun cdv A outer s H XE ds G Q E hr h=>?_)
 ·obtain⟨_,_,_,_,_,_,rfl,_⟩:=h;rfl
 ·obtain⟨s,h,e,p,edge,r0,rfl,ok,he,hp,hz,k⟩:=h
  refine⟨_,(@qss_cons _ _ _ _ _ (@qs_set _ _ _ _ 3 _ _ sc_one_step_on.nd (@q_lst _ _ _ _ (@qa_nil _)) (by rfl) (by exact .inl rfl) (by rfl) (by exact .inl rfl)) (@qss_cons _ _ _ _ _ (@Jl _ _ _ _ _ _ _ _ PassesOwn.never rfl (@q_v1 _ _ 1 _ (by exact⟨rfl,rfl,rfl,rfl⟩)) (@qg_name _ _ 4 _ sc_one_step_on.nd (by rfl) (by exact .inl rfl) (by exact .inl rfl)) (@qss_one _ _ _ (@Jl _ _ _ _ _ _ _ _ PassesOwn.never rfl (@q_call _ _ _ _ _ _ _ _ noX _ _ _ Aa9 (hr.mono (by decide)) (@passN _ _) (@qa_consP _ _ _ _ _ (@q_v1 _ _ 0 _ (by exact⟨rfl,rfl,rfl,rfl⟩)) (@qa_consP _ _ _ _ _ (@q_v1 _ _ 4 _ (by exact⟨rfl,rfl,rfl,rfl⟩)) (@qa_nil _) (by rfl)) (by rfl)) (by rfl) (by decide) (by rfl) (by rfl)) (@qg_name _ _ 5 _ sc_one_step_on.nd (by rfl) (by exact .inl rfl) (by exact .inl rfl)) (@qss_one _ _ _ (@qs_if _ _ _ _ _ _ _ _ (@qt_cmp _ _ _ _ _ _ _ _ (@S5 _ _ hr) (@q_v1 _ _ 5 _ (by exact⟨rfl,rfl,rfl,rfl⟩)) (@q_v1 _ _ 2 _ (by exact⟨rfl,rfl,rfl,rfl⟩)) (by with_unfolding_all rfl)) (@qss_cons _ _ _ _ _ (@qs_asg _ _ _ _ _ _ (@q_bl _ _ _ _) (@F8 _ _ _ _ _ _ _ (@q_v1 _ _ 2 _ (by exact⟨rfl,rfl,rfl,rfl⟩)) (@q_v1 _ _ 5 _ (by exact⟨rfl,rfl,rfl,rfl⟩)) (@N5 _ _ hr) (by intro _ ;rfl)) (by rfl) (by rfl) (by rfl)) (@qss_one _ _ _ (@Dl _ _ _ _ (@Q4 _ _ _ _ _ _ _ (@q_v1 _ _ 3 _ (by exact⟨rfl,rfl,rfl,rfl⟩)) (@q_v1 _ _ 5 _ (by exact⟨rfl,rfl,rfl,rfl⟩)) (by rfl) (by rfl) (by rfl) (by rfl) (by rfl)) (by rfl)))) (@qss_nil _))) (by intro _ ;rfl))) (by intro _ ;rfl)) (@qss_one _ _ _ (@qs_ret _ _ _ _ (@q_v1 _ _ 3 _ (by exact⟨rfl,rfl,rfl,rfl⟩)))))),?_⟩
  have sz0:0≤sizeLine:=Nat.zero_le _
  simp only[B2,Cd,F4,A1,List.length_nil,sz0,As,Qx,Aq,An,List.map_cons,List.map_nil,List.length_cons,Nat.zero_add,Nat.reduceAdd,Nat.reduceSub,List.replicate,List.cons_append,List.nil_append,List.set_cons_succ,List.set_cons_zero,List.getElem?_cons_succ,List.getElem?_cons_zero,Option.some.injEq,exists_eq_left',true_and]
  intro q hq
  have nep:e≠p:=fun z=>by rw[z,hp] at he;cases he
  have neq:e≠q:=gne he hq
  have npq:p≠q:=gne hp hq
  let GG:=fun(a:List Cl×List Cl)=>Ad (Ad G p (Bt a.1)) q (.lst (a.2.map Ae))
  have g0:∀a,Bd (GG a) (.ref e)=some (edge.map Ae):=fun a=>Ax (by show Ad (Ad G _ _) _ _ _=_;rw[Ao neq,Ao nep];exact he)
  refine⟨edge.map Ae,Ax (Bz he hq),?_⟩
  refine Dr (fun i σ G'=>∃v4 v5,σ=[some (A8 s),some (.ref e),some (.ref p),some (.ref q),v4,v5]∧GG ((edge.take i).foldl (Jc s h) (r0,[]))=G') ⟨none,none,rfl,?_⟩ ?_ ?_ ?_
  ·show Ad (Ad G p (Bt r0)) q _=_
   rw[Hy hp];rfl
  ·rintro i σ _ _ ⟨v4,v5,rfl,rfl⟩
   exact g0 _
  ·rintro i x σ _ hx ⟨v4,v5,rfl,rfl⟩
   obtain⟨c,hc,rfl⟩:=Ds hx
   have hi:i<edge.length:=(List.getElem?_eq_some_iff.mp hc).1
   have ea:=Io (f:=Jc s h) (b:=(r0,[])) hc
   have hal:=Oa s h (edge.take i) (r0,[])
   rw[List.length_take,Nat.min_eq_left (Nat.le_of_lt hi)] at hal
   generalize (edge.take i).foldl (Jc s h) (r0,[])=a at *
   rw[ea]
   simp only[As,Qx,Ba,Ai,Aq,List.set_cons_succ,List.set_cons_zero,List.getElem?_cons_zero,Option.some.injEq,List.getElem?_cons_succ,A1,El,List.cons.injEq,and_true,and_assoc,exists_and_left,exists_eq_left']
   refine⟨s,rfl,h,c,rfl,ok,fun l hl=>?_⟩
   have hl0:=F0 hl
   have hl1:=F0 hl0.2
   refine⟨_,Ax Aa,?_⟩
   refine Dr (fun j σ G'=>∃v5,σ=[some (A8 s),some (.ref e),some (.ref p),some (.ref q),some (Ae c),v5]∧Ad (GG (((Cm s h c).take j).foldl Bs a)) l (.lst ((Cm s h c).map Ae))=G') ⟨_,rfl,rfl⟩ ?_ ?_ ?_
   ·rintro j σ _ _ ⟨v5,rfl,rfl⟩
    exact Ax Aa
   ·rintro j x σ _ hx ⟨v5,rfl,rfl⟩
    obtain⟨o,ho,rfl⟩:=Ds hx
    have hj:j<(Cm s h c).length:=(List.getElem?_eq_some_iff.mp ho).1
    have hw:=Kx s h c
    have eb:=Io (f:=Bs) (b:=a) ho
    have hbl:=Go ((Cm s h c).take j) a
    rw[List.length_take,Nat.min_eq_left (Nat.le_of_lt hj)] at hbl
    generalize ((Cm s h c).take j).foldl Bs a=b at *
    have gp:Ad (GG b) l (.lst ((Cm s h c).map Ae)) p=some (Bt b.1):=by
     show Ad (Ad (Ad G _ _) _ _) _ _ _=_
     rw[Ao hl1.1,Ao npq,Aa]
    have sz1:(b.1.map fun c=>(Au c,D.bl true)).length<sizeLine:=by rw[List.length_map];exact szm (by simp at hal;omega)
    simp only[As,Eb,By,nOp,Aq,List.set_cons_succ,List.set_cons_zero,List.getElem?_cons_succ,List.getElem?_cons_zero,Option.some.injEq,Y7,if_true,D.bl.injEq,B2,Cd,nC,Qz,Rb,Kt,T5,exists_eq_left',D.ref.injEq,D6,gp,Bt,Cg]
    refine⟨_,rfl,?_⟩
    rw[Hx,eb]
    by_cases hm:o∈b.1
    ·refine it1 (by simp[hm]) ?_
     have e2:Bs b o=b:=by unfold Bs;rw[if_pos hm]
     rw[e2]
     exact Fs.of ⟨_,rfl,rfl⟩
    ·refine it0 (by simp[hm]) ?_
     have gq:∀u,Ad (Ad (GG b) l (.lst ((Cm s h c).map Ae))) p u q=some (.lst (b.2.map Ae)):=fun u=>by
      show Ad (Ad (Ad (Ad G _ _) _ _) _ _) _ _ _=_
      rw[Ao npq.symm,Ao hl0.1,Aa]
     refine⟨_,rfl,sz1,⟨_,gq _⟩,_,gq _,by rw[List.length_map];exact szm (by simp at hal;omega),?_⟩
     rw[Ic]
     have e2:Bs b o=(b.1++[o],b.2++[o]):=by unfold Bs;rw[if_neg hm]
     have e3:Jb b.1 o=b.1++[o]:=by unfold Jb;rw[if_neg hm]
     rw[e2,e3]
     refine Fs.of ⟨_,rfl,?_⟩
     show Ad (Ad (Ad G p (Bt (b.1++[o]))) q (.lst ((b.2++[o]).map Ae))) l _=Ad (Ad (Ad (Ad (Ad G p (Bt b.1)) q (.lst (b.2.map Ae))) l _) p (Bt (b.1++[o]))) q (.lst (b.2.map Ae++[Ae o]))
     rw[E6 (a:=l) (b:=p) hl1.1.symm,E6 (a:=q) (b:=p) npq.symm,Aw,E6 (a:=l) (b:=q) hl0.1.symm,Aw,List.map_append];rfl
   ·rintro σ _ ⟨v5,rfl,rfl⟩
    rw[List.length_map,List.take_length]
    exact⟨_,Sub.new (by show Ad (Ad G _ _) _ _ _=_;rw[Ao hl0.1.symm,Ao hl1.1.symm];exact hl1.2),_,_,rfl,rfl⟩
  ·rintro σ _ ⟨v4,v5,rfl,rfl⟩
   rw[List.length_map,List.take_length]
   simp only[B3,Aq,List.getElem?_cons_succ,List.getElem?_cons_zero,Option.some.injEq,exists_eq_left']
   exact Fq.of (k q hq)
abbrev s_drift:Stmt:=top 27
abbrev Vu:List Str:=["sea", "cell", "days", "reached", "edge", "left"]
abbrev p_drift:List Str:=["sea", "cell", "days"]
theorem sc_drift:FnScope Vu p_drift (Ag s_drift):=⟨rfl,rfl,rfl,by decide +kernel,rfl,by decide +kernel,by decide +kernel⟩
def spDrift:DSp:=fun ds G Q _=>∃s h c days,ds=[A8 s,Ae c,.int days]∧SeaOk s h∧InS s h c∧0≤days∧days≤400∧∀ms:List Cl,ms.Pairwise Bf→(∀x,x∈ms↔Drift s h c days.toNat x)→Q (.tup (ms.map Ae)) G
def WDr(s:List (List Int))(h:Nat)(c:Cl)(days:Int)(p:Addr)(G:Gp)(m:Nat)(σ:DSt)(G':Gp):Prop:=∃(n:Nat) (left:Int) (rs edge:List Cl) (e:Addr),σ=[some (A8 s),some (Ae c),some (.int days),some (.ref p),some (.ref e),some (.int left)]∧
 G' p=some (Bt rs)∧G' e=some (.lst (edge.map Ae))∧Bfs s h c n rs edge∧left+n=days∧0≤left∧m=left.toNat∧Sub G G'
theorem S2{f:Addr}{fd:FuncData}(F:Fun K "drift" "drift" s_drift f fd)(T:Nums mg)(Aba:Def P w K mg base CX0 5 "check_sea" p_check_sea spCheckSea)(Abb:Def P w K mg base CX0 3 "check_cell" Bj Cq)(Abc:Def P w K mg base CX0 3 "check_day" p_check_day (spChk 0 400))(Aa1:Def P w K mg base CX0 2 "is_water" p_is_water spWater)(Abd:Def P w K mg base CX0 4 "one_step_on" Bc E7) :
  FnOk P w K mg base CX0 6 f fd p_drift (Ak K spDrift):=by
 refine okD F sc_drift (fun ds G Q E h=>?_) (fun cdv A outer s H XE ds G Q E hr h=>?_)
 ·obtain⟨_,_,_,_,rfl,_⟩:=h;rfl
 ·obtain⟨s,h,c,days,rfl,ok,hc,d0,d1,k⟩:=h
  refine⟨_,(@qss_cons _ _ _ _ _ (@Dl _ _ _ _ (@q_call _ _ _ _ _ _ _ _ noX _ _ _ Aba (hr.mono (by decide)) (@passN _ _) (@qa_consP _ _ _ _ _ (@q_v1 _ _ 0 _ (by exact⟨rfl,rfl,rfl,rfl⟩)) (@qa_nil _) (by rfl)) (by rfl) (by decide) (by rfl) (by rfl)) (by rfl)) (@qss_cons _ _ _ _ _ (@Dl _ _ _ _ (@q_call _ _ _ _ _ _ _ _ noX _ _ _ Abb (hr.mono (by decide)) (@passN _ _) (@qa_consP _ _ _ _ _ (@q_v1 _ _ 0 _ (by exact⟨rfl,rfl,rfl,rfl⟩)) (@qa_consP _ _ _ _ _ (@q_v1 _ _ 1 _ (by exact⟨rfl,rfl,rfl,rfl⟩)) (@qa_nil _) (by rfl)) (by rfl)) (by rfl) (by decide) (by rfl) (by rfl)) (by rfl)) (@qss_cons _ _ _ _ _ (@Dl _ _ _ _ (@q_call _ _ _ _ _ _ _ _ noX _ _ _ Abc (hr.mono (by decide)) (@passN _ _) (@qa_consP _ _ _ _ _ (@q_v1 _ _ 2 _ (by exact⟨rfl,rfl,rfl,rfl⟩)) (@qa_nil _) (by rfl)) (by rfl) (by decide) (by rfl) (by rfl)) (by rfl)) (@qss_cons _ _ _ _ _ (@qs_if _ _ _ _ _ _ _ _ (@qt_not _ _ _ _ (@qt_tru _ _ _ (@q_call _ _ _ _ _ _ _ _ noX _ _ _ Aa1 (hr.mono (by decide)) (@passN _ _) (@qa_consP _ _ _ _ _ (@q_v1 _ _ 0 _ (by exact⟨rfl,rfl,rfl,rfl⟩)) (@qa_consP _ _ _ _ _ (@q_v1 _ _ 1 _ (by exact⟨rfl,rfl,rfl,rfl⟩)) (@qa_nil _) (by rfl)) (by rfl)) (by rfl) (by decide) (by rfl) (by rfl)) (by intro _ ;rfl))) (@qss_one _ _ _ (@qs_ret _ _ _ _ (@q_tup _ _ _ _ _ (@qa_consP _ _ _ _ _ (@q_v1 _ _ 1 _ (by exact⟨rfl,rfl,rfl,rfl⟩)) (@qa_nil _) (by rfl))))) (@qss_nil _)) (@qss_cons _ _ _ _ _ (@qs_set _ _ _ _ 3 _ _ sc_drift.nd (@Uq _ _ _ _ _ _ _ hr (@q_v1 _ _ 1 _ (by exact⟨rfl,rfl,rfl,rfl⟩)) (@q_bl _ _ _ _)) (by rfl) (by exact .inl rfl) (by rfl) (by exact .inl rfl)) (@qss_cons _ _ _ _ _ (@qs_set _ _ _ _ 4 _ _ sc_drift.nd (@q_lst _ _ _ _ (@qa_consP _ _ _ _ _ (@q_v1 _ _ 1 _ (by exact⟨rfl,rfl,rfl,rfl⟩)) (@qa_nil _) (by rfl))) (by rfl) (by exact .inl rfl) (by rfl) (by exact .inl rfl)) (@qss_cons _ _ _ _ _ (@qs_set _ _ _ _ 5 _ _ sc_drift.nd (@q_v1 _ _ 2 _ (by exact⟨rfl,rfl,rfl,rfl⟩)) (by rfl) (by exact .inl rfl) (by rfl) (by exact .inl rfl)) (@qss_cons _ _ _ _ _ (@Sh _ _ _ _ _ _ PassesOwn.never (@qt_of _ _ _ (@qw_and _ _ _ _ _ _ _ (@qt_tru _ _ _ (@q_v1 _ _ 4 _ (by exact⟨rfl,rfl,rfl,rfl⟩)) (by intro _ ;rfl)) (@qw_and1 _ _ _ _ (@qt_cmp _ _ _ _ _ _ _ _ (@o_gt _) (@q_v1 _ _ 5 _ (by exact⟨rfl,rfl,rfl,rfl⟩)) (@q_int _ _ _ _) (nomark _))))) (@qss_cons _ _ _ _ _ (@qs_set _ _ _ _ 4 _ _ sc_drift.nd (@q_call _ _ _ _ _ _ _ _ noX _ _ _ Abd (hr.mono (by decide)) (@passN _ _) (@qa_consP _ _ _ _ _ (@q_v1 _ _ 0 _ (by exact⟨rfl,rfl,rfl,rfl⟩)) (@qa_consP _ _ _ _ _ (@q_v1 _ _ 4 _ (by exact⟨rfl,rfl,rfl,rfl⟩)) (@qa_consP _ _ _ _ _ (@q_v1 _ _ 3 _ (by exact⟨rfl,rfl,rfl,rfl⟩)) (@qa_nil _) (by rfl)) (by rfl)) (by rfl)) (by rfl) (by decide) (by rfl) (by rfl)) (by rfl) (by exact .inl rfl) (by rfl) (by exact .inl rfl)) (@qss_one _ _ _ (@Xg _ _ _ _ 5 _ _ _ _ sc_drift.nd (@Yn _) (@q_int _ _ _ _) (by rfl) (by exact .inl rfl) (by exact .inl rfl))))) (@qss_one _ _ _ (@qs_ret _ _ _ _ (@q_callTy _ _ _ _ _ _ _ _ _ (@c_tuple _) (T.blt (by decide)) (by decide +kernel) (@qa_consP _ _ _ _ _ (@q_callB _ _ _ _ _ _ _ _ _ (@Iu _ rfl) (T.blt (by decide)) (by decide +kernel) (@qa_consP _ _ _ _ _ (@q_v1 _ _ 3 _ (by exact⟨rfl,rfl,rfl,rfl⟩)) (@qa_nil _) (by rfl)) (by rfl) (by decide) (by decide) (by rfl) (by rfl)) (@qa_nil _) (by rfl)) (by rfl) (by decide) (by decide) (by rfl) (by rfl)))))))))))),?_⟩
  have sz1:1≤sizeLine:=szl (by decide)
  simp only[B2,Kt,Ba,Ai,Aq,An,List.map_cons,List.map_nil,List.length_cons,List.length_nil,Nat.zero_add,Nat.reduceAdd,Nat.reduceSub,List.replicate,List.cons_append,List.nil_append,List.getElem?_cons_zero,Option.some.injEq,A1,spCheckSea,List.cons.injEq,and_true,List.getElem?_cons_succ,Cq,spChk,Eb,Je,F3,spWater,B3,Jd,sz1,true_and,exists_eq_left',Cg,Cd,Ru,nC,Aa,As,F4,List.set_cons_succ,List.set_cons_zero,Aw,and_assoc,exists_and_left,D.int.injEq]
  refine⟨s,rfl,h,ok,s,rfl,h,c,rfl,ok,hc,d0,d1,s,rfl,h,c,rfl,ok,hc,?_⟩
  refine⟨_,rfl,?_⟩
  by_cases hw:wat s h c=true
  ·refine it1 (by simp[hw]) fun p hp=>⟨_,D6,fun q hq=>?_⟩
   have hq0:=F0 hq
   refine⟨WDr s h c days p G,⟨days.toNat,0,days,[c],[c],q,rfl,by rw[Ao hq0.1,Aa];rfl,Aa,Bfs.start,by omega,d0,rfl,(Sub.new hp).trans (Sub.new hq)⟩,?_⟩
   rintro m σ G' ⟨n,left,rs,edge,e,rfl,gp,ge,B,hn,hl,rfl,sb⟩
   have te:O3 G' (.ref e)=some (!(edge.map Ae).isEmpty):=by simp only[O3,ge]
   have h144:rs.length≤144:=Cc ok B.nd (B.inS hc)
   have hlen:=B.len
   have fin:(∀x,x∈rs↔Ball s h c days.toNat x)→∃ks:List ((Int×Int)×D),G' p=some (.dct (ks.map fun k=>(Au k.1,k.2)))∧ks.length≤10000∧(∀k∈ks,0≤k.1.2∧k.1.2<1000)∧∀(l:Addr) (ms:List (Int×Int)),G' l=none→ms.Perm (ks.map (·.1))→ms.Pairwise Bf→∃es,Bd (Ad G' l (.lst (ms.map Ae))) (.ref l)=some es∧Fq Q (.tup es) (Ad G' l (.lst (ms.map Ae))):=fun hall=>by
    refine⟨rs.map fun x=>(x,D.bl true),by rw[gp,List.map_map];rfl,by rw[List.length_map];omega,fun k hk=>?_,fun l ms hl hm hp=>?_⟩
    ·obtain⟨x,hx,rfl⟩:=List.mem_map.mp hk
     obtain⟨_,_,a3,a4⟩:=B.inS hc x hx
     have:=ok.high
     exact⟨a3,by show x.2<1000;omega⟩
    ·refine⟨_,Ax Aa,G,sb.trans (Sub.new hl),k ms hp fun x=>?_⟩
     have e1:(rs.map fun x=>(x,D.bl true)).map (·.1)=rs:=by rw[List.map_map];exact List.map_id _
     rw[e1] at hm
     rw[hm.mem_iff,hall,Drift,if_pos hw]
   simp only[Qy,F3,Aq,List.getElem?_cons_succ,List.getElem?_cons_zero,Option.some.injEq,By,nOp,nC,dI0,D.int.injEq,D.bl.injEq,B2,Cd,Ba,Ai,A1,As,Y6,List.set_cons_succ,List.set_cons_zero,exists_eq_left',B3,nCB,List.cons.injEq,and_true,D.ref.injEq,decide_eq_true_eq,reduceCtorEq,if_false,te]
   cases edge with
   |nil=>
    refine it1 (by simp) (fin fun x=>?_)
    have:=B.stop left.toNat x
    rw[show n+left.toNat=days.toNat by omega] at this;exact this
   |cons e0 er=>
    refine it0 (by simp) ?_
    by_cases h0:0<left
    ·refine it0 h0 ⟨WDr s h c days p G (left-1).toNat,fun σ' G'' hW=>⟨_,by omega,hW⟩,s,h,e,p,e0::er,rs,rfl,ok,ge,gp,by omega,fun q2 hq2=>?_⟩
     exact Fs.of ⟨n+1,left-1,_,_,q2,rfl,by rw[Ao (gne gp hq2),Aa],Aa,B.step,by omega,by omega,rfl,Sub.over (Sub.over sb hp _) (sb.none hq2) _⟩
    ·refine it1 h0 (fin fun x=>?_)
     rw[B.mem,show n=days.toNat by omega]
  ·refine it0 (by simpa using hw) (Fq.of ?_)
   have:=k [c] (List.pairwise_singleton _ _) fun x=>by rw[List.mem_singleton,Drift,if_neg hw]
   exact this
end
end K2
set_option maxRecDepth 100000
set_option maxHeartbeats 4000000
namespace K2
open PySem L2 D3
section
variable{P:Program}{w:World}{K:W.Frag}{mg:Str→Option Value}{base:Heap}
abbrev s_L_sea:Stmt:=top 32
abbrev Vv:List Str:=["_law_box_here", "_law_wide", "_law_high", "_law_columns", "_law_rows", "_law_way", "_law_found", "_law_column", "_law_depths", "_law_row", "_law_depth"]
abbrev Dm:List Str:=["_law_box_here", "_law_wide", "_law_high"]
theorem sc_L_sea:FnScope Vv Dm (Ag s_L_sea):=⟨rfl,rfl,rfl,by decide +kernel,rfl,by decide +kernel,by decide +kernel⟩
def Mr:DSp:=fun ds G Q _=>∃a wide high,ds=[.ref a,.int wide,.int high]∧Eh (G a)∧(2≤wide∧wide≤16∧1≤high∧high≤9)∧∀s h G',SeaOk s h→Step a G G'→Q (A8 s) G'
theorem U8{f:Addr}{fd:FuncData}(F:Fun K "_law_sea" "_law_sea" s_L_sea f fd)(T:Blt mg)(Aax:Def P w K mg base CX0 2 "_law_take" p_L_take spTake):FnOk P w K mg base CX0 3 f fd Dm (Ak K Mr):=by
 refine okD F sc_L_sea (fun ds G Q E h=>?_) (fun cdv A outer s H XE ds G Q E hr h=>?_)
 ·obtain⟨a,wide,high,rfl,_⟩:=h;rfl
 ·obtain⟨a,wide,high,rfl,hb,⟨w0,w1,g0,g1⟩,k⟩:=h
  refine⟨_,(@qss_cons _ _ _ _ _ (@Rm _ _ _ _ 3 4 _ _ _ _ _ _ _ _ _ rfl sc_L_sea.nd (@qa_consP _ _ _ _ _ (@q_op _ _ _ _ _ _ _ _ (@o_addD _) (@q_int _ _ _ _) (@q_call _ _ _ _ _ _ _ _ noX _ _ _ Aax (hr.mono (by decide)) (@passN _ _) (@qa_consP _ _ _ _ _ (@q_v1 _ _ 0 _ (by exact⟨rfl,rfl,rfl,rfl⟩)) (@qa_consP _ _ _ _ _ (@q_op _ _ _ _ _ _ _ _ (@o_sub _) (@q_v1 _ _ 1 _ (by exact⟨rfl,rfl,rfl,rfl⟩)) (@q_int _ _ _ _)) (@qa_nil _) (by rfl)) (by rfl)) (by rfl) (by decide) (by rfl) (by rfl))) (@qa_consP _ _ _ _ _ (@q_op _ _ _ _ _ _ _ _ (@o_addD _) (@q_int _ _ _ _) (@q_call _ _ _ _ _ _ _ _ noX _ _ _ Aax (hr.mono (by decide)) (@passN _ _) (@qa_consP _ _ _ _ _ (@q_v1 _ _ 0 _ (by exact⟨rfl,rfl,rfl,rfl⟩)) (@qa_consP _ _ _ _ _ (@q_v1 _ _ 2 _ (by exact⟨rfl,rfl,rfl,rfl⟩)) (@qa_nil _) (by rfl)) (by rfl)) (by rfl) (by decide) (by rfl) (by rfl))) (@qa_nil _) (by rfl)) (by rfl)) (by rfl) (by rfl) (by decide) (by rfl) (by rfl) (by rfl) (by rfl)) (@qss_cons _ _ _ _ _ (@Rm _ _ _ _ 5 6 _ _ _ _ _ _ _ _ _ rfl sc_L_sea.nd (@qa_consP _ _ _ _ _ (@q_call _ _ _ _ _ _ _ _ noX _ _ _ Aax (hr.mono (by decide)) (@passN _ _) (@qa_consP _ _ _ _ _ (@q_v1 _ _ 0 _ (by exact⟨rfl,rfl,rfl,rfl⟩)) (@qa_consP _ _ _ _ _ (@q_int _ _ _ _) (@qa_nil _) (by rfl)) (by rfl)) (by rfl) (by decide) (by rfl) (by rfl)) (@qa_consP _ _ _ _ _ (@q_lst _ _ _ _ (@qa_nil _)) (@qa_nil _) (by rfl)) (by rfl)) (by rfl) (by rfl) (by decide) (by rfl) (by rfl) (by rfl) (by rfl)) (@qss_cons _ _ _ _ _ (@Dk _ _ _ _ _ _ _ _ _ _ PassesOwn.never rfl (T.blt (by decide)) (@qa_consP _ _ _ _ _ (@q_v1 _ _ 3 _ (by exact⟨rfl,rfl,rfl,rfl⟩)) (@qa_nil _) (by rfl)) (@qg_name _ _ 7 _ sc_L_sea.nd (by rfl) (by exact .inl rfl) (by exact .inl rfl)) (@qss_cons _ _ _ _ _ (@qs_set _ _ _ _ 8 _ _ sc_L_sea.nd (@q_lst _ _ _ _ (@qa_nil _)) (by rfl) (by exact .inl rfl) (by rfl) (by exact .inl rfl)) (@qss_cons _ _ _ _ _ (@Dk _ _ _ _ _ _ _ _ _ _ PassesOwn.never rfl (T.blt (by decide)) (@qa_consP _ _ _ _ _ (@q_v1 _ _ 4 _ (by exact⟨rfl,rfl,rfl,rfl⟩)) (@qa_nil _) (by rfl)) (@qg_name _ _ 9 _ sc_L_sea.nd (by rfl) (by exact .inl rfl) (by exact .inl rfl)) (@qss_cons _ _ _ _ _ (@qs_set _ _ _ _ 10 _ _ sc_L_sea.nd (@q_ix _ _ _ _ _ _ (@q_lst _ _ _ _ (@qa_consP _ _ _ _ _ (@q_int _ _ _ _) (@qa_consP _ _ _ _ _ (@q_int _ _ _ _) (@qa_consP _ _ _ _ _ (@q_int _ _ _ _) (@qa_consP _ _ _ _ _ (@q_op _ _ _ _ _ _ _ _ (@o_addD _) (@q_int _ _ _ _) (@q_call _ _ _ _ _ _ _ _ noX _ _ _ Aax (hr.mono (by decide)) (@passN _ _) (@qa_consP _ _ _ _ _ (@q_v1 _ _ 0 _ (by exact⟨rfl,rfl,rfl,rfl⟩)) (@qa_consP _ _ _ _ _ (@q_int _ _ _ _) (@qa_nil _) (by rfl)) (by rfl)) (by rfl) (by decide) (by rfl) (by rfl))) (@qa_nil _) (by rfl)) (by rfl)) (by rfl)) (by rfl))) (@q_call _ _ _ _ _ _ _ _ noX _ _ _ Aax (hr.mono (by decide)) (@passN _ _) (@qa_consP _ _ _ _ _ (@q_v1 _ _ 0 _ (by exact⟨rfl,rfl,rfl,rfl⟩)) (@qa_consP _ _ _ _ _ (@q_int _ _ _ _) (@qa_nil _) (by rfl)) (by rfl)) (by rfl) (by decide) (by rfl) (by rfl)) (by intro _ _ ;rfl)) (by rfl) (by exact .inl rfl) (by rfl) (by exact .inl rfl)) (@qss_cons _ _ _ _ _ (@Rn _ _ _ _ _ _ _ _ (@qt_cmp _ _ _ _ _ _ _ _ (@o_eq _) (@q_call _ _ _ _ _ _ _ _ noX _ _ _ Aax (hr.mono (by decide)) (@passN _ _) (@qa_consP _ _ _ _ _ (@q_v1 _ _ 0 _ (by exact⟨rfl,rfl,rfl,rfl⟩)) (@qa_consP _ _ _ _ _ (@q_ix _ _ _ _ _ _ (@q_lst _ _ _ _ (@qa_consP _ _ _ _ _ (@q_int _ _ _ _) (@qa_consP _ _ _ _ _ (@q_int _ _ _ _) (@qa_consP _ _ _ _ _ (@q_int _ _ _ _) (@qa_consP _ _ _ _ _ (@q_int _ _ _ _) (@qa_nil _) (by rfl)) (by rfl)) (by rfl)) (by rfl))) (@q_v1 _ _ 5 _ (by exact⟨rfl,rfl,rfl,rfl⟩)) (by intro _ _ ;rfl)) (@qa_nil _) (by rfl)) (by rfl)) (by rfl) (by decide) (by rfl) (by rfl)) (@q_int _ _ _ _) (nomark _)) (@qss_one _ _ _ (@qs_set _ _ _ _ 10 _ _ sc_L_sea.nd (@q_ix _ _ _ _ _ _ (@q_lst _ _ _ _ (@qa_consP _ _ _ _ _ (@q_int _ _ _ _) (@qa_consP _ _ _ _ _ (@q_int _ _ _ _) (@qa_consP _ _ _ _ _ (@q_int _ _ _ _) (@qa_consP _ _ _ _ _ (@q_int _ _ _ _) (@qa_nil _) (by rfl)) (by rfl)) (by rfl)) (by rfl))) (@q_call _ _ _ _ _ _ _ _ noX _ _ _ Aax (hr.mono (by decide)) (@passN _ _) (@qa_consP _ _ _ _ _ (@q_v1 _ _ 0 _ (by exact⟨rfl,rfl,rfl,rfl⟩)) (@qa_consP _ _ _ _ _ (@q_int _ _ _ _) (@qa_nil _) (by rfl)) (by rfl)) (by rfl) (by decide) (by rfl) (by rfl)) (by intro _ _ ;rfl)) (by rfl) (by exact .inl rfl) (by rfl) (by exact .inl rfl))) (@qss_nil _)) (@qss_one _ _ _ (@Dl _ _ _ _ (@Q4 _ _ _ _ _ _ _ (@q_v1 _ _ 8 _ (by exact⟨rfl,rfl,rfl,rfl⟩)) (@q_v1 _ _ 10 _ (by exact⟨rfl,rfl,rfl,rfl⟩)) (by rfl) (by rfl) (by rfl) (by rfl) (by rfl)) (by rfl))))) (by rfl) (by rfl) (by intro _ ;rfl)) (@qss_one _ _ _ (@Dl _ _ _ _ (@Q4 _ _ _ _ _ _ _ (@q_v1 _ _ 6 _ (by exact⟨rfl,rfl,rfl,rfl⟩)) (@q_callTy _ _ _ _ _ _ _ _ _ (@c_tuple _) (T.blt (by decide)) (by decide +kernel) (@qa_consP _ _ _ _ _ (@q_v1 _ _ 8 _ (by exact⟨rfl,rfl,rfl,rfl⟩)) (@qa_nil _) (by rfl)) (by rfl) (by decide) (by decide) (by rfl) (by rfl)) (by rfl) (by rfl) (by rfl) (by rfl) (by rfl)) (by rfl))))) (by rfl) (by rfl) (by intro _ ;rfl)) (@qss_one _ _ _ (@qs_ret _ _ _ _ (@q_callTy _ _ _ _ _ _ _ _ _ (@c_tuple _) (T.blt (by decide)) (by decide +kernel) (@qa_consP _ _ _ _ _ (@q_v1 _ _ 6 _ (by exact⟨rfl,rfl,rfl,rfl⟩)) (@qa_nil _) (by rfl)) (by rfl) (by decide) (by decide) (by rfl) (by rfl))))))),?_⟩
  have sz0:0≤sizeLine:=Nat.zero_le _
  have sz4:4≤sizeLine:=szl (by decide)
  simp only[B2,Y5,Ai,nOp,nC,Ba,Aq,An,List.map_cons,List.map_nil,List.length_cons,List.length_nil,Nat.zero_add,Nat.reduceAdd,Nat.reduceSub,List.replicate,List.cons_append,List.nil_append,List.getElem?_cons_zero,Option.some.injEq,List.getElem?_cons_succ,dI0,D.int.injEq,A1,List.cons.injEq,and_true,List.set_cons_succ,List.set_cons_zero,F4,sz0,F5,Int.reducePow,Int.reduceNeg,and_assoc,exists_eq_left',exists_and_left,true_and]
  refine Bh hb (by omega) (by omega) fun r1 G1 r1l r1h s1=>?_
  rw[B5]
  refine Bh s1.box (by omega) (by omega) fun r2 G2 r2l r2h s2=>?_
  have s2:=s1.trans s2
  rw[B5]
  refine Bh s2.box (by omega) (by omega) fun r3 G3 r3l r3h s3=>?_
  have s3:=s2.trans s3
  intro p hp
  have s4:=s3.lay (o:=.lst []) hp
  have nap:=Step.ne s3.box hp
  have hpG:=s3.back hp
  have gp:Ad G3 p (.lst []) p=some (.lst []):=Aa
  generalize Ad G3 p (.lst [])=G4 at *
  refine⟨_,rfl,by omega,by omega,?_⟩
  refine Bw (fun i σ G'=>∃(cols:List (List Int)) (v7 v8 v9 v10:Option D),σ=[some (.ref a),some (.int wide),some (.int high),some (.int (2+r1)),some (.int (1+r2)),some (.int r3),some (.ref p),v7,v8,v9,v10]∧
   cols.length=i∧(∀c∈cols,c.length=(1+r2).toNat∧∀x∈c,0≤x∧x≤9)∧Step a G G'∧G' p=some (.lst (cols.map Av))) ⟨[],none,none,none,none,rfl,rfl,by simp,s4,gp⟩ ?_ ?_
  ·rintro i σ G5 hi ⟨cols,v7,v8,v9,v10,rfl,hcl,hco,s5,gp5⟩
   simp only[As,B2,Cd,F4,A1,List.length_nil,sz0,F5,Ai,Aq,List.set_cons_succ,List.set_cons_zero,List.getElem?_cons_succ,List.getElem?_cons_zero,Option.some.injEq,List.cons.injEq,and_true,Int.reducePow,Int.reduceNeg,and_assoc,exists_eq_left',D.int.injEq,true_and]
   intro d hd
   have s6:=s5.lay (o:=.lst []) hd
   have nad:=Step.ne s5.box hd
   have hdG:=s5.back hd
   have npd:=gne gp5 hd
   have gp6:=Bz (u:=.lst []) gp5 hd
   have gd6:Ad G5 d (.lst []) d=some (.lst []):=Aa
   generalize Ad G5 d (.lst [])=G6 at *
   refine⟨by omega,by omega,?_⟩
   refine Bw (fun j σ G'=>∃(col:List Int) (v9 v10:Option D),σ=[some (.ref a),some (.int wide),some (.int high),some (.int (2+r1)),some (.int (1+r2)),some (.int r3),some (.ref p),some (.int i),some (.ref d),v9,v10]∧
    col.length=j∧(∀x∈col,0≤x∧x≤9)∧Step a G G'∧G' p=some (.lst (cols.map Av))∧G' d=some (.lst (col.map D.int))) ⟨[],_,_,rfl,rfl,by simp,s6,gp6,gd6⟩ ?_ ?_
   ·rintro j σ G7 hj ⟨col,v9,v10,rfl,hcl2,hco2,s7,gp7,gd7⟩
    simp only[As,B2,Cd,nOp,F4,Ai,nC,Ba,Aq,List.set_cons_succ,List.set_cons_zero,List.getElem?_cons_zero,Option.some.injEq,A1,List.length_cons,List.length_nil,Nat.zero_add,Nat.reduceAdd,sz4,dIx,Wp,By,List.getElem?_cons_succ,dEq,eqS,D.bl.injEq,exists_eq_left',true_and,Cg,D.int.injEq,Kt,T5]
    refine Bh s7.box (by decide) (by decide) fun t1 G8 t1l t1h s8=>?_
    have gp8:=s8.get nap gp7
    have gd8:=s8.get nad gd7
    have s8:=s7.trans s8
    rw[B5]
    intro q1 hq1
    have s9:=s8.lay (o:=.lst [.int 9,.int 5,.int 3,.int (1+t1)]) hq1
    have n9:=Step.ne s8.box hq1
    have gp9:=Bz (u:=.lst [.int 9,.int 5,.int 3,.int (1+t1)]) gp8 hq1
    have gd9:=Bz (u:=.lst [.int 9,.int 5,.int 3,.int (1+t1)]) gd8 hq1
    have gq9:Ad G8 q1 (.lst [.int 9,.int 5,.int 3,.int (1+t1)]) q1=some (.lst [.int 9,.int 5,.int 3,.int (1+t1)]):=Aa
    generalize Ad G8 q1 (.lst [.int 9,.int 5,.int 3,.int (1+t1)])=G9 at *
    refine Bh s9.box (by decide) (by decide) fun t2 G10 t2l t2h s10=>?_
    have gp10:=s10.get nap gp9
    have gd10:=s10.get nad gd9
    have gq10:=s10.get n9 gq9
    have s10:=s9.trans s10
    obtain⟨d1,hd1,hm1⟩:=Ej (xs:=[D.int 9,.int 5,.int 3,.int (1+t1)]) t2l (by simpa using t2h)
    obtain⟨x1,rfl,hx1⟩:∃x,d1=.int x∧0≤x∧x≤9:=by
     simp only[List.mem_cons,List.not_mem_nil,or_false] at hm1
     rcases hm1 with rfl|rfl|rfl|rfl<;>exact⟨_,rfl,by omega,by omega⟩
    refine⟨t2,rfl,.int x1,(Ci gq10).trans hd1,?_⟩
    refine⟨fun σ G'=>∃x,σ=[some (.ref a),some (.int wide),some (.int high),some (.int (2+r1)),some (.int (1+r2)),some (.int r3),some (.ref p),some (.int i),some (.ref d),some (.int j),some (.int x)]∧0≤x∧x≤9∧Step a G G'∧G' p=some (.lst (cols.map Av))∧G' d=some (.lst (col.map D.int)),fun q2 hq2=>?_,?_⟩
    ·obtain⟨d2,hd2,hm2⟩:=Ej (xs:=[D.int 9,.int 4,.int 30,.int 2]) r3l (by simpa using r3h)
     obtain⟨x2,rfl,hx2⟩:∃x,d2=.int x∧0<x∧x≤30:=by
      simp only[List.mem_cons,List.not_mem_nil,or_false] at hm2
      rcases hm2 with rfl|rfl|rfl|rfl<;>exact⟨_,rfl,by omega,by omega⟩
     refine⟨_,(Ci Aa).trans hd2,?_⟩
     have s11:=s10.lay (o:=.lst [.int 9,.int 4,.int 30,.int 2]) hq2
     have gp11:=Bz (u:=.lst [.int 9,.int 4,.int 30,.int 2]) gp10 hq2
     have gd11:=Bz (u:=.lst [.int 9,.int 4,.int 30,.int 2]) gd10 hq2
     generalize Ad G10 q2 (.lst [.int 9,.int 4,.int 30,.int 2])=G11 at *
     refine Bh s11.box (by omega) (by omega) fun t3 G12 t3l t3h s12=>?_
     have gp12:=s12.get nap gp11
     have gd12:=s12.get nad gd11
     have s12:=s11.trans s12
     refine⟨_,rfl,?_⟩
     by_cases hz:t3=0
     ·refine it0 (by simpa using hz) fun q3 hq3=>?_
      have s13:=s12.lay (o:=.lst [.int 0,.int 0,.int 1,.int 2]) hq3
      have n13:=Step.ne s12.box hq3
      have gp13:=Bz (u:=.lst [.int 0,.int 0,.int 1,.int 2]) gp12 hq3
      have gd13:=Bz (u:=.lst [.int 0,.int 0,.int 1,.int 2]) gd12 hq3
      have gq13:Ad G12 q3 (.lst [.int 0,.int 0,.int 1,.int 2]) q3=some (.lst [.int 0,.int 0,.int 1,.int 2]):=Aa
      generalize Ad G12 q3 (.lst [.int 0,.int 0,.int 1,.int 2])=G13 at *
      refine Bh s13.box (by decide) (by decide) fun t4 G14 t4l t4h s14=>?_
      obtain⟨d3,hd3,hm3⟩:=Ej (xs:=[D.int 0,.int 0,.int 1,.int 2]) t4l (by simpa using t4h)
      obtain⟨x3,rfl,hx3⟩:∃x,d3=.int x∧0≤x∧x≤9:=by
       simp only[List.mem_cons,List.not_mem_nil,or_false] at hm3
       rcases hm3 with rfl|rfl|rfl|rfl<;>exact⟨_,rfl,by omega,by omega⟩
      exact⟨t4,rfl,_,(Ci (s14.get n13 gq13)).trans hd3,Fs.of ⟨x3,rfl,hx3.1,hx3.2,s13.trans s14,s14.get nap gp13,s14.get nad gd13⟩⟩
     ·exact it1 (by simpa using hz) (Fs.of ⟨x1,rfl,hx1.1,hx1.2,s12,gp12,gd12⟩)
    ·rintro σ' G15 ⟨x,rfl,hx0,hx9,s15,gp15,gd15⟩
     simp only[List.getElem?_cons_succ,List.getElem?_cons_zero,Option.some.injEq,exists_eq_left',D.ref.injEq,gd15,GO.lst.injEq]
     refine⟨⟨_,rfl⟩,by rw[List.length_map];exact szm (by omega),Fs.of ?_⟩
     refine⟨col++[x],_,_,rfl,by simp[hcl2],fun y hy=>?_,s15.write hdG nad,by rw[Ao npd];exact gp15,by rw[Aa,List.map_append];rfl⟩
     rcases List.mem_append.mp hy with hy|hy
     ·exact hco2 y hy
     ·rw[List.mem_singleton] at hy;subst hy;exact⟨hx0,hx9⟩
   ·rintro σ G7 ⟨col,v9,v10,rfl,hcl2,hco2,s7,gp7,gd7⟩
    simp only[Kt,T5,Aq,List.getElem?_cons_succ,List.getElem?_cons_zero,Option.some.injEq,nCB,Ai,A1,List.cons.injEq,and_true,exists_eq_left',Ax gd7,D.ref.injEq,gp7,GO.lst.injEq]
    refine⟨⟨_,rfl⟩,by rw[List.length_map];exact szm (by omega),Fs.of ?_⟩
    refine⟨cols++[col],_,_,_,_,rfl,by simp[hcl],fun c hc=>?_,s7.write hpG nap,by rw[Aa,List.map_append];rfl⟩
    rcases List.mem_append.mp hc with hc|hc
    ·exact hco c hc
    ·rw[List.mem_singleton] at hc;subst hc;exact⟨hcl2,hco2⟩
  ·rintro σ G5 ⟨cols,v7,v8,v9,v10,rfl,hcl,hco,s5,gp5⟩
   simp only[B3,nCB,Ai,Aq,List.getElem?_cons_succ,List.getElem?_cons_zero,Option.some.injEq,A1,List.cons.injEq,and_true,exists_eq_left',Ax gp5]
   exact Fq.of (k cols (1+r2).toNat G5 ⟨by omega,by omega,hco⟩ s5)
abbrev s_L_cell_of:Stmt:=top 33
abbrev Ml:List Str:=["_law_box_here", "_law_sea_here"]
abbrev p_L_cell_of:List Str:=["_law_box_here", "_law_sea_here"]
theorem Ka:FnScope Ml p_L_cell_of (Ag s_L_cell_of):=⟨rfl,rfl,rfl,by decide +kernel,rfl,by decide +kernel,by decide +kernel⟩
def spCellOf:DSp:=fun ds G Q _=>∃a s h,ds=[.ref a,A8 s]∧Eh (G a)∧SeaOk s h∧∀c G',InS s h c→Step a G G'→Q (Ae c) G'
theorem Pw{f:Addr}{fd:FuncData}(F:Fun K "_law_cell_of" "_law_cell_of" s_L_cell_of f fd)(T:Blt mg)(Aax:Def P w K mg base CX0 2 "_law_take" p_L_take spTake):FnOk P w K mg base CX0 3 f fd p_L_cell_of (Ak K spCellOf):=by
 refine okD F Ka (fun ds G Q E h=>?_) (fun cdv A outer s H XE ds G Q E hr h=>?_)
 ·obtain⟨_,_,_,rfl,_⟩:=h;rfl
 ·obtain⟨a,s,h,rfl,hb,ok,k⟩:=h
  refine⟨_,(@qss_one _ _ _ (@qs_ret _ _ _ _ (@q_tup _ _ _ _ _ (@qa_consP _ _ _ _ _ (@q_call _ _ _ _ _ _ _ _ noX _ _ _ Aax (hr.mono (by decide)) (@passN _ _) (@qa_consP _ _ _ _ _ (@q_v1 _ _ 0 _ (by exact⟨rfl,rfl,rfl,rfl⟩)) (@qa_consP _ _ _ _ _ (@q_callB _ _ _ _ _ _ _ _ _ (@c_len _) (T.blt (by decide)) (by decide +kernel) (@qa_consP _ _ _ _ _ (@q_v1 _ _ 1 _ (by exact⟨rfl,rfl,rfl,rfl⟩)) (@qa_nil _) (by rfl)) (by rfl) (by decide) (by decide) (by rfl) (by rfl)) (@qa_nil _) (by rfl)) (by rfl)) (by rfl) (by decide) (by rfl) (by rfl)) (@qa_consP _ _ _ _ _ (@q_call _ _ _ _ _ _ _ _ noX _ _ _ Aax (hr.mono (by decide)) (@passN _ _) (@qa_consP _ _ _ _ _ (@q_v1 _ _ 0 _ (by exact⟨rfl,rfl,rfl,rfl⟩)) (@qa_consP _ _ _ _ _ (@q_callB _ _ _ _ _ _ _ _ _ (@c_len _) (T.blt (by decide)) (by decide +kernel) (@qa_consP _ _ _ _ _ (@q_ix _ _ _ _ _ _ (@q_v1 _ _ 1 _ (by exact⟨rfl,rfl,rfl,rfl⟩)) (@q_int _ _ _ _) (by intro _ _ ;rfl)) (@qa_nil _) (by rfl)) (by rfl) (by decide) (by decide) (by rfl) (by rfl)) (@qa_nil _) (by rfl)) (by rfl)) (by rfl) (by decide) (by rfl) (by rfl)) (@qa_nil _) (by rfl)) (by rfl))))),?_⟩
  obtain⟨a0,hl⟩:=ok.head
  have hw:=ok.wide
  have hh:=ok.high
  have sz2:=sz2
  unfold A8
  simp only[B3,Jd,Ai,Ba,Aq,An,List.map_cons,List.map_nil,List.length_cons,List.length_nil,Nat.zero_add,Nat.reduceAdd,Nat.reduceSub,List.replicate,List.cons_append,List.nil_append,List.getElem?_cons_zero,Option.some.injEq,nCB,List.getElem?_cons_succ,A1,List.cons.injEq,and_true,nOp,nC,dIx,D.int.injEq,sz2,true_and,exists_eq_left',Es,a0,Av,F2,List.length_map]
  refine Bh hb (by omega) (by omega) fun r1 G1 r1l r1h s1=>?_
  rw[hl]
  refine Bh s1.box (by omega) (by omega) fun r2 G2 r2l r2h s2=>?_
  exact Fq.of (k (r1,r2) G2 ⟨r1l,r1h,r2l,r2h⟩ (s1.trans s2))
end
end K2
set_option maxRecDepth 100000
set_option maxHeartbeats 4000000
namespace K2
open PySem L2 D3
theorem mem_wats{s:List (List Int)}{h:Nat}{x y:Cl}:x∈Cm s h y↔x∈beside y∧wat s h x=true:=List.mem_filter
theorem D5{x y:Cl}:x∈beside y↔(x.1=y.1-1∧x.2=y.2)∨(x.1=y.1∧x.2=y.2-1)∨(x.1=y.1∧x.2=y.2+1)∨(x.1=y.1+1∧x.2=y.2):=by
 unfold beside
 simp only[List.mem_cons,List.not_mem_nil,or_false,Prod.ext_iff]
theorem Mh{x y:Cl}(h:x∈beside y):y∈beside x:=by
 rw[D5] at h ⊢;omega
theorem Ball.self{s:List (List Int)}{h:Nat}{c:Cl}:∀{n:Nat},Ball s h c n c
 |0=>rfl
 |n+1=>.inl Ball.self
theorem Ball.wat{s:List (List Int)}{h:Nat}{c:Cl}(w:wat s h c=true):∀{n:Nat} {x:Cl},Ball s h c n x→wat s h x=true
 |0,_,e=>by cases e;exact w
 |_+1,_,.inl e=>Ball.wat w e
 |_+1,_,.inr ⟨_,_,hx⟩=>(mem_wats.mp hx).2
theorem Ball.comp{s:List (List Int)}{h:Nat}{c y:Cl}{n:Nat}(a:Ball s h c n y):∀{m:Nat} {x:Cl},Ball s h y m x→Ball s h c (n+m) x
 |0,_,e=>by cases e;exact a
 |_+1,_,.inl e=>.inl (Ball.comp a e)
 |_+1,_,.inr ⟨z,hz,hx⟩=>.inr ⟨z,Ball.comp a hz,hx⟩
theorem Ball.split{s:List (List Int)}{h:Nat}{c:Cl}{n:Nat}:∀{m:Nat} {x:Cl},Ball s h c (n+m) x→∃y,Ball s h c n y∧Ball s h y m x
 |0,x,e=>⟨x,e,rfl⟩
 |_+1,_,.inl e=>let ⟨y,a,b⟩:=Ball.split e;⟨y,a,.inl b⟩
 |_+1,_,.inr ⟨z,hz,hx⟩=>let ⟨y,a,b⟩:=Ball.split hz;⟨y,a,.inr ⟨z,b,hx⟩⟩
theorem Ball.symm{s:List (List Int)}{h:Nat}{c:Cl}(w:K2.wat s h c=true):∀{n:Nat} {x:Cl},Ball s h c n x→Ball s h x n c
 |0,_,e=>by cases e;exact rfl
 |_+1,_,.inl e=>.inl (Ball.symm w e)
 |n+1,x,.inr ⟨y,hy,hx⟩=>by
  have hw:=Ball.wat w hy
  have h1:Ball s h x 1 y:=.inr ⟨x,rfl,mem_wats.mpr ⟨Mh (mem_wats.mp hx).1,hw⟩⟩
  have:=Ball.comp h1 (Ball.symm w hy)
  rwa [Nat.add_comm] at this
theorem Ball.mono{s s':List (List Int)}{h:Nat}{c:Cl}(m:∀x,K2.wat s h x=true→K2.wat s' h x=true):∀{n:Nat} {x:Cl},Ball s h c n x→Ball s' h c n x
 |0,_,e=>e
 |_+1,_,.inl e=>.inl (Ball.mono m e)
 |_+1,_,.inr ⟨y,hy,hx⟩=>.inr ⟨y,Ball.mono m hy,mem_wats.mpr ⟨(mem_wats.mp hx).1,m _ (mem_wats.mp hx).2⟩⟩
theorem Ball.turn{s s':List (List Int)}{h:Nat}{c:Cl}{f:Cl→Cl}(hb:∀x y,x∈beside y→f x∈beside (f y))(hw:∀x,K2.wat s h x=true→K2.wat s' h (f x)=true):∀{n:Nat} {x:Cl},Ball s h c n x→Ball s' h (f c) n (f x)
 |0,_,e=>by cases e;exact rfl
 |_+1,_,.inl e=>.inl (Ball.turn hb hw e)
 |_+1,_,.inr ⟨y,hy,hx⟩=>.inr ⟨f y,Ball.turn hb hw hy,mem_wats.mpr ⟨hb _ _ (mem_wats.mp hx).1,hw _ (mem_wats.mp hx).2⟩⟩
theorem Drift.self{s:List (List Int)}{h:Nat}{c:Cl}{n:Nat}:Drift s h c n c:=by
 unfold Drift;split
 ·exact Ball.self
 ·rfl
theorem Drift.zero{s:List (List Int)}{h:Nat}{c x:Cl}:Drift s h c 0 x↔x=c:=by
 unfold Drift;split<;>exact Iff.rfl
theorem Drift.up{s:List (List Int)}{h:Nat}{c x:Cl}{n:Nat}(d:Drift s h c n x):Drift s h c (n+1) x:=by
 unfold Drift at *;split<;>rename_i hw
 ·rw[if_pos hw] at d;exact .inl d
 ·rw[if_neg hw] at d;exact d
theorem Drift.both{s:List (List Int)}{h:Nat}{c x:Cl}{n m:Nat}:Drift s h c (n+m) x↔∃y,Drift s h c n y∧Drift s h y m x:=by
 by_cases hw:wat s h c=true
 ·have e:∀{k z},Drift s h c k z↔Ball s h c k z:=fun {k z}=>by unfold Drift;rw[if_pos hw]
  rw[e]
  constructor
  ·intro b
   obtain⟨y,a,b⟩:=Ball.split b
   refine⟨y,e.mpr a,?_⟩
   unfold Drift;rw[if_pos (Ball.wat hw a)];exact b
  ·rintro⟨y,a,b⟩
   have a:=e.mp a
   unfold Drift at b;rw[if_pos (Ball.wat hw a)] at b
   exact Ball.comp a b
 ·have e:∀{k z},Drift s h c k z↔z=c:=fun {k z}=>by unfold Drift;rw[if_neg hw]
  rw[e]
  constructor
  ·rintro rfl;exact⟨x,e.mpr rfl,e.mpr rfl⟩
  ·rintro⟨y,a,b⟩
   have a:=e.mp a
   subst a;exact e.mp b
theorem Drift.symm{s:List (List Int)}{h:Nat}{c x:Cl}{n:Nat}(d:Drift s h c n x):Drift s h x n c:=by
 by_cases hw:wat s h c=true
 ·unfold Drift at d;rw[if_pos hw] at d
  unfold Drift;rw[if_pos (Ball.wat hw d)]
  exact Ball.symm hw d
 ·unfold Drift at d;rw[if_neg hw] at d
  subst d;exact Drift.self
theorem Drift.water{s:List (List Int)}{h:Nat}{c x:Cl}{n:Nat}(d:Drift s h c n x)(hx:x≠c):wat s h x=true:=by
 unfold Drift at d;split at d
 ·rename_i hw;exact Ball.wat hw d
 ·exact absurd d hx
theorem Drift.same{s s':List (List Int)}{h:Nat}{c x:Cl}{n:Nat}(e:∀x,wat s h x=wat s' h x):Drift s h c n x↔Drift s' h c n x:=by
 unfold Drift
 rw[e c]
 split
 ·exact⟨Ball.mono fun x hx=>by rw[←e];exact hx,Ball.mono fun x hx=>by rw[e];exact hx⟩
 ·exact Iff.rfl
theorem Drift.less{s s':List (List Int)}{h:Nat}{c x:Cl}{n:Nat}(m:∀x,wat s' h x=true→wat s h x=true)(hc:wat s h c=true→wat s' h c=true)(d:Drift s' h c n x):Drift s h c n x:=by
 by_cases hw:wat s' h c=true
 ·unfold Drift at d;rw[if_pos hw] at d
  unfold Drift;rw[if_pos (m c hw)]
  exact Ball.mono m d
 ·unfold Drift at d;rw[if_neg hw] at d
  unfold Drift;rw[if_neg fun z=>hw (hc z)];exact d
theorem Drift.turn{s s':List (List Int)}{h:Nat}{c x:Cl}{n:Nat}{f:Cl→Cl}(ff:∀x,f (f x)=x)(hb:∀x y,x∈beside y→f x∈beside (f y))(hw:∀x,wat s' h (f x)=wat s h x):Drift s' h (f c) n (f x)↔Drift s h c n x:=by
 have hw':∀x,wat s h (f x)=wat s' h x:=fun x=>by rw[←hw,ff]
 unfold Drift
 rw[hw]
 split
 ·constructor
  ·intro b
   have:=Ball.turn hb (fun x hx=>by rw[hw'];exact hx) b
   rw[ff,ff] at this;exact this
  ·exact Ball.turn hb fun x hx=>by rw[hw];exact hx
 ·constructor
  ·intro e
   have:=congrArg f e
   rw[ff,ff] at this;exact this
  ·intro e;rw[e]
theorem Co{s:List (List Int)}{x y:Nat}:Be s x y=((s[x]?.getD [])[y]?).getD 0:=by unfold Be;rw[List.getD_eq_getElem?_getD,List.getD_eq_getElem?_getD]
theorem SeaOk.rev{s:List (List Int)}{h:Nat}(ok:SeaOk s h):SeaOk s.reverse h:=⟨by rw[List.length_reverse];exact ok.wide,ok.high,fun c hc=>ok.col c (List.mem_reverse.mp hc)⟩
theorem SeaOk.revs{s:List (List Int)}{h:Nat}(ok:SeaOk s h):SeaOk (s.map List.reverse) h:=⟨by rw[List.length_map];exact ok.wide,ok.high,fun c hc=>by
 obtain⟨d,hd,rfl⟩:=List.mem_map.mp hc
 obtain⟨h1,h2⟩:=ok.col d hd
 exact⟨by rw[List.length_reverse];exact h1,fun x hx=>h2 x (List.mem_reverse.mp hx)⟩⟩
def Cu(d:Int):Int:=if d+(if 0<d then 1 else 0)<9 then d+(if 0<d then 1 else 0) else 9
theorem Ln{d:Int}(h:0≤d∧d≤9):(0≤Cu d∧Cu d≤9)∧(Cu d=0↔d=0):=by
 unfold Cu
 by_cases h0:0<d
 ·rw[if_pos h0];split<;>omega
 ·rw[if_neg h0];split<;>omega
theorem SeaOk.deep{s:List (List Int)}{h:Nat}(ok:SeaOk s h):SeaOk (s.map fun c=>c.map Cu) h:=⟨by rw[List.length_map];exact ok.wide,ok.high,fun c hc=>by
 obtain⟨d,hd,rfl⟩:=List.mem_map.mp hc
 obtain⟨h1,h2⟩:=ok.col d hd
 exact⟨by rw[List.length_map];exact h1,fun x hx=>by obtain⟨y,hy,rfl⟩:=List.mem_map.mp hx;exact(Ln (h2 y hy)).1⟩⟩
def O4(s:List (List Int))(x y:Nat)(d:Int):List (List Int):=s.take x++[(s.getD x []).take y++[d]++(s.getD x []).drop (y+1)]++s.drop (x+1)
theorem K0{α:Type}{l:List α}{i:Nat}{a:α}(h:i<l.length):l.take i++[a]++l.drop (i+1)=l.set i a:=by
 rw[List.set_eq_take_append_cons_drop,if_pos h,List.append_assoc];rfl
theorem Ge{s:List (List Int)}{x y:Nat}{d:Int}(hx:x<s.length)(hy:y<(s.getD x []).length):O4 s x y d=s.set x ((s.getD x []).set y d):=by
 unfold O4;rw[K0 hy,K0 hx]
theorem SeaOk.put{s:List (List Int)}{h:Nat}(ok:SeaOk s h){x y:Nat}(hx:x<s.length)(hy:y<h):SeaOk (O4 s x y 0) h:=by
 obtain⟨c1,c2⟩:=ok.colD hx
 rw[Ge hx (by rw[c1];exact hy)]
 refine⟨by rw[List.length_set];exact ok.wide,ok.high,fun c hc=>?_⟩
 rcases List.mem_or_eq_of_mem_set hc with hc|rfl
 ·exact ok.col c hc
 ·refine⟨by rw[List.length_set];exact c1,fun z hz=>?_⟩
  rcases List.mem_or_eq_of_mem_set hz with hz|rfl
  ·exact c2 z hz
  ·decide
theorem wat_iff{s:List (List Int)}{h:Nat}{c:Cl}:wat s h c=true↔InS s h c∧O5 s c≠0:=by
 unfold wat;simp only[Bool.and_eq_true,decide_eq_true_eq]
theorem N0{s:List (List Int)}{h:Nat}(ok:SeaOk s h){x y:Nat}(hx:x<s.length)(hy:y<h){c:Cl}:wat (O4 s x y 0) h c=true↔wat s h c=true∧c≠((x:Int),(y:Int)):=by
 obtain⟨c1,c2⟩:=ok.colD hx
 have hy':y<(s.getD x []).length:=by rw[c1];exact hy
 rw[wat_iff,wat_iff,Ge hx hy']
 have hin:InS (s.set x ((s.getD x []).set y 0)) h c↔InS s h c:=by unfold InS;rw[List.length_set]
 rw[hin,and_assoc]
 refine and_congr_right fun hi=>?_
 obtain⟨u,v,rfl,hu,hv⟩:=hi.nat
 show Be _ u v≠0↔Be s u v≠0∧_
 rw[Co,Co,List.getElem?_set]
 by_cases e:x=u
 ·subst e
  rw[if_pos rfl,if_pos hx]
  show((((s.getD x []).set y 0))[v]?).getD 0≠0↔((s[x]?.getD [])[v]?).getD 0≠0∧_
  rw[←List.getD_eq_getElem?_getD (l:=s),List.getElem?_set]
  by_cases e2:y=v
  ·subst e2
   rw[if_pos rfl,if_pos hy']
   simp
  ·rw[if_neg e2]
   refine⟨fun z=>⟨z,fun q=>e2 ?_⟩,fun z=>z.1⟩
   have:=congrArg Prod.snd q
   simp only at this;omega
 ·rw[if_neg e]
  refine⟨fun z=>⟨z,fun q=>e ?_⟩,fun z=>z.1⟩
  have:=congrArg Prod.fst q
  simp only at this;omega
theorem R8{s:List (List Int)}{h:Nat}(ok:SeaOk s h)(c:Cl):wat (s.map fun c=>c.map Cu) h c=wat s h c:=by
 rw[Bool.eq_iff_iff,wat_iff,wat_iff]
 have hin:InS (s.map fun c=>c.map Cu) h c↔InS s h c:=by unfold InS;rw[List.length_map]
 rw[hin]
 refine and_congr_right fun hi=>?_
 obtain⟨u,v,rfl,hu,hv⟩:=hi.nat
 obtain⟨c1,c2⟩:=ok.colD hu
 have hv':v<(s.getD u []).length:=by rw[c1];exact hv
 show Be _ u v≠0↔Be s u v≠0
 rw[Co,Co,List.getElem?_map]
 rw[List.getD_eq_getElem?_getD] at hv' c2
 rw[List.getElem?_eq_getElem hu] at hv' c2 ⊢
 simp only[Option.map_some,Option.getD_some] at hv' c2 ⊢
 rw[List.getElem?_map,List.getElem?_eq_getElem hv']
 simp only[Option.map_some,Option.getD_some]
 have:=(Ln (c2 _ (List.getElem_mem hv'))).2
 rw[Ne,Ne,this]
def Cf(l:Int)(c:Cl):Cl:=(l-c.1,c.2)
def Ce(l:Int)(c:Cl):Cl:=(c.1,l-c.2)
theorem D4(l:Int)(c:Cl):Cf l (Cf l c)=c:=Prod.ext (by show l-(l-c.1)=c.1;omega) rfl
theorem D2(l:Int)(c:Cl):Ce l (Ce l c)=c:=Prod.ext rfl (by show l-(l-c.2)=c.2;omega)
theorem J4(l:Int)(x y:Cl)(h:x∈beside y):Cf l x∈beside (Cf l y):=by
 rw[D5] at h ⊢;unfold Cf;omega
theorem J3(l:Int)(x y:Cl)(h:x∈beside y):Ce l x∈beside (Ce l y):=by
 rw[D5] at h ⊢;unfold Ce;omega
theorem O8{s:List (List Int)}{h:Nat}(c:Cl):wat s.reverse h (Cf ((s.length:Int)-1) c)=wat s h c:=by
 rw[Bool.eq_iff_iff,wat_iff,wat_iff]
 have hin:InS s.reverse h (Cf ((s.length:Int)-1) c)↔InS s h c:=by unfold InS Cf;rw[List.length_reverse];omega
 rw[hin]
 refine and_congr_right fun hi=>?_
 obtain⟨u,v,rfl,hu,hv⟩:=hi.nat
 show Be _ ((s.length:Int)-1-(u:Int)).toNat v≠0↔Be s u v≠0
 rw[show((s.length:Int)-1-(u:Int)).toNat=s.length-1-u by omega,Co,Co,List.getElem?_reverse (by omega),show s.length-1-(s.length-1-u)=u by omega]
theorem O7{s:List (List Int)}{h:Nat}(ok:SeaOk s h)(c:Cl):wat (s.map List.reverse) h (Ce ((h:Int)-1) c)=wat s h c:=by
 rw[Bool.eq_iff_iff,wat_iff,wat_iff]
 have hin:InS (s.map List.reverse) h (Ce ((h:Int)-1) c)↔InS s h c:=by unfold InS Ce;rw[List.length_map];omega
 rw[hin]
 refine and_congr_right fun hi=>?_
 obtain⟨u,v,rfl,hu,hv⟩:=hi.nat
 obtain⟨c1,c2⟩:=ok.colD hu
 show Be _ u ((h:Int)-1-(v:Int)).toNat≠0↔Be s u v≠0
 rw[show((h:Int)-1-(v:Int)).toNat=h-1-v by omega,Co,Co,List.getElem?_map]
 rw[List.getD_eq_getElem?_getD] at c1
 rw[List.getElem?_eq_getElem hu] at c1 ⊢
 simp only[Option.map_some,Option.getD_some] at c1 ⊢
 rw[List.getElem?_reverse (by omega),show s[u].length-1-(h-1-v)=v by omega]
theorem Tm{s:List (List Int)}{h:Nat}{c:Cl}(hc:InS s h c):InS s.reverse h (Cf ((s.length:Int)-1) c):=by unfold InS Cf at *;rw[List.length_reverse];omega
theorem Tl{s:List (List Int)}{h:Nat}{c:Cl}(hc:InS s h c):InS (s.map List.reverse) h (Ce ((h:Int)-1) c):=by unfold InS Ce at *;rw[List.length_map];omega
theorem InS.box{s:List (List Int)}{h:Nat}(ok:SeaOk s h){c:Cl}(hc:InS s h c):Fj c:=by
 obtain⟨a,b,c',d⟩:=hc
 have:=ok.wide;have:=ok.high
 exact⟨a,by omega,c',by omega⟩
end K2
set_option maxRecDepth 100000
set_option maxHeartbeats 4000000
namespace K2
open PySem L2 D3
theorem Lo{xs:List D}{j:Nat}:Fm xs none (some (j:Int))=xs.take j:=by
 simp only[Fm,HT.sIx,if_neg (show ¬((j:Int)<0) by omega),List.drop_zero,Nat.sub_zero]
 by_cases h:j≤xs.length
 ·congr 1;omega
 ·rw[List.take_of_length_le (by omega),List.take_of_length_le (by omega)]
theorem Lp{xs:List D}{j:Nat}:Fm xs (some (j:Int)) none=xs.drop j:=by
 simp only[Fm,HT.sIx,if_neg (show ¬((j:Int)<0) by omega)]
 by_cases h:j≤xs.length
 ·rw[show min (j:Int).toNat xs.length=j by omega]
  exact List.take_of_length_le (by simp)
 ·rw[List.drop_of_length_le (by omega),List.drop_of_length_le (by omega),List.take_nil]
section
variable{P:Program}{w:World}{K:W.Frag}{mg:Str→Option Value}{base:Heap}
theorem W9{G:Gp}{s:List (List Int)}{c:Nat}{Q:DK}:B4 G (A8 s) none (some (c:Int)) Q=Q (A8 (s.take c)) G:=by
 show B4 G (.tup (s.map Av)) none (some (c:Int)) Q=_
 rw[Fv,Lo,←List.map_take];rfl
theorem Xa{G:Gp}{s:List Int}{c:Nat}{Q:DK}:B4 G (Av s) none (some (c:Int)) Q=Q (Av (s.take c)) G:=by
 show B4 G (.tup (s.map D.int)) none (some (c:Int)) Q=_
 rw[Fv,Lo,←List.map_take];rfl
theorem W6{G:Gp}{s:List (List Int)}{c:Nat}{Q:DK}:B4 G (A8 s) (some ((c:Int)+1)) none Q=Q (A8 (s.drop (c+1))) G:=by
 show B4 G (.tup (s.map Av)) (some (((c+1:Nat):Int))) none Q=_
 rw[Fv,Lp,←List.map_drop];rfl
theorem W7{G:Gp}{s:List Int}{c:Nat}{Q:DK}:B4 G (Av s) (some ((c:Int)+1)) none Q=Q (Av (s.drop (c+1))) G:=by
 show B4 G (.tup (s.map D.int)) (some (((c+1:Nat):Int))) none Q=_
 rw[Fv,Lp,←List.map_drop];rfl
theorem O0{a b:List Int}{G:Gp}{Q:DK}:Kq (Av a) (Av b) G Q=(a.length+b.length≤sizeLine∧Q (Av (a++b)) G):=by
 show Kq (.tup (a.map D.int)) (.tup (b.map D.int)) G Q=_
 rw[R7,List.length_map,List.length_map,←List.map_append];rfl
theorem Oz{a b:List (List Int)}{G:Gp}{Q:DK}:Kq (A8 a) (A8 b) G Q=(a.length+b.length≤sizeLine∧Q (A8 (a++b)) G):=by
 show Kq (.tup (a.map Av)) (.tup (b.map Av)) G Q=_
 rw[R7,List.length_map,List.length_map,←List.map_append];rfl
theorem T4{n:Nat}(h:n≤1000):n≤sizeLine:=by rw[sizeLine_eq];omega
abbrev s_L_put:Stmt:=top 34
abbrev Vw:List Str:=["_law_sea_here", "_law_column", "_law_row", "_law_depth", "_law_changed"]
abbrev p_L_put:List Str:=["_law_sea_here", "_law_column", "_law_row", "_law_depth"]
theorem sc_L_put:FnScope Vw p_L_put (Ag s_L_put):=⟨rfl,rfl,rfl,by decide +kernel,rfl,by decide +kernel,by decide +kernel⟩
def spPut:DSp:=fun ds G Q _=>∃s h x y,ds=[A8 s,.int ((x:Nat):Int),.int ((y:Nat):Int),.int 0]∧SeaOk s h∧x<s.length∧y<h∧Q (A8 (O4 s x y 0)) G
theorem X7{f:Addr}{fd:FuncData}(F:Fun K "_law_put" "_law_put" s_L_put f fd)(T:Blt mg):FnOk P w K mg base CX0 1 f fd p_L_put (Ak K spPut):=by
 refine okD F sc_L_put (fun ds G Q E h=>?_) (fun cdv A outer s H XE ds G Q E hr h=>?_)
 ·obtain⟨_,_,_,_,rfl,_⟩:=h;rfl
 ·obtain⟨s,h,x,y,rfl,ok,hx,hy,k⟩:=h
  refine⟨_,(@qss_cons _ _ _ _ _ (@qs_set _ _ _ _ 4 _ _ sc_L_put.nd (@q_op _ _ _ _ _ _ _ _ (@o_addD _) (@q_op _ _ _ _ _ _ _ _ (@o_addD _) (@Fz _ _ _ _ _ _ _ _ _ (@q_ix _ _ _ _ _ _ (@q_v1 _ _ 0 _ (by exact⟨rfl,rfl,rfl,rfl⟩)) (@q_v1 _ _ 1 _ (by exact⟨rfl,rfl,rfl,rfl⟩)) (by intro _ _ ;rfl)) (@Fy _) (@Fx _ _ _ (@q_v1 _ _ 2 _ (by exact⟨rfl,rfl,rfl,rfl⟩)))) (@q_tup _ _ _ _ _ (@qa_consP _ _ _ _ _ (@q_v1 _ _ 3 _ (by exact⟨rfl,rfl,rfl,rfl⟩)) (@qa_nil _) (by rfl)))) (@Fz _ _ _ _ _ _ _ _ _ (@q_ix _ _ _ _ _ _ (@q_v1 _ _ 0 _ (by exact⟨rfl,rfl,rfl,rfl⟩)) (@q_v1 _ _ 1 _ (by exact⟨rfl,rfl,rfl,rfl⟩)) (by intro _ _ ;rfl)) (@Fx _ _ _ (@q_op _ _ _ _ _ _ _ _ (@o_addD _) (@q_v1 _ _ 2 _ (by exact⟨rfl,rfl,rfl,rfl⟩)) (@q_int _ _ _ _))) (@Fy _))) (by rfl) (by exact .inl rfl) (by rfl) (by exact .inl rfl)) (@qss_one _ _ _ (@qs_ret _ _ _ _ (@q_op _ _ _ _ _ _ _ _ (@o_addD _) (@q_op _ _ _ _ _ _ _ _ (@o_addD _) (@Fz _ _ _ _ _ _ _ _ _ (@q_v1 _ _ 0 _ (by exact⟨rfl,rfl,rfl,rfl⟩)) (@Fy _) (@Fx _ _ _ (@q_v1 _ _ 1 _ (by exact⟨rfl,rfl,rfl,rfl⟩)))) (@q_tup _ _ _ _ _ (@qa_consP _ _ _ _ _ (@q_v1 _ _ 4 _ (by exact⟨rfl,rfl,rfl,rfl⟩)) (@qa_nil _) (by rfl)))) (@Fz _ _ _ _ _ _ _ _ _ (@q_v1 _ _ 0 _ (by exact⟨rfl,rfl,rfl,rfl⟩)) (@Fx _ _ _ (@q_op _ _ _ _ _ _ _ _ (@o_addD _) (@q_v1 _ _ 1 _ (by exact⟨rfl,rfl,rfl,rfl⟩)) (@q_int _ _ _ _))) (@Fy _)))))),?_⟩
  obtain⟨e1,e2,e3,e4⟩:=Rh ok (o:=((x:Int),(y:Int))) ⟨by omega,by show(x:Int)<_;omega,by omega,by show(y:Int)<_;omega⟩
  have sz1:1≤sizeLine:=szl (by decide)
  simp only[B2,Cd,nOp,nSl,Aq,An,List.map_cons,List.map_nil,List.length_cons,List.length_nil,Nat.zero_add,Nat.reduceAdd,Nat.reduceSub,List.replicate,List.cons_append,List.nil_append,List.getElem?_cons_zero,Option.some.injEq,List.getElem?_cons_succ,dIx,Od,V6,Jd,Ai,A1,sz1,nC,As,B3,List.set_cons_succ,List.set_cons_zero,exists_eq_left',B5,D.int.injEq,W6,true_and,W9,Gj,e1,W7,Xa]
  rw[show(D.tup [D.int 0])=Av [0] from rfl,O0,Int.toNat_natCast]
  obtain⟨c1,c2⟩:=ok.colD hx
  have hh:=ok.high
  have hw:=ok.wide
  refine⟨T4 (by rw[List.length_take,List.length_singleton];omega),?_⟩
  rw[O0]
  refine⟨T4 (by rw[List.length_append,List.length_take,List.length_drop,List.length_singleton];omega),?_⟩
  rw[show ∀c,(D.tup [Av c])=A8 [c] from fun _=>rfl,Oz]
  refine⟨T4 (by rw[List.length_take,List.length_singleton];omega),?_⟩
  rw[Oz]
  refine⟨T4 (by rw[List.length_append,List.length_take,List.length_drop,List.length_singleton];omega),?_⟩
  exact Fq.of k
theorem S9{rs:List Cl}{c x:Cl}:x∈Jb rs c↔x∈rs∨x=c:=by
 unfold Jb
 by_cases h:c∈rs
 ·rw[if_pos h]
  exact⟨.inl,fun z=>z.elim id fun e=>e ▸ h⟩
 ·rw[if_neg h,List.mem_append,List.mem_singleton]
theorem Ut{rs:List Cl}(nd:rs.Nodup)(o:Cl):(Jb rs o).Nodup:=by
 unfold Jb
 split
 ·exact nd
 ·rename_i h
  rw[List.nodup_append]
  refine⟨nd,by simp,fun x hx y hy e=>?_⟩
  rw[List.mem_singleton] at hy
  subst hy;subst e;exact h hx
abbrev s_L_joined:Stmt:=top 35
abbrev Nq:List Str:=["_law_sea_here", "_law_cells", "_law_days", "_law_found", "_law_cell", "_law_other"]
abbrev p_L_joined:List Str:=["_law_sea_here", "_law_cells", "_law_days"]
theorem sc_L_joined:FnScope Nq p_L_joined (Ag s_L_joined):=⟨rfl,rfl,rfl,by decide +kernel,rfl,by decide +kernel,by decide +kernel⟩
def spJoined:DSp:=fun ds G Q _=>∃s h cs days,ds=[A8 s,.tup ((cs:List Cl).map Ae),.int days]∧SeaOk s h∧(∀c∈cs,InS s h c)∧cs.length≤144∧0≤days∧days≤400∧∀ms:List Cl,ms.Pairwise Bf→(∀x,x∈ms↔∃c∈cs,Drift s h c days.toNat x)→Q (.tup (ms.map Ae)) G
theorem Pt{f:Addr}{fd:FuncData}(F:Fun K "_law_joined" "_law_joined" s_L_joined f fd)(T:Nums mg)(Aay:Def P w K mg base CX0 6 "drift" p_drift spDrift):FnOk P w K mg base CX0 7 f fd p_L_joined (Ak K spJoined):=by
 refine okD F sc_L_joined (fun ds G Q E h=>?_) (fun cdv A outer s H XE ds G Q E hr h=>?_)
 ·obtain⟨_,_,_,_,rfl,_⟩:=h;rfl
 ·obtain⟨s,h,cs,days,rfl,ok,hin,hlen,d0,d1,k⟩:=h
  refine⟨_,(@qss_cons _ _ _ _ _ (@qs_set _ _ _ _ 3 _ _ sc_L_joined.nd (@Uo _ _) (by rfl) (by exact .inl rfl) (by rfl) (by exact .inl rfl)) (@qss_cons _ _ _ _ _ (@Jl _ _ _ _ _ _ _ _ PassesOwn.never rfl (@q_v1 _ _ 1 _ (by exact⟨rfl,rfl,rfl,rfl⟩)) (@qg_name _ _ 4 _ sc_L_joined.nd (by rfl) (by exact .inl rfl) (by exact .inl rfl)) (@qss_one _ _ _ (@Jl _ _ _ _ _ _ _ _ PassesOwn.never rfl (@q_call _ _ _ _ _ _ _ _ noX _ _ _ Aay (hr.mono (by decide)) (@passN _ _) (@qa_consP _ _ _ _ _ (@q_v1 _ _ 0 _ (by exact⟨rfl,rfl,rfl,rfl⟩)) (@qa_consP _ _ _ _ _ (@q_v1 _ _ 4 _ (by exact⟨rfl,rfl,rfl,rfl⟩)) (@qa_consP _ _ _ _ _ (@q_v1 _ _ 2 _ (by exact⟨rfl,rfl,rfl,rfl⟩)) (@qa_nil _) (by rfl)) (by rfl)) (by rfl)) (by rfl) (by decide) (by rfl) (by rfl)) (@qg_name _ _ 5 _ sc_L_joined.nd (by rfl) (by exact .inl rfl) (by exact .inl rfl)) (@qss_one _ _ _ (@qs_asg _ _ _ _ _ _ (@q_bl _ _ _ _) (@F8 _ _ _ _ _ _ _ (@q_v1 _ _ 3 _ (by exact⟨rfl,rfl,rfl,rfl⟩)) (@q_v1 _ _ 5 _ (by exact⟨rfl,rfl,rfl,rfl⟩)) (@N5 _ _ hr) (by intro _ ;rfl)) (by rfl) (by rfl) (by rfl))) (by intro _ ;rfl))) (by intro _ ;rfl)) (@qss_one _ _ _ (@qs_ret _ _ _ _ (@q_callTy _ _ _ _ _ _ _ _ _ (@c_tuple _) (T.blt (by decide)) (by decide +kernel) (@qa_consP _ _ _ _ _ (@q_callB _ _ _ _ _ _ _ _ _ (@Iu _ rfl) (T.blt (by decide)) (by decide +kernel) (@qa_consP _ _ _ _ _ (@q_v1 _ _ 3 _ (by exact⟨rfl,rfl,rfl,rfl⟩)) (@qa_nil _) (by rfl)) (by rfl) (by decide) (by decide) (by rfl) (by rfl)) (@qa_nil _) (by rfl)) (by rfl) (by decide) (by decide) (by rfl) (by rfl)))))),?_⟩
  simp only[B2,Cd,Rv,As,Qx,Aq,An,List.map_cons,List.map_nil,List.length_cons,List.length_nil,Nat.zero_add,Nat.reduceAdd,Nat.reduceSub,List.replicate,List.cons_append,List.nil_append,List.set_cons_succ,List.set_cons_zero,List.getElem?_cons_succ,List.getElem?_cons_zero,Option.some.injEq,exists_eq_left',Er]
  intro p hp
  refine Dr (fun i σ G'=>∃(rs:List Cl) (v4 v5:Option D),σ=[some (A8 s),some (.tup (cs.map Ae)),some (.int days),some (.ref p),v4,v5]∧Sub G G'∧G' p=some (Bt rs)∧rs.Nodup∧∀x,x∈rs↔∃c∈cs.take i,Drift s h c days.toNat x)
   ⟨[],none,none,rfl,Sub.new hp,Aa,List.nodup_nil,fun x=>by simp⟩ (fun _ _ _ _ _=>trivial) ?_ ?_
  ·rintro i x σ G1 hx ⟨rs,v4,v5,rfl,sb,gp,nd,hm⟩
   obtain⟨c,hc,rfl⟩:=Ds hx
   have hcm:c∈cs:=List.mem_of_getElem? hc
   simp only[As,Qx,Ba,Ai,Aq,List.set_cons_succ,List.set_cons_zero,List.getElem?_cons_zero,Option.some.injEq,List.getElem?_cons_succ,A1,exists_eq_left']
   refine⟨s,h,c,days,rfl,ok,hin c hcm,d0,d1,fun ms hp2 hm2=>?_⟩
   have hin2:∀x∈ms,InS s h x:=fun x hx=>Drift.inS (hin c hcm) ((hm2 x).mp hx)
   have hinR:∀x∈rs,InS s h x:=fun x hx=>by obtain⟨c',hc',hd⟩:=(hm x).mp hx;exact Drift.inS (hin c' (List.mem_of_mem_take hc')) hd
   simp only[Er,Option.some.injEq,exists_eq_left']
   refine Dr (fun j σ G'=>∃(rs':List Cl) (v5:Option D),σ=[some (A8 s),some (.tup (cs.map Ae)),some (.int days),some (.ref p),some (Ae c),v5]∧Sub G G'∧G' p=some (Bt rs')∧rs'.Nodup∧∀x,x∈rs'↔x∈rs∨x∈ms.take j)
    ⟨rs,_,rfl,sb,gp,nd,fun x=>by simp⟩ (fun _ _ _ _ _=>trivial) ?_ ?_
   ·rintro j y σ G2 hy ⟨rs',v5,rfl,sb2,gp2,nd2,hm3⟩
    obtain⟨o,ho,rfl⟩:=Ds hy
    have h144:rs'.length≤144:=Cc ok nd2 fun x hx=>by
     rcases(hm3 x).mp hx with h|h
     ·exact hinR x h
     ·exact hin2 x (List.mem_of_mem_take h)
    simp only[As,Cd,nC,Qz,Aq,List.set_cons_succ,List.set_cons_zero,List.getElem?_cons_succ,List.getElem?_cons_zero,Option.some.injEq,Rb,Bt,exists_eq_left',D6,D.ref.injEq,gp2]
    refine⟨_,rfl,by rw[List.length_map];exact szm (by omega),?_⟩
    rw[Ic]
    refine Fs.of ⟨Jb rs' o,_,rfl,Sub.over sb2 hp _,Aa,Ut nd2 o,fun x=>?_⟩
    rw[S9,hm3,List.take_add_one,ho,Option.toList_some,List.mem_append,List.mem_singleton,or_assoc]
   ·rintro σ G2 ⟨rs',v5,rfl,sb2,gp2,nd2,hm3⟩
    rw[List.length_map,List.take_length] at hm3
    refine⟨_,Sub.refl _,rs',_,_,rfl,sb2,gp2,nd2,fun x=>?_⟩
    rw[hm3,hm,hm2,List.take_add_one,hc,Option.toList_some]
    simp only[List.mem_append,List.mem_singleton,or_and_right,exists_or,exists_eq_left]
  ·rintro σ G1 ⟨rs,v4,v5,rfl,sb,gp,nd,hm⟩
   rw[List.length_map,List.take_length] at hm
   have hinR:∀x∈rs,InS s h x:=fun x hx=>by obtain⟨c',hc',hd⟩:=(hm x).mp hx;exact Drift.inS (hin c' hc') hd
   have h144:rs.length≤144:=Cc ok nd hinR
   simp only[B3,nCB,Ai,Aq,List.getElem?_cons_succ,List.getElem?_cons_zero,Option.some.injEq,A1,List.cons.injEq,and_true,exists_eq_left',D.ref.injEq]
   refine⟨rs.map fun x=>(x,D.bl true),by rw[gp,List.map_map];rfl,by rw[List.length_map];omega,fun k hk=>?_,fun l ms hl hm2 hpw=>?_⟩
   ·obtain⟨x,hx,rfl⟩:=List.mem_map.mp hk
    obtain⟨_,_,a3,a4⟩:=hinR x hx
    have:=ok.high
    exact⟨a3,by show x.2<1000;omega⟩
   ·have e1:(rs.map fun x=>(x,D.bl true)).map (·.1)=rs:=by rw[List.map_map];exact List.map_id _
    rw[e1] at hm2
    exact⟨_,Ax Aa,G,sb.trans (Sub.new hl),k ms hpw fun x=>by rw[hm2.mem_iff,hm]⟩
end
end K2
set_option maxRecDepth 100000
set_option maxHeartbeats 4000000
namespace K2
open PySem L2 D3
section
variable{P:Program}{w:World}{K:W.Frag}{mg:Str→Option Value}{base:Heap}
theorem Bi{n:Nat}{p:Addr}{ds:List D}{same:Gp→Prop}{g:DTG}{tf:DTT}{te:DTE}{σ:DSt}{G:Gp}{Q:DK}(f:D→D)(c:D→Bool)(hz:ds.length<sizeLine)(hsm:∀ys,same (Ad G p (.lst ys)))(hs:∀x ys,x∈ds→ys.length<sizeLine→∀(R1:D→Gp→Prop) (R2:Gp→Prop),(c x=true→R1 (f x) (Ad G p (.lst (ys++[f x]))))→(c x=false→R2 (Ad G p (.lst ys)))→
   g x (List.replicate n none++σ) (Ad G p (.lst ys)) fun σ2 G2=>Wi n σ σ2∧tf σ2 G2 fun b G3=>if b=true then te σ2 G3 fun y G4=>G4 p=some (.lst ys)∧ys.length<sizeLine∧Fg (R1 y) (Ad G4 p (.lst (ys++[y]))) else Fg R2 G3)(hq:Q (.ref p) (Ad G p (.lst ((ds.filter c).map f)))):Ny n p ds same g tf te σ (Ad G p (.lst [])) Q:=by
 refine⟨fun i ys G'=>ys=((ds.take i).filter c).map f∧Ad G p (.lst ys)=G',⟨rfl,rfl⟩,?_,?_,?_⟩
 ·rintro i ys _ _ ⟨_,rfl⟩
  exact⟨hsm ys,Aa⟩
 ·rintro i x ys _ hx ⟨e,rfl⟩
  have hi:=(List.getElem?_eq_some_iff.mp hx).1
  have hl:ys.length<sizeLine:=by
   rw[e,List.length_map]
   refine Nat.lt_of_le_of_lt (List.length_filter_le _ _) ?_
   rw[List.length_take];omega
  have tk:ds.take (i+1)=ds.take i++[x]:=by rw[List.take_add_one,hx];rfl
  refine hs x ys (List.mem_of_getElem? hx) hl (fun y G'=>ys++[y]=((ds.take (i+1)).filter c).map f∧Ad G p (.lst (ys++[y]))=G') (fun G'=>ys=((ds.take (i+1)).filter c).map f∧Ad G p (.lst ys)=G') (fun hc=>⟨?_,rfl⟩) (fun hc=>⟨?_,rfl⟩)
  ·rw[tk,List.filter_append,List.map_append,←e];simp[hc]
  ·rw[tk,List.filter_append,List.map_append,←e];simp[hc]
 ·rintro ys _ ⟨e,rfl⟩
  rw[List.take_length] at e
  rw[e];exact hq
theorem Ii{f:Cl→Cl}{l:List Cl}:((l.map Ae).filter fun _=>true).map (fun d=>Ae (f (O6 d)))=(l.map f).map Ae:=by
 rw[Cj,List.map_map,List.map_map];rfl
theorem Pz{G:Gp}{p q:Addr}{a b:List Cl}{Q:DK}(hp:G p=some (.lst (a.map Ae)))(hq:G q=some (.lst (b.map Ae)))(h:Q (.bl (decide (a=b))) G):Y9 (.ref p) (.ref q) G Q:=
 ⟨_,_,.lst hp B8,.lst hq B8,by rw[PyData.canLay0];exact Bn a,by rw[PyData.canLay0];exact Bn b,by rw[PyData.depth,PyData.depth];have:=Du a;omega,by rw[PyData.eqv,Dt];exact h⟩
theorem Ug{G:Gp}{s:List (List Int)}{Q:DK}:Ja G (A8 s) Q=Q (A8 s.reverse) G:=by
 show Ja G (.tup (s.map Av)) Q=_
 rw[V1,←List.map_reverse];rfl
theorem Ui{G:Gp}{s:List Int}{Q:DK}:Ja G (Av s) Q=Q (Av s.reverse) G:=by
 show Ja G (.tup (s.map D.int)) Q=_
 rw[V1,←List.map_reverse];rfl
theorem N2{s s':List (List Int)}{h n:Nat}{c:Cl}{f:Cl→Cl}(ff:∀x,f (f x)=x)(hD:∀x,Drift s' h (f c) n (f x)↔Drift s h c n x){ms ms1 ms2:List Cl}(hm:∀x,x∈ms↔Drift s h c n x)(pm:ms1.Perm (ms.map f))(pw:ms1.Pairwise Bf)(hp2:ms2.Pairwise Bf)(hm2:∀x,x∈ms2↔Drift s' h (f c) n x):ms2=ms1:=
 E5 hp2 pw fun x=>by
  have e:=hD (f x)
  rw[ff] at e
  rw[hm2,pm.mem_iff,e,←hm,List.mem_map]
  exact⟨fun h=>⟨f x,h,ff x⟩,fun⟨y,hy,e⟩=>by rw[←e,ff];exact hy⟩
theorem Oc{f:Cl→Cl}(ff:∀x,f (f x)=x){ms:List Cl}(nd:ms.Nodup):(ms.map f).Nodup:=F9 nd fun x _ y _ e=>by rw[←ff x,←ff y,e]
def Mt:D→D
 |.tup ds=>.tup ds.reverse
 |d=>d
theorem Gx{c:List Int}:Mt (Av c)=Av c.reverse:=by
 show D.tup (c.map D.int).reverse=.tup (c.reverse.map D.int)
 rw[List.map_reverse]
abbrev s_L_about_right:Stmt:=top 36
abbrev Ft:List Str:=["_law_sea_here", "_law_cell", "_law_days", "_law_last", "_law_low", "_law_column", "_law_row", "_law_found", "_law_due", "_law_turned_sea"]
abbrev A3:List Str:=["_law_sea_here", "_law_cell", "_law_days"]
theorem sc_L_about_right:FnScope Ft A3 (Ag s_L_about_right):=⟨rfl,rfl,rfl,by decide +kernel,rfl,by decide +kernel,by decide +kernel⟩
theorem nd_L_about_right_1:((["_law_one", "_law_other"]:List Str)++(["_law_sea_here", "_law_cell", "_law_days", "_law_last", "_law_low", "_law_column", "_law_row", "_law_found", "_law_due", "_law_turned_sea"]:List Str)).Nodup:=by decide +kernel
theorem nd_L_about_right_2:((["_law_depths"]:List Str)++(["_law_sea_here", "_law_cell", "_law_days", "_law_last", "_law_low", "_law_column", "_law_row", "_law_found", "_law_due", "_law_turned_sea"]:List Str)).Nodup:=by decide +kernel
theorem Ck:((["_law_one", "_law_other"]:List Str)++(["_law_sea_here", "_law_cell", "_law_days", "_law_last", "_law_low", "_law_column", "_law_row", "_law_found", "_law_due", "_law_turned_sea"]:List Str)).Nodup:=by decide +kernel
def Fu:DSp:=fun ds G Q _=>∃s h c days,ds=[A8 s,Ae c,.int days]∧SeaOk s h∧InS s h c∧0≤days∧days≤400∧Q (.bl true) G
theorem S4{f:Addr}{fd:FuncData}(F:Fun K "_law_about_right" "_law_about_right" s_L_about_right f fd)(T:Nums mg)(Aay:Def P w K mg base CX0 6 "drift" p_drift spDrift):FnOk P w K mg base CX0 7 f fd A3 (Ak K Fu):=by
 refine okD F sc_L_about_right (fun ds G Q E h=>?_) (fun cdv A outer s H XE ds G Q E hr h=>?_)
 ·obtain⟨_,_,_,_,rfl,_⟩:=h;rfl
 ·obtain⟨s,h,c,days,rfl,ok,hc,d0,d1,k⟩:=h
  refine⟨_,(@qss_cons _ _ _ _ _ (@qs_asg _ _ _ _ _ _ (@q_tup _ _ _ _ _ (@qa_consP _ _ _ _ _ (@q_op _ _ _ _ _ _ _ _ (@o_sub _) (@q_callB _ _ _ _ _ _ _ _ _ (@c_len _) (T.blt (by decide)) (by decide +kernel) (@qa_consP _ _ _ _ _ (@q_v1 _ _ 0 _ (by exact⟨rfl,rfl,rfl,rfl⟩)) (@qa_nil _) (by rfl)) (by rfl) (by decide) (by decide) (by rfl) (by rfl)) (@q_int _ _ _ _)) (@qa_consP _ _ _ _ _ (@q_op _ _ _ _ _ _ _ _ (@o_sub _) (@q_callB _ _ _ _ _ _ _ _ _ (@c_len _) (T.blt (by decide)) (by decide +kernel) (@qa_consP _ _ _ _ _ (@q_ix _ _ _ _ _ _ (@q_v1 _ _ 0 _ (by exact⟨rfl,rfl,rfl,rfl⟩)) (@q_int _ _ _ _) (by intro _ _ ;rfl)) (@qa_nil _) (by rfl)) (by rfl) (by decide) (by decide) (by rfl) (by rfl)) (@q_int _ _ _ _)) (@qa_nil _) (by rfl)) (by rfl))) (@qg_tup _ _ _ _ _ 2 rfl (@qgs_cons _ _ _ _ _ (@qg_name _ _ 3 _ sc_L_about_right.nd (by rfl) (by exact .inr rfl) (by exact .inl rfl)) (@qgs_cons _ _ _ _ _ (@qg_name _ _ 4 _ sc_L_about_right.nd (by rfl) (by exact .inr rfl) (by exact .inl rfl)) (@qgs_nil _) (by rfl)) (by rfl)) (by rfl) (by rfl)) (by rfl) (by rfl) (by rfl)) (@qss_cons _ _ _ _ _ (@qs_asg _ _ _ _ _ _ (@q_v1 _ _ 1 _ (by exact⟨rfl,rfl,rfl,rfl⟩)) (@qg_tup _ _ _ _ _ 2 rfl (@qgs_cons _ _ _ _ _ (@qg_name _ _ 5 _ sc_L_about_right.nd (by rfl) (by exact .inl rfl) (by exact .inl rfl)) (@qgs_cons _ _ _ _ _ (@qg_name _ _ 6 _ sc_L_about_right.nd (by rfl) (by exact .inl rfl) (by exact .inl rfl)) (@qgs_nil _) (by rfl)) (by rfl)) (by rfl) (by rfl)) (by rfl) (by rfl) (by rfl)) (@qss_cons _ _ _ _ _ (@qs_set _ _ _ _ 7 _ _ sc_L_about_right.nd (@q_call _ _ _ _ _ _ _ _ noX _ _ _ Aay (hr.mono (by decide)) (@passN _ _) (@qa_consP _ _ _ _ _ (@q_v1 _ _ 0 _ (by exact⟨rfl,rfl,rfl,rfl⟩)) (@qa_consP _ _ _ _ _ (@q_v1 _ _ 1 _ (by exact⟨rfl,rfl,rfl,rfl⟩)) (@qa_consP _ _ _ _ _ (@q_v1 _ _ 2 _ (by exact⟨rfl,rfl,rfl,rfl⟩)) (@qa_nil _) (by rfl)) (by rfl)) (by rfl)) (by rfl) (by decide) (by rfl) (by rfl)) (by rfl) (by exact .inl rfl) (by rfl) (by exact .inl rfl)) (@qss_cons _ _ _ _ _ (@qs_set _ _ _ _ 8 _ _ sc_L_about_right.nd (@q_callB _ _ _ _ _ _ _ _ _ (@c_sortedC _) (T.blt (by decide)) (by decide +kernel) (@qa_consP _ _ _ _ _ (@q_compz _ _ _ _ _ _ _ _ _ _ _ ["_law_one", "_law_other"] ["_law_sea_here", "_law_cell", "_law_days", "_law_last", "_law_low", "_law_column", "_law_row", "_law_found", "_law_due", "_law_turned_sea"] rfl (@compOz _ _ _ _ (by rfl) (by rfl) (by rfl) (by rfl) (by rfl)) (@q_v1 _ _ 7 _ (by exact⟨rfl,rfl,rfl,rfl⟩)) (fun _ _ _=>(@qg_tup _ _ _ _ _ 2 rfl (@qgs_cons _ _ _ _ _ (@qg_name _ _ 0 _ nd_L_about_right_1 (by rfl) (by exact .inl rfl) (by exact .inr rfl)) (@qgs_cons _ _ _ _ _ (@qg_name _ _ 1 _ nd_L_about_right_1 (by rfl) (by exact .inl rfl) (by exact .inr rfl)) (@qgs_nil _) (by rfl)) (by rfl)) (by rfl) (by rfl))) (fun _ _ _=>(@qf_nil _)) (fun _ _ _=>(@q_tup _ _ _ _ _ (@qa_consP _ _ _ _ _ (@q_op _ _ _ _ _ _ _ _ (@o_sub _) (@q_v2 _ _ 5 _ (by exact⟨rfl,rfl,rfl,rfl⟩)) (@q_v1 _ _ 0 _ (by exact⟨rfl,rfl,rfl,rfl⟩))) (@qa_consP _ _ _ _ _ (@q_v1 _ _ 1 _ (by exact⟨rfl,rfl,rfl,rfl⟩)) (@qa_nil _) (by rfl)) (by rfl)))) (by intro _ ;rfl)) (@qa_nil _) (by rfl)) (by rfl) (by decide) (by decide) (by rfl) (by rfl)) (by rfl) (by exact .inl rfl) (by rfl) (by exact .inl rfl)) (@qss_cons _ _ _ _ _ (@qs_if _ _ _ _ _ _ _ _ (@qt_cmp _ _ _ _ _ _ _ _ (@o_neD _ _ hr) (@q_callTy _ _ _ _ _ _ _ _ _ (@c_list _) (T.blt (by decide)) (by decide +kernel) (@qa_consP _ _ _ _ _ (@q_call _ _ _ _ _ _ _ _ noX _ _ _ Aay (hr.mono (by decide)) (@passN _ _) (@qa_consP _ _ _ _ _ (@q_rev _ _ _ _ _ _ _ (@q_v1 _ _ 0 _ (by exact⟨rfl,rfl,rfl,rfl⟩)) (@q_neg _ _ _ _ (@q_int _ _ _ _))) (@qa_consP _ _ _ _ _ (@q_tup _ _ _ _ _ (@qa_consP _ _ _ _ _ (@q_op _ _ _ _ _ _ _ _ (@o_sub _) (@q_v2 _ _ 3 _ (by exact⟨rfl,rfl,rfl,rfl⟩)) (@q_v1 _ _ 5 _ (by exact⟨rfl,rfl,rfl,rfl⟩))) (@qa_consP _ _ _ _ _ (@q_v1 _ _ 6 _ (by exact⟨rfl,rfl,rfl,rfl⟩)) (@qa_nil _) (by rfl)) (by rfl))) (@qa_consP _ _ _ _ _ (@q_v1 _ _ 2 _ (by exact⟨rfl,rfl,rfl,rfl⟩)) (@qa_nil _) (by rfl)) (by rfl)) (by rfl)) (by rfl) (by decide) (by rfl) (by rfl)) (@qa_nil _) (by rfl)) (by rfl) (by decide) (by decide) (by rfl) (by rfl)) (@q_v1 _ _ 8 _ (by exact⟨rfl,rfl,rfl,rfl⟩)) (nomark _)) (@qss_one _ _ _ (@qs_ret _ _ _ _ (@q_bl _ _ _ _))) (@qss_nil _)) (@qss_cons _ _ _ _ _ (@qs_set _ _ _ _ 9 _ _ sc_L_about_right.nd (@q_callTy _ _ _ _ _ _ _ _ _ (@c_tuple _) (T.blt (by decide)) (by decide +kernel) (@qa_consP _ _ _ _ _ (@q_compz _ _ _ _ _ _ _ _ _ _ _ ["_law_depths"] ["_law_sea_here", "_law_cell", "_law_days", "_law_last", "_law_low", "_law_column", "_law_row", "_law_found", "_law_due", "_law_turned_sea"] rfl (@compOz _ _ _ _ (by rfl) (by rfl) (by rfl) (by rfl) (by rfl)) (@q_v1 _ _ 0 _ (by exact⟨rfl,rfl,rfl,rfl⟩)) (fun _ _ _=>(@qg_name _ _ 0 _ nd_L_about_right_2 (by rfl) (by exact .inl rfl) (by exact .inr rfl))) (fun _ _ _=>(@qf_nil _)) (fun _ _ _=>(@q_rev _ _ _ _ _ _ _ (@q_v1 _ _ 0 _ (by exact⟨rfl,rfl,rfl,rfl⟩)) (@q_neg _ _ _ _ (@q_int _ _ _ _)))) (by intro _ ;rfl)) (@qa_nil _) (by rfl)) (by rfl) (by decide) (by decide) (by rfl) (by rfl)) (by rfl) (by exact .inl rfl) (by rfl) (by exact .inl rfl)) (@qss_cons _ _ _ _ _ (@qs_set _ _ _ _ 8 _ _ sc_L_about_right.nd (@q_callB _ _ _ _ _ _ _ _ _ (@c_sortedC _) (T.blt (by decide)) (by decide +kernel) (@qa_consP _ _ _ _ _ (@q_compz _ _ _ _ _ _ _ _ _ _ _ ["_law_one", "_law_other"] ["_law_sea_here", "_law_cell", "_law_days", "_law_last", "_law_low", "_law_column", "_law_row", "_law_found", "_law_due", "_law_turned_sea"] rfl (@compOz _ _ _ _ (by rfl) (by rfl) (by rfl) (by rfl) (by rfl)) (@q_v1 _ _ 7 _ (by exact⟨rfl,rfl,rfl,rfl⟩)) (fun _ _ _=>(@qg_tup _ _ _ _ _ 2 rfl (@qgs_cons _ _ _ _ _ (@qg_name _ _ 0 _ Ck (by rfl) (by exact .inl rfl) (by exact .inr rfl)) (@qgs_cons _ _ _ _ _ (@qg_name _ _ 1 _ Ck (by rfl) (by exact .inl rfl) (by exact .inr rfl)) (@qgs_nil _) (by rfl)) (by rfl)) (by rfl) (by rfl))) (fun _ _ _=>(@qf_nil _)) (fun _ _ _=>(@q_tup _ _ _ _ _ (@qa_consP _ _ _ _ _ (@q_v1 _ _ 0 _ (by exact⟨rfl,rfl,rfl,rfl⟩)) (@qa_consP _ _ _ _ _ (@q_op _ _ _ _ _ _ _ _ (@o_sub _) (@q_v2 _ _ 6 _ (by exact⟨rfl,rfl,rfl,rfl⟩)) (@q_v1 _ _ 1 _ (by exact⟨rfl,rfl,rfl,rfl⟩))) (@qa_nil _) (by rfl)) (by rfl)))) (by intro _ ;rfl)) (@qa_nil _) (by rfl)) (by rfl) (by decide) (by decide) (by rfl) (by rfl)) (by rfl) (by exact .inl rfl) (by rfl) (by exact .inl rfl)) (@qss_one _ _ _ (@qs_ret _ _ _ _ (@q_cmp _ _ _ _ _ _ _ _ (@Zv _ _ hr) (@q_callTy _ _ _ _ _ _ _ _ _ (@c_list _) (T.blt (by decide)) (by decide +kernel) (@qa_consP _ _ _ _ _ (@q_call _ _ _ _ _ _ _ _ noX _ _ _ Aay (hr.mono (by decide)) (@passN _ _) (@qa_consP _ _ _ _ _ (@q_v1 _ _ 9 _ (by exact⟨rfl,rfl,rfl,rfl⟩)) (@qa_consP _ _ _ _ _ (@q_tup _ _ _ _ _ (@qa_consP _ _ _ _ _ (@q_v1 _ _ 5 _ (by exact⟨rfl,rfl,rfl,rfl⟩)) (@qa_consP _ _ _ _ _ (@q_op _ _ _ _ _ _ _ _ (@o_sub _) (@q_v2 _ _ 4 _ (by exact⟨rfl,rfl,rfl,rfl⟩)) (@q_v1 _ _ 6 _ (by exact⟨rfl,rfl,rfl,rfl⟩))) (@qa_nil _) (by rfl)) (by rfl))) (@qa_consP _ _ _ _ _ (@q_v1 _ _ 2 _ (by exact⟨rfl,rfl,rfl,rfl⟩)) (@qa_nil _) (by rfl)) (by rfl)) (by rfl)) (by rfl) (by decide) (by rfl) (by rfl)) (@qa_nil _) (by rfl)) (by rfl) (by decide) (by decide) (by rfl) (by rfl)) (@q_v1 _ _ 8 _ (by exact⟨rfl,rfl,rfl,rfl⟩)) (nomark _))))))))))),?_⟩
  obtain⟨a0,hl⟩:=ok.head
  have sz2:=sz2
  simp only[B2,Cd,Jd,Ai,nOp,nCB,Aq,An,List.map_cons,List.map_nil,List.length_cons,List.length_nil,Nat.zero_add,Nat.reduceAdd,Nat.reduceSub,List.replicate,List.cons_append,List.nil_append,List.getElem?_cons_zero,Option.some.injEq,A1,List.cons.injEq,and_true,nC,dI0,D.int.injEq,dIx,sz2,Jf,D.tup.injEq,Eg,As,Jg,List.set_cons_succ,List.set_cons_zero,List.getElem?_cons_succ,Ba,D0,Eb,By,Wn,Wo,Int.reduceNeg,B3,Cg,exists_eq_left',true_and,and_assoc,exists_and_left,Gj,a0,Ve,hl,Vd]
  have hw:=ok.wide
  have hh:=ok.high
  refine⟨_,rfl,rfl,_,_,rfl,_,_,rfl,rfl,s,h,c,days,rfl,ok,hc,d0,d1,fun ms hp hm=>?_⟩
  have hin:∀x∈ms,InS s h x:=fun x hx=>Drift.inS hc ((hm x).mp hx)
  have h144:=Cc ok (Cb hp) hin
  refine⟨_,rfl,fun p1 hp1=>?_⟩
  have hz:(ms.map Ae).length<sizeLine:=by rw[List.length_map];exact szm (by omega)
  refine Bi (fun d=>Ae (Cf ((s.length:Int)-1) (O6 d))) (fun _=>true) hz (fun _=>rfl) (fun x ys hx' hl R1 R2 g1 _=>?_) ?_
  ·obtain⟨o,ho,rfl⟩:=List.mem_map.mp hx'
   simp only[Jf,Eg,As,Jg,List.replicate,List.cons_append,List.nil_append,List.set_cons_zero,List.set_cons_succ,Ef,Jd,Ai,nOp,Aq,List.getElem?_cons_succ,List.getElem?_cons_zero,Option.some.injEq,dI0,A1,List.length_cons,List.length_nil,Nat.zero_add,Nat.reduceAdd,sz2,Aa,Aw,true_and,exists_eq_left',D.int.injEq,if_true]
   exact⟨_,rfl,rfl,_,_,rfl,_,_,rfl,rfl,⟨[_,_],rfl,rfl⟩,_,rfl,hl,Fg.of (g1 rfl)⟩
  ·rw[Ii]
   refine⟨p1,rfl,_,Aa,by rw[List.length_map];omega,Oc (D4 _) (Cb hp),fun m hm'=>?_,fun l1 ms1 hl1 pm1 pw1=>?_⟩
   ·obtain⟨y,hy,rfl⟩:=List.mem_map.mp hm'
    obtain⟨_,_,a3,a4⟩:=hin y hy
    exact⟨a3,by show y.2<1000;omega⟩
   ·have sb2:Sub G (Ad (Ad G p1 (.lst ((ms.map (Cf ((s.length:Int)-1))).map Ae))) l1 (.lst (ms1.map Ae))):=(Sub.new hp1).trans (Sub.new hl1)
    have gl1:Ad (Ad G p1 (.lst ((ms.map (Cf ((s.length:Int)-1))).map Ae))) l1 (.lst (ms1.map Ae)) l1=some (.lst (ms1.map Ae)):=Aa
    generalize Ad (Ad G p1 (.lst ((ms.map (Cf ((s.length:Int)-1))).map Ae))) l1 (.lst (ms1.map Ae))=G2 at *
    rw[Ug]
    refine⟨_,rfl,s.reverse,h,Cf ((s.length:Int)-1) c,days,rfl,ok.rev,Tm hc,d0,d1,fun ms2 hp2 hm2=>?_⟩
    refine⟨_,rfl,fun p2 hp2'=>Ca Aa (Bz gl1 hp2') ?_⟩
    have e2:ms2=ms1:=N2 (D4 _) (fun x=>Drift.turn (D4 _) (J4 _) O8) hm pm1 pw1 hp2 hm2
    refine⟨_,rfl,it1 (by simp[e2]) ?_⟩
    have sb3:=sb2.trans (Sub.new (o:=.lst (ms2.map Ae)) hp2')
    generalize Ad G2 p2 (.lst (ms2.map Ae))=G3 at *
    refine⟨_,rfl,fun p3 hp3=>?_⟩
    have hz3:(s.map Av).length<sizeLine:=by rw[List.length_map];exact szm (by omega)
    refine Bi Mt (fun _=>true) hz3 (fun _=>rfl) (fun x ys hx' hl R1 R2 g1 _=>?_) ?_
    ·obtain⟨o,ho,rfl⟩:=List.mem_map.mp hx'
     simp only[As,List.replicate,List.cons_append,List.nil_append,List.set_cons_zero,Ef,Wn,Aq,List.getElem?_cons_zero,Option.some.injEq,Wo,nC,D.int.injEq,Int.reduceNeg,exists_eq_left',true_and,Ui,Aa,Aw,if_true]
     rw[Gx] at g1
     exact⟨⟨[_],rfl,rfl⟩,hl,Fg.of (g1 rfl)⟩
    ·have er:((s.map Av).filter fun _=>true).map Mt=(s.map List.reverse).map Av:=by
      rw[Cj,List.map_map,List.map_map]
      exact List.map_congr_left fun c _=>Gx
     rw[er]
     refine⟨_,Ax Aa,_,rfl,fun p4 hp4=>?_⟩
     have sb4:=sb3.trans (Sub.new (o:=.lst ((s.map List.reverse).map Av)) hp3)
     generalize Ad G3 p3 (.lst ((s.map List.reverse).map Av))=G4 at *
     refine Bi (fun d=>Ae (Ce ((h:Int)-1) (O6 d))) (fun _=>true) hz (fun _=>rfl) (fun x ys hx' hl R1 R2 g1 _=>?_) ?_
     ·obtain⟨o,ho,rfl⟩:=List.mem_map.mp hx'
      simp only[Jf,Eg,As,Jg,List.replicate,List.cons_append,List.nil_append,List.set_cons_zero,List.set_cons_succ,Ef,Jd,Ai,Aq,List.getElem?_cons_zero,Option.some.injEq,nOp,List.getElem?_cons_succ,dI0,A1,List.length_cons,List.length_nil,Nat.zero_add,Nat.reduceAdd,sz2,Aa,Aw,true_and,exists_eq_left',D.int.injEq,if_true]
      exact⟨_,rfl,rfl,_,_,rfl,_,_,rfl,rfl,⟨[_,_],rfl,rfl⟩,_,rfl,hl,Fg.of (g1 rfl)⟩
     ·rw[Ii]
      refine⟨p4,rfl,_,Aa,by rw[List.length_map];omega,Oc (D2 _) (Cb hp),fun m hm'=>?_,fun l5 ms5 hl5 pm5 pw5=>?_⟩
      ·obtain⟨y,hy,rfl⟩:=List.mem_map.mp hm'
       obtain⟨_,_,a3,a4⟩:=hin y hy
       exact⟨by show 0≤(h:Int)-1-y.2;omega,by show(h:Int)-1-y.2<1000;omega⟩
      ·have sb5:=sb4.trans ((Sub.new (o:=.lst ((ms.map (Ce ((h:Int)-1))).map Ae)) hp4).trans (Sub.new (o:=.lst (ms5.map Ae)) hl5))
       have gl5:Ad (Ad G4 p4 (.lst ((ms.map (Ce ((h:Int)-1))).map Ae))) l5 (.lst (ms5.map Ae)) l5=some (.lst (ms5.map Ae)):=Aa
       generalize Ad (Ad G4 p4 (.lst ((ms.map (Ce ((h:Int)-1))).map Ae))) l5 (.lst (ms5.map Ae))=G5 at *
       refine⟨_,rfl,s.map List.reverse,h,Ce ((h:Int)-1) c,days,rfl,ok.revs,Tl hc,d0,d1,fun ms6 hp6 hm6=>?_⟩
       refine⟨_,rfl,fun p6 hp6'=>Pz Aa (Bz gl5 hp6') ?_⟩
       have e6:ms6=ms5:=N2 (D2 _) (fun x=>Drift.turn (D2 _) (J3 _) (O7 ok)) hm pm5 pw5 hp6 hm6
       rw[decide_eq_true e6]
       exact⟨G,sb5.trans (Sub.new hp6'),k⟩
end
end K2
set_option maxRecDepth 100000
set_option maxHeartbeats 4000000
namespace K2
open PySem L2 D3
section
variable{P:Program}{w:World}{K:W.Frag}{mg:Str→Option Value}{base:Heap}
theorem Qt{ms:List Cl}{c:Cl}:((ms.map B6).any fun y=>PyData.eqv y (B6 c))=decide (c∈ms):=by
 rw[List.any_map,Bool.eq_iff_iff,List.any_eq_true,decide_eq_true_eq]
 simp only[Function.comp,Gq,decide_eq_true_eq]
 exact⟨fun⟨x,hx,e⟩=>e ▸ hx,fun h=>⟨c,h,rfl⟩⟩
theorem Js{G:Gp}{cs:List Cl}:RepD G (.tup (cs.map Ae)) (.tuple (cs.map B6)):=.tup B8
theorem Cr{G:Gp}{ms:List Cl}{c:Cl}{Q:DK}(h:Q (.bl (!decide (c∈ms))) G):Y8 true (Ae c) (.tup (ms.map Ae)) G Q:=
 ⟨_,_,En,.inr Js,Ep c,Bn ms,by rw[Gr];omega,by rw[Qt];exact h⟩
theorem Jw{G:Gp}{a b:List Cl}{Q:DK}(h:Q (.bl (!decide (a=b))) G):T6 (.tup (a.map Ae)) (.tup (b.map Ae)) G Q:=
 ⟨_,_,Js,Js,by rw[PyData.canLay0];exact Bn a,by rw[PyData.canLay0];exact Bn b,by rw[PyData.depth,PyData.depth];have:=Du a;omega,by rw[PyData.eqv,Dt];exact h⟩
theorem Ob{G:Gp}{a b:Cl}{Q:DK}(h:Q (.bl (!decide (a=b))) G):T6 (Ae a) (Ae b) G Q:=
 ⟨_,_,En,En,Ep a,Ep b,by rw[Gr];omega,by rw[Gq];exact h⟩
theorem Eu{α β:Type}{f:α→β}{l:List α}:(l.filter fun _=>false).map f=[]:=by simp
def Wr:D→Int
 |.int i=>i
 |_=>0
def Ra:D→D
 |.tup ds=>.tup (ds.map fun x=>.int (Cu (Wr x)))
 |d=>d
abbrev s_L_right:Stmt:=top 37
abbrev Qv:List Str:=["_law_box_here", "_law_sea_here", "_law_cell", "_law_days", "_law_found", "_law_more_here", "_law_deeper", "_law_column", "_law_row", "_law_shut"]
abbrev B9:List Str:=["_law_box_here", "_law_sea_here", "_law_cell", "_law_days"]
theorem sc_L_right:FnScope Qv B9 (Ag s_L_right):=⟨rfl,rfl,rfl,by decide +kernel,rfl,by decide +kernel,by decide +kernel⟩
theorem nd_L_right_1:((["_law_one"]:List Str)++(["_law_box_here", "_law_sea_here", "_law_cell", "_law_days", "_law_found", "_law_more_here", "_law_deeper", "_law_column", "_law_row", "_law_shut"]:List Str)).Nodup:=by decide +kernel
theorem nd_L_right_2:((["_law_one"]:List Str)++(["_law_box_here", "_law_sea_here", "_law_cell", "_law_days", "_law_found", "_law_more_here", "_law_deeper", "_law_column", "_law_row", "_law_shut"]:List Str)).Nodup:=by decide +kernel
theorem nd_L_right_3:((["_law_one"]:List Str)++(["_law_box_here", "_law_sea_here", "_law_cell", "_law_days", "_law_found", "_law_more_here", "_law_deeper", "_law_column", "_law_row", "_law_shut"]:List Str)).Nodup:=by decide +kernel
theorem nd_L_right_4:((["_law_depths"]:List Str)++(["_law_box_here", "_law_sea_here", "_law_cell", "_law_days", "_law_found", "_law_more_here", "_law_deeper", "_law_column", "_law_row", "_law_shut"]:List Str)).Nodup:=by decide +kernel
theorem nd_L_right_5:((["_law_depth"]:List Str)++(["_law_depths", "_law_box_here", "_law_sea_here", "_law_cell", "_law_days", "_law_found", "_law_more_here", "_law_deeper", "_law_column", "_law_row", "_law_shut"]:List Str)).Nodup:=by decide +kernel
theorem Kc:((["_law_one"]:List Str)++(["_law_box_here", "_law_sea_here", "_law_cell", "_law_days", "_law_found", "_law_more_here", "_law_deeper", "_law_column", "_law_row", "_law_shut"]:List Str)).Nodup:=by decide +kernel
def Jr:DSp:=fun ds G Q _=>∃a s h c days,ds=[.ref a,A8 s,Ae c,.int days]∧Eh (G a)∧SeaOk s h∧InS s h c∧0≤days∧days≤300∧∀G',Step a G G'→Q (.bl true) G'
theorem S1{f:Addr}{fd:FuncData}(F:Fun K "_law_right" "_law_right" s_L_right f fd)(T:Nums mg)(Aay:Def P w K mg base CX0 6 "drift" p_drift spDrift)(Aax:Def P w K mg base CX0 2 "_law_take" p_L_take spTake)(Abe:Def P w K mg base CX0 7 "_law_joined" p_L_joined spJoined)(Aa2:Def P w K mg base CX0 3 "_law_cell_of" p_L_cell_of spCellOf)(Abf:Def P w K mg base CX0 1 "_law_put" p_L_put spPut)(Abg:Def P w K mg base CX0 7 "_law_about_right" A3 Fu) :
  FnOk P w K mg base CX0 8 f fd B9 (Ak K Jr):=by
 refine okD F sc_L_right (fun ds G Q E h=>?_) (fun cdv A outer s H XE ds G Q E hr h=>?_)
 ·obtain⟨_,_,_,_,_,rfl,_⟩:=h;rfl
 ·obtain⟨a,s,h,c,days,rfl,hb,ok,hc,d0,d1,k⟩:=h
  refine⟨_,(@qss_cons _ _ _ _ _ (@qs_set _ _ _ _ 4 _ _ sc_L_right.nd (@q_call _ _ _ _ _ _ _ _ noX _ _ _ Aay (hr.mono (by decide)) (@passN _ _) (@qa_consP _ _ _ _ _ (@q_v2 _ _ 1 _ (by exact⟨rfl,rfl,rfl,rfl⟩)) (@qa_consP _ _ _ _ _ (@q_v2 _ _ 2 _ (by exact⟨rfl,rfl,rfl,rfl⟩)) (@qa_consP _ _ _ _ _ (@q_v2 _ _ 3 _ (by exact⟨rfl,rfl,rfl,rfl⟩)) (@qa_nil _) (by rfl)) (by rfl)) (by rfl)) (by rfl) (by decide) (by rfl) (by rfl)) (by rfl) (by exact .inr rfl) (by rfl) (by exact .inl rfl)) (@qss_cons _ _ _ _ _ (@qs_set _ _ _ _ 5 _ _ sc_L_right.nd (@q_call _ _ _ _ _ _ _ _ noX _ _ _ Aax (hr.mono (by decide)) (@passN _ _) (@qa_consP _ _ _ _ _ (@q_v1 _ _ 0 _ (by exact⟨rfl,rfl,rfl,rfl⟩)) (@qa_consP _ _ _ _ _ (@q_int _ _ _ _) (@qa_nil _) (by rfl)) (by rfl)) (by rfl) (by decide) (by rfl) (by rfl)) (by rfl) (by exact .inl rfl) (by rfl) (by exact .inl rfl)) (@qss_cons _ _ _ _ _ (@qs_if _ _ _ _ _ _ _ _ (@qt_of _ _ _ (@Ks _ _ _ _ _ _ _ (@qt_cmp _ _ _ _ _ _ _ _ (@o_notinD _ _ hr) (@q_v2 _ _ 2 _ (by exact⟨rfl,rfl,rfl,rfl⟩)) (@q_v2 _ _ 4 _ (by exact⟨rfl,rfl,rfl,rfl⟩)) (by with_unfolding_all rfl)) (@Ks _ _ _ _ _ _ _ (@qt_cmp _ _ _ _ _ _ _ _ (@o_neD _ _ hr) (@q_call _ _ _ _ _ _ _ _ noX _ _ _ Aay (hr.mono (by decide)) (@passN _ _) (@qa_consP _ _ _ _ _ (@q_v2 _ _ 1 _ (by exact⟨rfl,rfl,rfl,rfl⟩)) (@qa_consP _ _ _ _ _ (@q_v2 _ _ 2 _ (by exact⟨rfl,rfl,rfl,rfl⟩)) (@qa_consP _ _ _ _ _ (@q_int _ _ _ _) (@qa_nil _) (by rfl)) (by rfl)) (by rfl)) (by rfl) (by decide) (by rfl) (by rfl)) (@q_tup _ _ _ _ _ (@qa_consP _ _ _ _ _ (@q_v2 _ _ 2 _ (by exact⟨rfl,rfl,rfl,rfl⟩)) (@qa_nil _) (by rfl))) (nomark _)) (@qw_or1 _ _ _ _ (@qt_cmp _ _ _ _ _ _ _ _ (@o_neD _ _ hr) (@q_callTy _ _ _ _ _ _ _ _ _ (@c_list _) (T.blt (by decide)) (by decide +kernel) (@qa_consP _ _ _ _ _ (@q_v2 _ _ 4 _ (by exact⟨rfl,rfl,rfl,rfl⟩)) (@qa_nil _) (by rfl)) (by rfl) (by decide) (by decide) (by rfl) (by rfl)) (@M5 _ _ _ _ _ _ _ _ rfl hr (T.blt (by decide)) (T.blt (by decide)) (@q_v2 _ _ 4 _ (by exact⟨rfl,rfl,rfl,rfl⟩)) (by rfl) (by rfl) (by rfl) (by rfl)) (nomark _)))))) (@qss_one _ _ _ (@qs_ret _ _ _ _ (@q_bl _ _ _ _))) (@qss_nil _)) (@qss_cons _ _ _ _ _ (@qs_if _ _ _ _ _ _ _ _ (@qt_cmp _ _ _ _ _ _ _ _ (@o_neD _ _ hr) (@q_compz _ _ _ _ _ _ _ _ _ _ _ ["_law_one"] ["_law_box_here", "_law_sea_here", "_law_cell", "_law_days", "_law_found", "_law_more_here", "_law_deeper", "_law_column", "_law_row", "_law_shut"] rfl (@compOz _ _ _ _ (by rfl) (by rfl) (by rfl) (by rfl) (by rfl)) (@q_v2 _ _ 4 _ (by exact⟨rfl,rfl,rfl,rfl⟩)) (fun _ _ _=>(@qg_name _ _ 0 _ nd_L_right_1 (by rfl) (by exact .inl rfl) (by exact .inr rfl))) (fun _ _ _=>(@qf_one _ _ _ (@qt_cmp _ _ _ _ _ _ _ _ (@o_notinD _ _ hr) (@q_v1 _ _ 0 _ (by exact⟨rfl,rfl,rfl,rfl⟩)) (@q_call _ _ _ _ _ _ _ _ noX _ _ _ Aay (hr.mono (by decide)) (@passN _ _) (@qa_consP _ _ _ _ _ (@q_v2 _ _ 2 _ (by exact⟨rfl,rfl,rfl,rfl⟩)) (@qa_consP _ _ _ _ _ (@q_v2 _ _ 3 _ (by exact⟨rfl,rfl,rfl,rfl⟩)) (@qa_consP _ _ _ _ _ (@q_op _ _ _ _ _ _ _ _ (@o_addD _) (@q_v2 _ _ 4 _ (by exact⟨rfl,rfl,rfl,rfl⟩)) (@q_int _ _ _ _)) (@qa_nil _) (by rfl)) (by rfl)) (by rfl)) (by rfl) (by decide) (by rfl) (by rfl)) (by with_unfolding_all rfl)))) (fun _ _ _=>(@q_v1 _ _ 0 _ (by exact⟨rfl,rfl,rfl,rfl⟩))) (by intro _ ;rfl)) (@q_lst _ _ _ _ (@qa_nil _)) (nomark _)) (@qss_one _ _ _ (@qs_ret _ _ _ _ (@q_bl _ _ _ _))) (@qss_nil _)) (@qss_cons _ _ _ _ _ (@qs_if _ _ _ _ _ _ _ _ (@qt_cmp _ _ _ _ _ _ _ _ (@o_neD _ _ hr) (@q_call _ _ _ _ _ _ _ _ noX _ _ _ Aay (hr.mono (by decide)) (@passN _ _) (@qa_consP _ _ _ _ _ (@q_v2 _ _ 1 _ (by exact⟨rfl,rfl,rfl,rfl⟩)) (@qa_consP _ _ _ _ _ (@q_v2 _ _ 2 _ (by exact⟨rfl,rfl,rfl,rfl⟩)) (@qa_consP _ _ _ _ _ (@q_op _ _ _ _ _ _ _ _ (@o_addD _) (@q_v2 _ _ 3 _ (by exact⟨rfl,rfl,rfl,rfl⟩)) (@q_v1 _ _ 5 _ (by exact⟨rfl,rfl,rfl,rfl⟩))) (@qa_nil _) (by rfl)) (by rfl)) (by rfl)) (by rfl) (by decide) (by rfl) (by rfl)) (@q_call _ _ _ _ _ _ _ _ noX _ _ _ Abe (hr.mono (by decide)) (@passN _ _) (@qa_consP _ _ _ _ _ (@q_v2 _ _ 1 _ (by exact⟨rfl,rfl,rfl,rfl⟩)) (@qa_consP _ _ _ _ _ (@q_v2 _ _ 4 _ (by exact⟨rfl,rfl,rfl,rfl⟩)) (@qa_consP _ _ _ _ _ (@q_v1 _ _ 5 _ (by exact⟨rfl,rfl,rfl,rfl⟩)) (@qa_nil _) (by rfl)) (by rfl)) (by rfl)) (by rfl) (by decide) (by rfl) (by rfl)) (nomark _)) (@qss_one _ _ _ (@qs_ret _ _ _ _ (@q_bl _ _ _ _))) (@qss_nil _)) (@qss_cons _ _ _ _ _ (@qs_if _ _ _ _ _ _ _ _ (@qt_cmp _ _ _ _ _ _ _ _ (@o_neD _ _ hr) (@q_compz _ _ _ _ _ _ _ _ _ _ _ ["_law_one"] ["_law_box_here", "_law_sea_here", "_law_cell", "_law_days", "_law_found", "_law_more_here", "_law_deeper", "_law_column", "_law_row", "_law_shut"] rfl (@compOz _ _ _ _ (by rfl) (by rfl) (by rfl) (by rfl) (by rfl)) (@q_v2 _ _ 4 _ (by exact⟨rfl,rfl,rfl,rfl⟩)) (fun _ _ _=>(@qg_name _ _ 0 _ nd_L_right_2 (by rfl) (by exact .inl rfl) (by exact .inr rfl))) (fun _ _ _=>(@qf_one _ _ _ (@qt_of _ _ _ (@qw_and _ _ _ _ _ _ _ (@qt_cmp _ _ _ _ _ _ _ _ (@o_neD _ _ hr) (@q_v1 _ _ 0 _ (by exact⟨rfl,rfl,rfl,rfl⟩)) (@q_v2 _ _ 3 _ (by exact⟨rfl,rfl,rfl,rfl⟩)) (nomark _)) (@qw_and1 _ _ _ _ (@qt_cmp _ _ _ _ _ _ _ _ (@o_eq _) (@q_ix _ _ _ _ _ _ (@q_ix _ _ _ _ _ _ (@q_v2 _ _ 2 _ (by exact⟨rfl,rfl,rfl,rfl⟩)) (@q_ix _ _ _ _ _ _ (@q_v1 _ _ 0 _ (by exact⟨rfl,rfl,rfl,rfl⟩)) (@q_int _ _ _ _) (by intro _ _ ;rfl)) (by intro _ _ ;rfl)) (@q_ix _ _ _ _ _ _ (@q_v1 _ _ 0 _ (by exact⟨rfl,rfl,rfl,rfl⟩)) (@q_int _ _ _ _) (by intro _ _ ;rfl)) (by intro _ _ ;rfl)) (@q_int _ _ _ _) (nomark _))))))) (fun _ _ _=>(@q_v1 _ _ 0 _ (by exact⟨rfl,rfl,rfl,rfl⟩))) (by intro _ ;rfl)) (@q_lst _ _ _ _ (@qa_nil _)) (nomark _)) (@qss_one _ _ _ (@qs_ret _ _ _ _ (@q_bl _ _ _ _))) (@qss_nil _)) (@qss_cons _ _ _ _ _ (@qs_if _ _ _ _ _ _ _ _ (@qt_cmp _ _ _ _ _ _ _ _ (@o_neD _ _ hr) (@q_compz _ _ _ _ _ _ _ _ _ _ _ ["_law_one"] ["_law_box_here", "_law_sea_here", "_law_cell", "_law_days", "_law_found", "_law_more_here", "_law_deeper", "_law_column", "_law_row", "_law_shut"] rfl (@compOz _ _ _ _ (by rfl) (by rfl) (by rfl) (by rfl) (by rfl)) (@q_v2 _ _ 4 _ (by exact⟨rfl,rfl,rfl,rfl⟩)) (fun _ _ _=>(@qg_name _ _ 0 _ nd_L_right_3 (by rfl) (by exact .inl rfl) (by exact .inr rfl))) (fun _ _ _=>(@qf_one _ _ _ (@qt_cmp _ _ _ _ _ _ _ _ (@o_notinD _ _ hr) (@q_v2 _ _ 3 _ (by exact⟨rfl,rfl,rfl,rfl⟩)) (@q_call _ _ _ _ _ _ _ _ noX _ _ _ Aay (hr.mono (by decide)) (@passN _ _) (@qa_consP _ _ _ _ _ (@q_v2 _ _ 2 _ (by exact⟨rfl,rfl,rfl,rfl⟩)) (@qa_consP _ _ _ _ _ (@q_v1 _ _ 0 _ (by exact⟨rfl,rfl,rfl,rfl⟩)) (@qa_consP _ _ _ _ _ (@q_v2 _ _ 4 _ (by exact⟨rfl,rfl,rfl,rfl⟩)) (@qa_nil _) (by rfl)) (by rfl)) (by rfl)) (by rfl) (by decide) (by rfl) (by rfl)) (by with_unfolding_all rfl)))) (fun _ _ _=>(@q_v1 _ _ 0 _ (by exact⟨rfl,rfl,rfl,rfl⟩))) (by intro _ ;rfl)) (@q_lst _ _ _ _ (@qa_nil _)) (nomark _)) (@qss_one _ _ _ (@qs_ret _ _ _ _ (@q_bl _ _ _ _))) (@qss_nil _)) (@qss_cons _ _ _ _ _ (@qs_set _ _ _ _ 6 _ _ sc_L_right.nd (@q_callTy _ _ _ _ _ _ _ _ _ (@c_tuple _) (T.blt (by decide)) (by decide +kernel) (@qa_consP _ _ _ _ _ (@q_compz _ _ _ _ _ _ _ _ _ _ _ ["_law_depths"] ["_law_box_here", "_law_sea_here", "_law_cell", "_law_days", "_law_found", "_law_more_here", "_law_deeper", "_law_column", "_law_row", "_law_shut"] rfl (@compOz _ _ _ _ (by rfl) (by rfl) (by rfl) (by rfl) (by rfl)) (@q_v2 _ _ 1 _ (by exact⟨rfl,rfl,rfl,rfl⟩)) (fun _ _ _=>(@qg_name _ _ 0 _ nd_L_right_4 (by rfl) (by exact .inl rfl) (by exact .inr rfl))) (fun _ _ _=>(@qf_nil _)) (fun _ _ _=>(@q_callTy _ _ _ _ _ _ _ _ _ (@c_tuple _) (T.blt (by decide)) (by decide +kernel) (@qa_consP _ _ _ _ _ (@q_compz _ _ _ _ _ _ _ _ _ _ _ ["_law_depth"] ["_law_depths", "_law_box_here", "_law_sea_here", "_law_cell", "_law_days", "_law_found", "_law_more_here", "_law_deeper", "_law_column", "_law_row", "_law_shut"] rfl (@compOz _ _ _ _ (by rfl) (by rfl) (by rfl) (by rfl) (by rfl)) (@q_v1 _ _ 0 _ (by exact⟨rfl,rfl,rfl,rfl⟩)) (fun _ _ _=>(@qg_name _ _ 0 _ nd_L_right_5 (by rfl) (by exact .inl rfl) (by exact .inr rfl))) (fun _ _ _=>(@qf_nil _)) (fun _ _ _=>(@q_callB _ _ _ _ _ _ _ _ _ (@c_min2 _ rfl) (T.blt (by decide)) (by decide +kernel) (@qa_consP _ _ _ _ _ (@q_int _ _ _ _) (@qa_consP _ _ _ _ _ (@q_op _ _ _ _ _ _ _ _ (@o_addD _) (@q_v1 _ _ 0 _ (by exact⟨rfl,rfl,rfl,rfl⟩)) (@q_callTy _ _ _ _ _ _ _ _ _ (@c_int _) (T.blt (by decide)) (by decide +kernel) (@qa_consP _ _ _ _ _ (@q_cmp _ _ _ _ _ _ _ _ (@o_gt _) (@q_v1 _ _ 0 _ (by exact⟨rfl,rfl,rfl,rfl⟩)) (@q_int _ _ _ _) (nomark _)) (@qa_nil _) (by rfl)) (by rfl) (by decide) (by decide) (by rfl) (by rfl))) (@qa_nil _) (by rfl)) (by rfl)) (by rfl) (by decide) (by decide) (by rfl) (by rfl))) (by intro _ ;rfl)) (@qa_nil _) (by rfl)) (by rfl) (by decide) (by decide) (by rfl) (by rfl))) (by intro _ ;rfl)) (@qa_nil _) (by rfl)) (by rfl) (by decide) (by decide) (by rfl) (by rfl)) (by rfl) (by exact .inl rfl) (by rfl) (by exact .inl rfl)) (@qss_cons _ _ _ _ _ (@qs_if _ _ _ _ _ _ _ _ (@qt_cmp _ _ _ _ _ _ _ _ (@o_neD _ _ hr) (@q_call _ _ _ _ _ _ _ _ noX _ _ _ Aay (hr.mono (by decide)) (@passN _ _) (@qa_consP _ _ _ _ _ (@q_v1 _ _ 6 _ (by exact⟨rfl,rfl,rfl,rfl⟩)) (@qa_consP _ _ _ _ _ (@q_v2 _ _ 2 _ (by exact⟨rfl,rfl,rfl,rfl⟩)) (@qa_consP _ _ _ _ _ (@q_v2 _ _ 3 _ (by exact⟨rfl,rfl,rfl,rfl⟩)) (@qa_nil _) (by rfl)) (by rfl)) (by rfl)) (by rfl) (by decide) (by rfl) (by rfl)) (@q_v2 _ _ 4 _ (by exact⟨rfl,rfl,rfl,rfl⟩)) (nomark _)) (@qss_one _ _ _ (@qs_ret _ _ _ _ (@q_bl _ _ _ _))) (@qss_nil _)) (@qss_cons _ _ _ _ _ (@qs_asg _ _ _ _ _ _ (@q_call _ _ _ _ _ _ _ _ noX _ _ _ Aa2 (hr.mono (by decide)) (@passN _ _) (@qa_consP _ _ _ _ _ (@q_v1 _ _ 0 _ (by exact⟨rfl,rfl,rfl,rfl⟩)) (@qa_consP _ _ _ _ _ (@q_v2 _ _ 1 _ (by exact⟨rfl,rfl,rfl,rfl⟩)) (@qa_nil _) (by rfl)) (by rfl)) (by rfl) (by decide) (by rfl) (by rfl)) (@qg_tup _ _ _ _ _ 2 rfl (@qgs_cons _ _ _ _ _ (@qg_name _ _ 7 _ sc_L_right.nd (by rfl) (by exact .inl rfl) (by exact .inl rfl)) (@qgs_cons _ _ _ _ _ (@qg_name _ _ 8 _ sc_L_right.nd (by rfl) (by exact .inl rfl) (by exact .inl rfl)) (@qgs_nil _) (by rfl)) (by rfl)) (by rfl) (by rfl)) (by rfl) (by rfl) (by rfl)) (@qss_cons _ _ _ _ _ (@qs_set _ _ _ _ 9 _ _ sc_L_right.nd (@q_call _ _ _ _ _ _ _ _ noX _ _ _ Abf (hr.mono (by decide)) (@passN _ _) (@qa_consP _ _ _ _ _ (@q_v2 _ _ 1 _ (by exact⟨rfl,rfl,rfl,rfl⟩)) (@qa_consP _ _ _ _ _ (@q_v1 _ _ 7 _ (by exact⟨rfl,rfl,rfl,rfl⟩)) (@qa_consP _ _ _ _ _ (@q_v1 _ _ 8 _ (by exact⟨rfl,rfl,rfl,rfl⟩)) (@qa_consP _ _ _ _ _ (@q_int _ _ _ _) (@qa_nil _) (by rfl)) (by rfl)) (by rfl)) (by rfl)) (by rfl) (by decide) (by rfl) (by rfl)) (by rfl) (by exact .inl rfl) (by rfl) (by exact .inl rfl)) (@qss_cons _ _ _ _ _ (@qs_if _ _ _ _ _ _ _ _ (@qt_of _ _ _ (@qw_and _ _ _ _ _ _ _ (@qt_cmp _ _ _ _ _ _ _ _ (@o_neD _ _ hr) (@q_tup _ _ _ _ _ (@qa_consP _ _ _ _ _ (@q_v1 _ _ 7 _ (by exact⟨rfl,rfl,rfl,rfl⟩)) (@qa_consP _ _ _ _ _ (@q_v1 _ _ 8 _ (by exact⟨rfl,rfl,rfl,rfl⟩)) (@qa_nil _) (by rfl)) (by rfl))) (@q_v2 _ _ 2 _ (by exact⟨rfl,rfl,rfl,rfl⟩)) (nomark _)) (@qw_and1 _ _ _ _ (@qt_cmp _ _ _ _ _ _ _ _ (@o_neD _ _ hr) (@q_compz _ _ _ _ _ _ _ _ _ _ _ ["_law_one"] ["_law_box_here", "_law_sea_here", "_law_cell", "_law_days", "_law_found", "_law_more_here", "_law_deeper", "_law_column", "_law_row", "_law_shut"] rfl (@compOz _ _ _ _ (by rfl) (by rfl) (by rfl) (by rfl) (by rfl)) (@q_call _ _ _ _ _ _ _ _ noX _ _ _ Aay (hr.mono (by decide)) (@passN _ _) (@qa_consP _ _ _ _ _ (@q_v1 _ _ 9 _ (by exact⟨rfl,rfl,rfl,rfl⟩)) (@qa_consP _ _ _ _ _ (@q_v2 _ _ 2 _ (by exact⟨rfl,rfl,rfl,rfl⟩)) (@qa_consP _ _ _ _ _ (@q_v2 _ _ 3 _ (by exact⟨rfl,rfl,rfl,rfl⟩)) (@qa_nil _) (by rfl)) (by rfl)) (by rfl)) (by rfl) (by decide) (by rfl) (by rfl)) (fun _ _ _=>(@qg_name _ _ 0 _ Kc (by rfl) (by exact .inl rfl) (by exact .inr rfl))) (fun _ _ _=>(@qf_one _ _ _ (@qt_cmp _ _ _ _ _ _ _ _ (@o_notinD _ _ hr) (@q_v1 _ _ 0 _ (by exact⟨rfl,rfl,rfl,rfl⟩)) (@q_v2 _ _ 5 _ (by exact⟨rfl,rfl,rfl,rfl⟩)) (by with_unfolding_all rfl)))) (fun _ _ _=>(@q_v1 _ _ 0 _ (by exact⟨rfl,rfl,rfl,rfl⟩))) (by intro _ ;rfl)) (@q_lst _ _ _ _ (@qa_nil _)) (nomark _))))) (@qss_one _ _ _ (@qs_ret _ _ _ _ (@q_bl _ _ _ _))) (@qss_nil _)) (@qss_one _ _ _ (@qs_ret _ _ _ _ (@q_call _ _ _ _ _ _ _ _ noX _ _ _ Abg (hr.mono (by decide)) (@passN _ _) (@qa_consP _ _ _ _ _ (@q_v2 _ _ 1 _ (by exact⟨rfl,rfl,rfl,rfl⟩)) (@qa_consP _ _ _ _ _ (@q_v2 _ _ 2 _ (by exact⟨rfl,rfl,rfl,rfl⟩)) (@qa_consP _ _ _ _ _ (@q_v2 _ _ 3 _ (by exact⟨rfl,rfl,rfl,rfl⟩)) (@qa_nil _) (by rfl)) (by rfl)) (by rfl)) (by rfl) (by decide) (by rfl) (by rfl)))))))))))))))),?_⟩
  have sz1:1≤sizeLine:=szl (by decide)
  have sz0:0≤sizeLine:=Nat.zero_le _
  have sz2:=sz2
  simp only[B2,Cd,Ba,Ai,Aq,An,List.map_cons,List.map_nil,List.length_cons,List.length_nil,Nat.zero_add,Nat.reduceAdd,Nat.reduceSub,List.replicate,List.cons_append,List.nil_append,List.getElem?_cons_succ,List.getElem?_cons_zero,Option.some.injEq,A1,As,List.set_cons_succ,List.set_cons_zero,nC,Eb,nOr,By,nOp,B3,Cg,D0,F4,sz0,nCB,List.cons.injEq,and_true,Jf,Eg,Jg,Qy,Jd,sz2,exists_eq_left',true_and,reduceCtorEq,if_false,if_true,sz1,Ig]
  have hw:=ok.wide
  have hh:=ok.high
  refine⟨s,h,c,days,rfl,ok,hc,d0,by omega,fun ms hp hm=>?_⟩
  have hin:∀x∈ms,InS s h x:=fun x hx=>Drift.inS hc ((hm x).mp hx)
  have h144:=Cc ok (Cb hp) hin
  refine Bh hb (by decide) (by decide) fun m G1 m0 m1 s1=>?_
  refine Cr ⟨_,rfl,it1 (by simp[(hm c).mpr Drift.self]) ?_⟩
  have hin1:∀{s':List (List Int)} {c':Cl} {n:Int} {G':Gp} {Q':DK},SeaOk s' h→InS s' h c'→0≤n→n≤400→(∀ms':List Cl,ms'.Pairwise Bf→(∀x,x∈ms'↔Drift s' h c' n.toNat x)→Q' (.tup (ms'.map Ae)) G')→spDrift [A8 s',Ae c',.int n] G' Q' noX:=fun {s' c' n G' Q'} o1 o2 o3 o4 q=>⟨s',h,c',n,rfl,o1,o2,o3,o4,q⟩
  refine hin1 ok hc (by decide) (by decide) fun ms0 hp0 hm0=>?_
  have e0:ms0=[c]:=E5 hp0 (List.pairwise_singleton _ _) fun x=>by rw[hm0,List.mem_singleton];exact Drift.zero
  subst e0
  refine Jw (b:=[c]) ⟨_,rfl,it1 (by simp) ⟨_,rfl,fun p2 hp2=>⟨ms,rfl,Cb hp,fun x hx=>(hin x hx).box ok,by omega,fun p3 ms3 hp3 pm3 pw3=>?_⟩⟩⟩
  have e3:ms=ms3:=E5 hp pw3 fun x=>pm3.mem_iff.symm
  have s3:=(s1.lay (o:=.lst (ms.map Ae)) hp2).lay (o:=.lst (ms3.map Ae)) hp3
  refine Ca (Bz Aa hp3) Aa ⟨_,rfl,it1 (by simp[e3]) ?_⟩
  generalize Ad (Ad G1 p2 (.lst (ms.map Ae))) p3 (.lst (ms3.map Ae))=G3 at *
  refine⟨_,rfl,fun p4 hp4=>?_⟩
  have hz:(ms.map Ae).length<sizeLine:=by rw[List.length_map];exact szm (by omega)
  refine Bi id (fun _=>false) hz (fun _=>rfl) (fun x ys hx' hl R1 R2 g1 g2=>?_) ?_
  ·obtain⟨o,ho,rfl⟩:=List.mem_map.mp hx'
   simp only[As,List.replicate,List.cons_append,List.nil_append,List.set_cons_zero,By,nOp,Aq,List.getElem?_cons_zero,Option.some.injEq,Ba,Ai,List.getElem?_cons_succ,nC,A1,exists_eq_left',B5]
   refine⟨⟨[_],rfl,rfl⟩,hin1 ok hc (by omega) (by omega) fun ms4 hp4 hm4=>Cr ⟨_,rfl,it1 ?_ (Fg.of (g2 rfl))⟩⟩
   have:o∈ms4:=(hm4 o).mpr (by rw[show(days+1).toNat=days.toNat+1 by omega];exact Drift.up ((hm o).mp ho))
   simp[this]
  rw[Eu]
  have s4:=s3.lay (o:=.lst []) hp4
  have g4:Ad G3 p4 (.lst []) p4=some (.lst []):=Aa
  generalize Ad G3 p4 (.lst [])=G4 at *
  intro p5 hp5
  have s5:=s4.lay (o:=.lst []) hp5
  refine Ca (a:=[]) (b:=[]) (Bz g4 hp5) Aa ⟨_,rfl,it1 (by simp) ?_⟩
  generalize Ad G4 p5 (.lst [])=G5 at *
  rw[B5]
  refine hin1 ok hc (by omega) (by omega) fun ms5 hp5 hm5=>⟨s,h,ms,m,rfl,ok,hin,h144,m0,by omega,fun ms6 hp6 hm6=>?_⟩
  have e6:ms5=ms6:=E5 hp5 hp6 fun x=>by
   rw[hm5,hm6,show(days+m).toNat=days.toNat+m.toNat by omega,Drift.both]
   exact⟨fun⟨y,a,b⟩=>⟨y,(hm y).mpr a,b⟩,fun⟨y,a,b⟩=>⟨y,(hm y).mp a,b⟩⟩
  refine Jw ⟨_,rfl,it1 (by simp[e6]) ⟨_,rfl,fun p6 hp6'=>?_⟩⟩
  refine Bi id (fun _=>false) hz (fun _=>rfl) (fun x ys hx' hl R1 R2 g1 g2=>?_) ?_
  ·obtain⟨o,ho,rfl⟩:=List.mem_map.mp hx'
   obtain⟨z1,z2,z3,z4⟩:=Rh ok (hin o ho)
   simp only[As,List.replicate,List.cons_append,List.nil_append,List.set_cons_zero,Qy,By,nOp,Aq,List.getElem?_cons_zero,Option.some.injEq,List.getElem?_cons_succ,nC,dIx,D.int.injEq,dEq,eqS,D.bl.injEq,exists_eq_left',Nd,Nf,Gj,z1,Ti,z2,decide_eq_true_eq,reduceCtorEq,if_false]
   refine⟨⟨[_],rfl,rfl⟩,Ob ⟨_,rfl,?_⟩⟩
   by_cases e:o=c
   ·exact it1 (by simp[e]) (Fg.of (g2 rfl))
   ·refine it0 (by simp[e]) (it1 ?_ (Fg.of (g2 rfl)))
    exact(wat_iff.mp (Drift.water ((hm o).mp ho) e)).2
  rw[Eu]
  have s6:=s5.lay (o:=.lst []) hp6'
  have g6:Ad G5 p6 (.lst []) p6=some (.lst []):=Aa
  generalize Ad G5 p6 (.lst [])=G6 at *
  intro p7 hp7
  have s7:=s6.lay (o:=.lst []) hp7
  refine Ca (a:=[]) (b:=[]) (Bz g6 hp7) Aa ⟨_,rfl,it1 (by simp) ⟨_,rfl,fun p8 hp8=>?_⟩⟩
  generalize Ad G6 p7 (.lst [])=G7 at *
  refine Bi id (fun _=>false) hz (fun _=>rfl) (fun x ys hx' hl R1 R2 g1 g2=>?_) ?_
  ·obtain⟨o,ho,rfl⟩:=List.mem_map.mp hx'
   simp only[As,List.replicate,List.cons_append,List.nil_append,List.set_cons_zero,By,nOp,Aq,List.getElem?_cons_succ,List.getElem?_cons_zero,Option.some.injEq,Ba,Ai,A1,exists_eq_left']
   refine⟨⟨[_],rfl,rfl⟩,hin1 ok (hin o ho) (by omega) (by omega) fun ms8 hp8 hm8=>Cr ⟨_,rfl,it1 ?_ (Fg.of (g2 rfl))⟩⟩
   have:c∈ms8:=(hm8 c).mpr (Drift.symm ((hm o).mp ho))
   simp[this]
  rw[Eu]
  have s8:=s7.lay (o:=.lst []) hp8
  have g8:Ad G7 p8 (.lst []) p8=some (.lst []):=Aa
  generalize Ad G7 p8 (.lst [])=G8 at *
  intro p9 hp9
  have s9:=s8.lay (o:=.lst []) hp9
  refine Ca (a:=[]) (b:=[]) (Bz g8 hp9) Aa ⟨_,rfl,it1 (by simp) ⟨_,rfl,fun p10 hp10=>?_⟩⟩
  generalize Ad G8 p9 (.lst [])=G9 at *
  have hz2:(s.map Av).length<sizeLine:=by rw[List.length_map];exact szm (by omega)
  refine Bi Ra (fun _=>true) hz2 (fun _=>rfl) (fun x ys hx hl' R1 R2 g1 _=>?_) ?_
  ·obtain⟨o,ho,rfl⟩:=List.mem_map.mp hx
   simp only[As,List.replicate,List.cons_append,List.nil_append,List.set_cons_zero,Ef,nCB,Ai,D0,Aq,List.getElem?_cons_zero,Option.some.injEq,A1,List.cons.injEq,and_true,hl',true_and,exists_eq_left',if_true]
   refine⟨⟨[_],rfl,rfl⟩,o.map D.int,rfl,fun p5 hp5=>?_⟩
   have hz3:(o.map D.int).length<sizeLine:=by rw[List.length_map,(ok.col o ho).1];exact szm (by omega)
   refine Bi (fun x=>.int (Cu (Wr x))) (fun _=>true) hz3 (fun _=>rfl) (fun x ys' hx hl2 R3 R4 g3 _=>?_) ?_
   ·obtain⟨y,hy,rfl⟩:=List.mem_map.mp hx
    simp only[As,List.replicate,List.cons_append,List.nil_append,List.set_cons_zero,Ef,nCB,Ai,nC,nOp,Aq,List.getElem?_cons_zero,Option.some.injEq,dI0,D.int.injEq,A1,List.cons.injEq,D.bl.injEq,and_true,hl2,true_and,and_assoc,exists_and_left,exists_eq_left',decide_eq_true_eq,B5,Aa,Aw,if_true]
    refine⟨⟨[_],rfl,rfl⟩,Fg.of (g3 rfl)⟩
   ·rw[Cj]
    refine⟨_,Ax Aa,Bz Aa hp5,⟨_,(Sub.new hp5).upd p10 _,?_⟩⟩
    rw[Aw]
    exact g1 rfl
  ·rw[Cj]
   have e4:(s.map Av).map Ra=(s.map fun c=>c.map Cu).map Av:=by
    rw[List.map_map,List.map_map]
    refine List.map_congr_left fun c _=>?_
    simp[Ra,Av,Wr]
   rw[e4]
   have s10:=s9.lay (o:=.lst ((s.map fun c=>c.map Cu).map Av)) hp10
   refine⟨_,Ax Aa,?_⟩
   generalize Ad G9 p10 (.lst ((s.map fun c=>c.map Cu).map Av))=G10 at *
   refine hin1 (s':=s.map fun c=>c.map Cu) ok.deep (by unfold InS at hc ⊢;rw[List.length_map];exact hc) d0 (by omega) fun ms10 hp10 hm10=>?_
   have e10:ms10=ms:=E5 hp10 hp fun x=>by rw[hm10,hm];exact Drift.same (R8 ok)
   refine Jw ⟨_,rfl,it1 (by simp[e10]) ?_⟩
   refine⟨a,s,h,rfl,s10.box,ok,fun o G11 ho s11=>?_⟩
   have s11:=s10.trans s11
   obtain⟨x,y,rfl,hx,hy⟩:=ho.nat
   refine⟨_,rfl,rfl,_,_,rfl,_,_,rfl,rfl,s,h,x,y,rfl,ok,hx,hy,?_⟩
   refine Ob (a:=((x:Int),(y:Int))) ⟨_,rfl,?_⟩
   have fin:∀G',Step a G G'→Fu [A8 s,Ae c,.int days] G' (Fq Q) noX:=fun G' st=>⟨s,h,c,days,rfl,ok,hc,d0,by omega,Fq.of (k G' st)⟩
   by_cases e:((x:Int),(y:Int))=c
   ·exact it1 (by simp[e]) (fin _ s11)
   ·refine it0 (by simp[e]) ?_
    have okP:=ok.put hx hy
    have hlP:(O4 s x y 0).length=s.length:=by rw[Ge hx (by rw[(ok.colD hx).1];exact hy),List.length_set]
    refine hin1 okP (by unfold InS at hc ⊢;rw[hlP];exact hc) d0 (by omega) fun ms12 hp12 hm12=>⟨_,rfl,fun p12 hp12'=>?_⟩
    have hin12:∀x'∈ms12,Drift s h c days.toNat x':=fun x' hx'=>Drift.less (fun z hz=>((N0 ok hx hy).mp hz).1) (fun hz=>(N0 ok hx hy).mpr ⟨hz,fun q=>e q.symm⟩) ((hm12 x').mp hx')
    have hz12:(ms12.map Ae).length<sizeLine:=by rw[List.length_map];exact szm (by have:=Cc ok (Cb hp12) fun x' hx'=>Drift.inS hc (hin12 x' hx');omega)
    refine Bi id (fun _=>false) hz12 (fun _=>rfl) (fun x' ys hx' hl R1 R2 g1 g2=>?_) ?_
    ·obtain⟨o,ho,rfl⟩:=List.mem_map.mp hx'
     simp only[As,List.replicate,List.cons_append,List.nil_append,List.set_cons_zero,By,nOp,Aq,List.getElem?_cons_zero,Option.some.injEq,List.getElem?_cons_succ,exists_eq_left']
     refine⟨⟨[_],rfl,rfl⟩,Cr ⟨_,rfl,it1 ?_ (Fg.of (g2 rfl))⟩⟩
     have:o∈ms:=(hm o).mpr (hin12 o ho)
     simp[this]
    ·rw[Eu]
     have s12:=s11.lay (o:=.lst []) hp12'
     have g12:Ad G11 p12 (.lst []) p12=some (.lst []):=Aa
     generalize Ad G11 p12 (.lst [])=G12 at *
     intro p13 hp13
     have s13:=s12.lay (o:=.lst []) hp13
     exact Ca (a:=[]) (b:=[]) (Bz g12 hp13) Aa ⟨_,rfl,it1 (by simp) (fin _ s13)⟩
abbrev s_law:Stmt:=top 38
abbrev Z0:List Str:=["_law_script", "_law_k", "_law_box_here", "_law_sea_here", "_law_turn"]
abbrev Q5:List Str:=["_law_script"]
theorem sc_law:FnScope Z0 Q5 (Ag s_law):=⟨rfl,rfl,rfl,by decide +kernel,rfl,by decide +kernel,by decide +kernel⟩
theorem X8{f:Addr}{fd:FuncData}(F:Fun K "law" "law" s_law f fd)(T:Nums mg)(Abh:Def P w K mg base CX0 1 "_law_box" p_L_box spBox)(Aax:Def P w K mg base CX0 2 "_law_take" p_L_take spTake)(Abi:Def P w K mg base CX0 3 "_law_sea" Dm Mr)(Aa2:Def P w K mg base CX0 3 "_law_cell_of" p_L_cell_of spCellOf)(Abj:Def P w K mg base CX0 8 "_law_right" B9 Jr):FnOk P w K mg base CX0 9 f fd Q5 (Ak K Nu):=by
 refine okD F sc_law (fun ds G Q E h=>?_) (fun cdv A outer s H XE ds G Q E hr h=>?_)
 ·obtain⟨ns,rfl,_⟩:=h;rfl
 ·obtain⟨ns,rfl,hl,q⟩:=h
  refine⟨_,(@qss_cons _ _ _ _ _ (@Dk _ _ _ _ _ _ _ _ _ _ PassesOwn.never rfl (T.blt (by decide)) (@qa_consP _ _ _ _ _ (@q_callB _ _ _ _ _ _ _ _ _ (@Yr _ rfl) (T.blt (by decide)) (by decide +kernel) (@qa_consP _ _ _ _ _ (@q_int _ _ _ _) (@qa_consP _ _ _ _ _ (@q_callB _ _ _ _ _ _ _ _ _ (@c_min2 _ rfl) (T.blt (by decide)) (by decide +kernel) (@qa_consP _ _ _ _ _ (@q_callB _ _ _ _ _ _ _ _ _ (@c_len _) (T.blt (by decide)) (by decide +kernel) (@qa_consP _ _ _ _ _ (@q_v1 _ _ 0 _ (by exact⟨rfl,rfl,rfl,rfl⟩)) (@qa_nil _) (by rfl)) (by rfl) (by decide) (by decide) (by rfl) (by rfl)) (@qa_consP _ _ _ _ _ (@q_int _ _ _ _) (@qa_nil _) (by rfl)) (by rfl)) (by rfl) (by decide) (by decide) (by rfl) (by rfl)) (@qa_nil _) (by rfl)) (by rfl)) (by rfl) (by decide) (by decide) (by rfl) (by rfl)) (@qa_nil _) (by rfl)) (@qg_name _ _ 1 _ sc_law.nd (by rfl) (by exact .inl rfl) (by exact .inl rfl)) (@qss_cons _ _ _ _ _ (@qs_set _ _ _ _ 2 _ _ sc_law.nd (@q_call _ _ _ _ _ _ _ _ noX _ _ _ Abh (hr.mono (by decide)) (@passN _ _) (@qa_consP _ _ _ _ _ (@q_v1 _ _ 0 _ (by exact⟨rfl,rfl,rfl,rfl⟩)) (@qa_consP _ _ _ _ _ (@q_v1 _ _ 1 _ (by exact⟨rfl,rfl,rfl,rfl⟩)) (@qa_nil _) (by rfl)) (by rfl)) (by rfl) (by decide) (by rfl) (by rfl)) (by rfl) (by exact .inl rfl) (by rfl) (by exact .inl rfl)) (@qss_cons _ _ _ _ _ (@qs_set _ _ _ _ 3 _ _ sc_law.nd (@q_call _ _ _ _ _ _ _ _ noX _ _ _ Abi (hr.mono (by decide)) (@passN _ _) (@qa_consP _ _ _ _ _ (@q_v1 _ _ 2 _ (by exact⟨rfl,rfl,rfl,rfl⟩)) (@qa_consP _ _ _ _ _ (@q_ix _ _ _ _ _ _ (@q_lst _ _ _ _ (@qa_consP _ _ _ _ _ (@q_int _ _ _ _) (@qa_consP _ _ _ _ _ (@q_int _ _ _ _) (@qa_nil _) (by rfl)) (by rfl))) (@q_call _ _ _ _ _ _ _ _ noX _ _ _ Aax (hr.mono (by decide)) (@passN _ _) (@qa_consP _ _ _ _ _ (@q_v1 _ _ 2 _ (by exact⟨rfl,rfl,rfl,rfl⟩)) (@qa_consP _ _ _ _ _ (@q_int _ _ _ _) (@qa_nil _) (by rfl)) (by rfl)) (by rfl) (by decide) (by rfl) (by rfl)) (by intro _ _ ;rfl)) (@qa_consP _ _ _ _ _ (@q_ix _ _ _ _ _ _ (@q_lst _ _ _ _ (@qa_consP _ _ _ _ _ (@q_int _ _ _ _) (@qa_consP _ _ _ _ _ (@q_int _ _ _ _) (@qa_nil _) (by rfl)) (by rfl))) (@q_call _ _ _ _ _ _ _ _ noX _ _ _ Aax (hr.mono (by decide)) (@passN _ _) (@qa_consP _ _ _ _ _ (@q_v1 _ _ 2 _ (by exact⟨rfl,rfl,rfl,rfl⟩)) (@qa_consP _ _ _ _ _ (@q_int _ _ _ _) (@qa_nil _) (by rfl)) (by rfl)) (by rfl) (by decide) (by rfl) (by rfl)) (by intro _ _ ;rfl)) (@qa_nil _) (by rfl)) (by rfl)) (by rfl)) (by rfl) (by decide) (by rfl) (by rfl)) (by rfl) (by exact .inl rfl) (by rfl) (by exact .inl rfl)) (@qss_one _ _ _ (@Dk _ _ _ _ _ _ _ _ _ _ PassesOwn.never rfl (T.blt (by decide)) (@qa_consP _ _ _ _ _ (@q_int _ _ _ _) (@qa_nil _) (by rfl)) (@qg_name _ _ 4 _ sc_law.nd (by rfl) (by exact .inl rfl) (by exact .inl rfl)) (@qss_one _ _ _ (@qs_if _ _ _ _ _ _ _ _ (@qt_not _ _ _ _ (@qt_tru _ _ _ (@q_call _ _ _ _ _ _ _ _ noX _ _ _ Abj (hr.mono (by decide)) (@passN _ _) (@qa_consP _ _ _ _ _ (@q_v1 _ _ 2 _ (by exact⟨rfl,rfl,rfl,rfl⟩)) (@qa_consP _ _ _ _ _ (@q_v1 _ _ 3 _ (by exact⟨rfl,rfl,rfl,rfl⟩)) (@qa_consP _ _ _ _ _ (@q_call _ _ _ _ _ _ _ _ noX _ _ _ Aa2 (hr.mono (by decide)) (@passN _ _) (@qa_consP _ _ _ _ _ (@q_v1 _ _ 2 _ (by exact⟨rfl,rfl,rfl,rfl⟩)) (@qa_consP _ _ _ _ _ (@q_v1 _ _ 3 _ (by exact⟨rfl,rfl,rfl,rfl⟩)) (@qa_nil _) (by rfl)) (by rfl)) (by rfl) (by decide) (by rfl) (by rfl)) (@qa_consP _ _ _ _ _ (@q_call _ _ _ _ _ _ _ _ noX _ _ _ Aax (hr.mono (by decide)) (@passN _ _) (@qa_consP _ _ _ _ _ (@q_v1 _ _ 2 _ (by exact⟨rfl,rfl,rfl,rfl⟩)) (@qa_consP _ _ _ _ _ (@q_int _ _ _ _) (@qa_nil _) (by rfl)) (by rfl)) (by rfl) (by decide) (by rfl) (by rfl)) (@qa_nil _) (by rfl)) (by rfl)) (by rfl)) (by rfl)) (by rfl) (by decide) (by rfl) (by rfl)) (by intro _ ;rfl))) (@qss_one _ _ _ (@qs_ret _ _ _ _ (@q_bl _ _ _ _))) (@qss_nil _))) (by rfl) (by rfl) (by intro _ ;rfl))))) (by rfl) (by rfl) (by intro _ ;rfl)) (@qss_one _ _ _ (@qs_ret _ _ _ _ (@q_bl _ _ _ _)))),?_⟩
  have sz2:=sz2
  simp only[B2,F5,Ai,nCB,nC,Aq,An,List.map_cons,List.map_nil,List.length_cons,List.length_nil,Nat.zero_add,Nat.reduceAdd,Nat.reduceSub,List.replicate,List.cons_append,List.nil_append,List.getElem?_cons_zero,Option.some.injEq,A1,List.cons.injEq,and_true,D.int.injEq,Int.reducePow,Int.reduceNeg,and_assoc,exists_eq_left',exists_and_left,Lb]
  have hb:∀n:Int,0≤n→1≤(if (if 3<n then 3 else n)>1 then (if 3<n then 3 else n) else 1)∧(if (if 3<n then 3 else n)>1 then (if 3<n then 3 else n) else 1)≤3:=fun n hn=>by
   by_cases h:3<n
   ·rw[if_pos h];decide
   ·rw[if_neg h]
    by_cases h2:n>1
    ·rw[if_pos h2];omega
    ·rw[if_neg h2];decide
  obtain⟨b1,b2⟩:=hb (ns.length:Nat) (by omega)
  generalize (if (if (3:Int)<(ns.length:Nat) then (3:Int) else (ns.length:Nat))>1 then (if (3:Int)<(ns.length:Nat) then (3:Int) else (ns.length:Nat)) else 1)=m at *
  refine⟨by omega,by omega,?_⟩
  refine Bw (fun i σ G'=>∃v1 v2 v3 v4,σ=[some (.lint ns),v1,v2,v3,v4]) ⟨_,_,_,_,rfl⟩ ?_ ?_
  ·rintro i σ G1 hi ⟨v1,v2,v3,v4,rfl⟩
   simp only[As,B2,Cd,Ba,Ai,Aq,List.set_cons_succ,List.set_cons_zero,List.getElem?_cons_zero,Option.some.injEq,List.getElem?_cons_succ,A1,nOp,F4,nC,List.length_cons,List.length_nil,Nat.zero_add,Nat.reduceAdd,sz2,dIx,F5,List.cons.injEq,D.int.injEq,and_true,Int.reducePow,Int.reduceNeg,and_assoc,exists_eq_left',Int.reduceLE,Int.reduceLT,Int.reduceToNat,true_and]
   refine⟨ns,(i:Nat),rfl,⟨by omega,by omega⟩,fun a ha b0 c0=>?_⟩
   have s1:Step a (Ad G1 a (.lst [.int b0,.int c0])) (Ad G1 a (.lst [.int b0,.int c0])):=Step.refl ⟨b0,c0,Aa⟩
   generalize Ad G1 a (.lst [.int b0,.int c0])=G2 at *
   intro p1 hp1
   have n1:=Step.ne s1.box hp1
   have s2:=s1.lay (o:=.lst [.int 4,.int 10]) hp1
   have g2:Ad G2 p1 (.lst [.int 4,.int 10]) p1=some (.lst [.int 4,.int 10]):=Aa
   generalize Ad G2 p1 (.lst [.int 4,.int 10])=G3 at *
   refine Bh s2.box (by decide) (by decide) fun r1 G4 r1l r1h s4=>?_
   have g4:=s4.get n1 g2
   obtain⟨d1,hd1,hm1⟩:=Ej (xs:=[D.int 4,.int 10]) r1l (by simpa using r1h)
   obtain⟨x1,rfl,hx1⟩:∃x,d1=.int x∧2≤x∧x≤16:=by
    simp only[List.mem_cons,List.not_mem_nil,or_false] at hm1
    rcases hm1 with rfl|rfl<;>exact⟨_,rfl,by omega,by omega⟩
   refine⟨r1,rfl,_,(Ci g4).trans hd1,fun p2 hp2=>?_⟩
   have n2:=Step.ne s4.box hp2
   have s5:=s4.lay (o:=.lst [.int 4,.int 7]) hp2
   have g5:Ad G4 p2 (.lst [.int 4,.int 7]) p2=some (.lst [.int 4,.int 7]):=Aa
   generalize Ad G4 p2 (.lst [.int 4,.int 7])=G5 at *
   refine Bh s5.box (by decide) (by decide) fun r2 G6 r2l r2h s6=>?_
   have g6:=s6.get n2 g5
   obtain⟨d2,hd2,hm2⟩:=Ej (xs:=[D.int 4,.int 7]) r2l (by simpa using r2h)
   obtain⟨x2,rfl,hx2⟩:∃x,d2=.int x∧1≤x∧x≤9:=by
    simp only[List.mem_cons,List.not_mem_nil,or_false] at hm2
    rcases hm2 with rfl|rfl<;>exact⟨_,rfl,by omega,by omega⟩
   refine⟨r2,rfl,_,(Ci g6).trans hd2,a,x1,x2,rfl,s6.box,⟨hx1.1,hx1.2,hx2.1,hx2.2⟩,fun sea h G7 ok s7=>?_⟩
   refine Bw (fun j σ G'=>∃v4,σ=[some (.lint ns),some (.int i),some (.ref a),some (A8 sea),v4]∧Eh (G' a)) ⟨_,rfl,s7.box⟩ ?_ ?_
   ·rintro j σ G8 hj ⟨v4,rfl,b8⟩
    simp only[As,Eb,Je,F3,Ba,Ai,Aq,List.set_cons_succ,List.set_cons_zero,List.getElem?_cons_succ,List.getElem?_cons_zero,Option.some.injEq,A1,nC,B3,Cg,exists_eq_left']
    refine⟨a,sea,h,rfl,b8,ok,fun c G9 hc s9=>?_⟩
    refine Bh s9.box (by decide) (by decide) fun r3 G10 r3l r3h s10=>?_
    refine⟨a,sea,h,c,r3,rfl,s10.box,ok,hc,r3l,by omega,fun G11 s11=>?_⟩
    exact⟨true,rfl,it1 (by decide) (Fs.of ⟨_,rfl,s11.box⟩)⟩
   ·rintro σ G8 ⟨v4,rfl,b8⟩
    exact⟨_,Sub.refl _,_,_,_,_,rfl⟩
  ·rintro σ G1 ⟨v1,v2,v3,v4,rfl⟩
   simp only[B3,nC]
   exact Fq.of (q _)
end
end K2
set_option maxRecDepth 100000
set_option maxHeartbeats 4000000
namespace K2
open PySem L2 D3
section
variable{P:Program}{w:World}{K:W.Frag}{mg:Str→Option Value}{base:Heap}
theorem Tz{K:W.Frag}:∀f fd,Fun K "_law_box" "_law_box" s_L_box f fd→Binds K fd p_L_box []:=fun f fd F=>F.binds (ps:=p_L_box) fun _ _ _ _ _ _ us hl=>match us,hl with | [_,_],_=>rfl
theorem Qs{K:W.Frag}:∀f fd,Fun K "_law_more" "_law_more" s_L_more f fd→Binds K fd Cz []:=fun f fd F=>F.binds (ps:=Cz) fun _ _ _ _ _ _ us hl=>match us,hl with | [_],_=>rfl
theorem Qr{K:W.Frag}:∀f fd,Fun K "_law_take" "_law_take" s_L_take f fd→Binds K fd p_L_take []:=fun f fd F=>F.binds (ps:=p_L_take) fun _ _ _ _ _ _ us hl=>match us,hl with | [_,_],_=>rfl
theorem Ea{K:W.Frag}:∀f fd,Fun K "is_whole_within" "is_whole_within" s_is_whole_within f fd→Binds K fd Aj []:=fun f fd F=>F.binds (ps:=Aj) fun _ _ _ _ _ _ us hl=>match us,hl with | [_,_,_],_=>rfl
theorem Md{K:W.Frag}:∀f fd,Fun K "is_depth" "is_depth" s_is_depth f fd→Binds K fd Bu []:=fun f fd F=>F.binds (ps:=Bu) fun _ _ _ _ _ _ us hl=>match us,hl with | [_],_=>rfl
theorem Qq{K:W.Frag}:∀f fd,Fun K "is_day" "is_day" s_is_day f fd→Binds K fd Cy []:=fun f fd F=>F.binds (ps:=Cy) fun _ _ _ _ _ _ us hl=>match us,hl with | [_],_=>rfl
theorem Kh{K:W.Frag}:∀f fd,Fun K "is_column" "is_column" s_is_column f fd→Binds K fd Bo []:=fun f fd F=>F.binds (ps:=Bo) fun _ _ _ _ _ _ us hl=>match us,hl with | [_],_=>rfl
theorem Qp{K:W.Frag}:∀f fd,Fun K "is_sea" "is_sea" s_is_sea f fd→Binds K fd Cw []:=fun f fd F=>F.binds (ps:=Cw) fun _ _ _ _ _ _ us hl=>match us,hl with | [_],_=>rfl
theorem Ki{K:W.Frag}:∀f fd,Fun K "check_sea" "check_sea" s_check_sea f fd→Binds K fd p_check_sea []:=fun f fd F=>F.binds (ps:=p_check_sea) fun _ _ _ _ _ _ us hl=>match us,hl with | [_],_=>rfl
theorem Kj{K:W.Frag}:∀f fd,Fun K "check_day" "check_day" s_check_day f fd→Binds K fd p_check_day []:=fun f fd F=>F.binds (ps:=p_check_day) fun _ _ _ _ _ _ us hl=>match us,hl with | [_],_=>rfl
theorem Me{K:W.Frag}:∀f fd,Fun K "depth_at" "depth_at" s_depth_at f fd→Binds K fd Bv []:=fun f fd F=>F.binds (ps:=Bv) fun _ _ _ _ _ _ us hl=>match us,hl with | [_,_],_=>rfl
theorem Ni{K:W.Frag}:∀f fd,Fun K "is_cell" "is_cell" s_is_cell f fd→Binds K fd p_is_cell []:=fun f fd F=>F.binds (ps:=p_is_cell) fun _ _ _ _ _ _ us hl=>match us,hl with | [_,_],_=>rfl
theorem Ho{K:W.Frag}:∀f fd,Fun K "check_cell" "check_cell" s_check_cell f fd→Binds K fd Bj []:=fun f fd F=>F.binds (ps:=Bj) fun _ _ _ _ _ _ us hl=>match us,hl with | [_,_],_=>rfl
theorem Mc{K:W.Frag}:∀f fd,Fun K "is_water" "is_water" s_is_water f fd→Binds K fd p_is_water []:=fun f fd F=>F.binds (ps:=p_is_water) fun _ _ _ _ _ _ us hl=>match us,hl with | [_,_],_=>rfl
theorem Fe{K:W.Frag}:∀f fd,Fun K "waters_beside" "waters_beside" s_waters_beside f fd→Binds K fd A2 []:=fun f fd F=>F.binds (ps:=A2) fun _ _ _ _ _ _ us hl=>match us,hl with | [_,_],_=>rfl
theorem Hi{K:W.Frag}:∀f fd,Fun K "one_step_on" "one_step_on" s_one_step_on f fd→Binds K fd Bc []:=fun f fd F=>F.binds (ps:=Bc) fun _ _ _ _ _ _ us hl=>match us,hl with | [_,_,_],_=>rfl
theorem Tw{K:W.Frag}:∀f fd,Fun K "drift" "drift" s_drift f fd→Binds K fd p_drift []:=fun f fd F=>F.binds (ps:=p_drift) fun _ _ _ _ _ _ us hl=>match us,hl with | [_,_,_],_=>rfl
theorem Tx{K:W.Frag}:∀f fd,Fun K "_law_sea" "_law_sea" s_L_sea f fd→Binds K fd Dm []:=fun f fd F=>F.binds (ps:=Dm) fun _ _ _ _ _ _ us hl=>match us,hl with | [_,_,_],_=>rfl
theorem Kk{K:W.Frag}:∀f fd,Fun K "_law_cell_of" "_law_cell_of" s_L_cell_of f fd→Binds K fd p_L_cell_of []:=fun f fd F=>F.binds (ps:=p_L_cell_of) fun _ _ _ _ _ _ us hl=>match us,hl with | [_,_],_=>rfl
theorem Ty{K:W.Frag}:∀f fd,Fun K "_law_put" "_law_put" s_L_put f fd→Binds K fd p_L_put []:=fun f fd F=>F.binds (ps:=p_L_put) fun _ _ _ _ _ _ us hl=>match us,hl with | [_,_,_,_],_=>rfl
theorem Mf{K:W.Frag}:∀f fd,Fun K "_law_joined" "_law_joined" s_L_joined f fd→Binds K fd p_L_joined []:=fun f fd F=>F.binds (ps:=p_L_joined) fun _ _ _ _ _ _ us hl=>match us,hl with | [_,_,_],_=>rfl
theorem Ff{K:W.Frag}:∀f fd,Fun K "_law_about_right" "_law_about_right" s_L_about_right f fd→Binds K fd A3 []:=fun f fd F=>F.binds (ps:=A3) fun _ _ _ _ _ _ us hl=>match us,hl with | [_,_,_],_=>rfl
theorem Nj{K:W.Frag}:∀f fd,Fun K "_law_right" "_law_right" s_L_right f fd→Binds K fd B9 []:=fun f fd F=>F.binds (ps:=B9) fun _ _ _ _ _ _ us hl=>match us,hl with | [_,_,_,_],_=>rfl
theorem Ys{h:Heap}(X:K.In h)(G:h.Ns mainGlobals mg)(z0:PySem.W.nsIn K mainGlobals "len" = some none)(z1:PySem.W.nsIn K mainGlobals "range" = some none)(z2:PySem.W.nsIn K mainGlobals "abs" = some none)(z3:PySem.W.nsIn K mainGlobals "divmod" = some none)(z4:PySem.W.nsIn K mainGlobals "max" = some none)(z5:PySem.W.nsIn K mainGlobals "min" = some none)(z6:PySem.W.nsIn K mainGlobals "tuple" = some none)(z7:PySem.W.nsIn K mainGlobals "int" = some none)(z8:PySem.W.nsIn K mainGlobals "bool" = some none)(z9:PySem.W.nsIn K mainGlobals "list" = some none)(z10:PySem.W.nsIn K mainGlobals "isinstance" = some none)(z11:PySem.W.nsIn K mainGlobals "all" = some none)(z12:PySem.W.nsIn K mainGlobals "sorted" = some none)(z13:PySem.W.nsIn K mainGlobals "repr" = some none)(z14:PySem.W.nsIn K mainGlobals "dict" = some none)(z15:PySem.W.nsIn K mainGlobals "set" = some none):Blt mg:=⟨fun {x} hx=>by
 simp only[Lr,List.mem_cons,List.not_mem_nil,or_false] at hx
 rcases hx with rfl|rfl|rfl|rfl|rfl|rfl|rfl|rfl|rfl|rfl|rfl|rfl|rfl|rfl|rfl|rfl
 ·exact PySem.W.mg_none_of X G z0
 ·exact PySem.W.mg_none_of X G z1
 ·exact PySem.W.mg_none_of X G z2
 ·exact PySem.W.mg_none_of X G z3
 ·exact PySem.W.mg_none_of X G z4
 ·exact PySem.W.mg_none_of X G z5
 ·exact PySem.W.mg_none_of X G z6
 ·exact PySem.W.mg_none_of X G z7
 ·exact PySem.W.mg_none_of X G z8
 ·exact PySem.W.mg_none_of X G z9
 ·exact PySem.W.mg_none_of X G z10
 ·exact PySem.W.mg_none_of X G z11
 ·exact PySem.W.mg_none_of X G z12
 ·exact PySem.W.mg_none_of X G z13
 ·exact PySem.W.mg_none_of X G z14
 ·exact PySem.W.mg_none_of X G z15⟩
theorem Vb{h:Heap}(X:K.In h)(G:h.Ns mainGlobals mg)(B:Blt mg){t0 t1 t2 t3 t4 t5 t6:Tok}(a0:PySem.W.nsIn K mainGlobals "LEAST_COLUMNS" = some (some (.int 2 t0)))(a1:PySem.W.nsIn K mainGlobals "MOST_COLUMNS" = some (some (.int 16 t1)))(a2:PySem.W.nsIn K mainGlobals "LEAST_ROWS" = some (some (.int 1 t2)))(a3:PySem.W.nsIn K mainGlobals "MOST_ROWS" = some (some (.int 9 t3)))(a4:PySem.W.nsIn K mainGlobals "LAND" = some (some (.int 0 t4)))(a5:PySem.W.nsIn K mainGlobals "MOST_DEPTH" = some (some (.int 9 t5)))(a6:PySem.W.nsIn K mainGlobals "LAST_DAY" = some (some (.int 400 t6))):Nums mg:=⟨B,⟨t0,PySem.W.mg_of X G a0⟩,⟨t1,PySem.W.mg_of X G a1⟩,⟨t2,PySem.W.mg_of X G a2⟩,⟨t3,PySem.W.mg_of X G a3⟩,⟨t4,PySem.W.mg_of X G a4⟩,⟨t5,PySem.W.mg_of X G a5⟩,⟨t6,PySem.W.mg_of X G a6⟩⟩
theorem Yu{h:Heap}(X:K.In h)(G:h.Ns mainGlobals mg)(T:Nums mg)(Abk:FnIs K "_law_box" s_L_box)(Abl:FnIs K "_law_more" s_L_more)(Abm:FnIs K "_law_take" s_L_take)(Abn:FnIs K "is_whole_within" s_is_whole_within)(Abo:FnIs K "is_depth" s_is_depth)(Abp:FnIs K "is_day" s_is_day)(Abq:FnIs K "is_column" s_is_column)(Abr:FnIs K "is_sea" s_is_sea)(Abs:FnIs K "check_sea" s_check_sea)(Abt:FnIs K "check_day" s_check_day)(Abu:FnIs K "depth_at" s_depth_at)(Abv:FnIs K "is_cell" s_is_cell)(Abw:FnIs K "check_cell" s_check_cell)(Abx:FnIs K "is_water" s_is_water)(Aby:FnIs K "waters_beside" s_waters_beside)(Abz:FnIs K "one_step_on" s_one_step_on)(Ab0:FnIs K "drift" s_drift)(Ab1:FnIs K "_law_sea" s_L_sea)(Ab2:FnIs K "_law_cell_of" s_L_cell_of)(Ab3:FnIs K "_law_put" s_L_put)(Ab4:FnIs K "_law_joined" s_L_joined)(Ab5:FnIs K "_law_about_right" s_L_about_right)(Ab6:FnIs K "_law_right" s_L_right){f:Addr}{fd:FuncData}(F:Fun K "law" "law" s_law f fd):FnOk P w K mg base CX0 9 f fd Q5 (Ak K Nu):=by
 have Abh:Def P w K mg base CX0 1 "_law_box" p_L_box spBox:=Az Abk X G Tz fun f fd F=>Ya F T.toBlt
 have Aa3:Def P w K mg base CX0 1 "_law_more" Cz Jk:=Az Abl X G Qs fun f fd F=>U7 F T.toBlt
 have Aax:Def P w K mg base CX0 2 "_law_take" p_L_take spTake:=Az Abm X G Qr fun f fd F=>U6 F T.toBlt Aa3
 have Aaz:Def P w K mg base CX0 1 "is_whole_within" Aj Cn:=Az Abn X G Ea fun f fd F=>Sz F T
 have Aa4:Def P w K mg base CX0 2 "is_depth" Bu (Ko 0 9):=Az Abo X G Md fun f fd F=>S3 F T Aaz
 have Aa7:Def P w K mg base CX0 2 "is_day" Cy (Ko 0 400):=Az Abp X G Qq fun f fd F=>X9 F T Aaz
 have Aa5:Def P w K mg base CX0 3 "is_column" Bo Ek:=Az Abq X G Kh fun f fd F=>Pu F T Aa4
 have Aa6:Def P w K mg base CX0 4 "is_sea" Cw Nt:=Az Abr X G Qp fun f fd F=>X6 F T Aa5
 have Aba:Def P w K mg base CX0 5 "check_sea" p_check_sea spCheckSea:=Az Abs X G Ki fun f fd F=>Lz F T Aa6
 have Abc:Def P w K mg base CX0 3 "check_day" p_check_day (spChk 0 400):=Az Abt X G Kj fun f fd F=>L0 F T Aa7
 have Aa8:Def P w K mg base CX0 1 "depth_at" Bv Dq:=Az Abu X G Me fun f fd F=>Na F T
 have Aa0:Def P w K mg base CX0 2 "is_cell" p_is_cell spCell:=Az Abv X G Ni fun f fd F=>U9 F T Aaz
 have Abb:Def P w K mg base CX0 3 "check_cell" Bj Cq:=Az Abw X G Ho fun f fd F=>Kb F T Aa0
 have Aa1:Def P w K mg base CX0 2 "is_water" p_is_water spWater:=Az Abx X G Mc fun f fd F=>S0 F T Aa8
 have Aa9:Def P w K mg base CX0 3 "waters_beside" A2 El:=Az Aby X G Fe fun f fd F=>Px F T Aa0 Aa1
 have Abd:Def P w K mg base CX0 4 "one_step_on" Bc E7:=Az Abz X G Hi fun f fd F=>M9 F T Aa9
 have Aay:Def P w K mg base CX0 6 "drift" p_drift spDrift:=Az Ab0 X G Tw fun f fd F=>S2 F T Aba Abb Abc Aa1 Abd
 have Abi:Def P w K mg base CX0 3 "_law_sea" Dm Mr:=Az Ab1 X G Tx fun f fd F=>U8 F T.toBlt Aax
 have Aa2:Def P w K mg base CX0 3 "_law_cell_of" p_L_cell_of spCellOf:=Az Ab2 X G Kk fun f fd F=>Pw F T.toBlt Aax
 have Abf:Def P w K mg base CX0 1 "_law_put" p_L_put spPut:=Az Ab3 X G Ty fun f fd F=>X7 F T.toBlt
 have Abe:Def P w K mg base CX0 7 "_law_joined" p_L_joined spJoined:=Az Ab4 X G Mf fun f fd F=>Pt F T Aay
 have Abg:Def P w K mg base CX0 7 "_law_about_right" A3 Fu:=Az Ab5 X G Ff fun f fd F=>S4 F T Aay
 have Abj:Def P w K mg base CX0 8 "_law_right" B9 Jr:=Az Ab6 X G Nj fun f fd F=>S1 F T Aay Aax Abe Aa2 Abf Abg
 exact X8 F T Abh Aax Abi Aa2 Abj
end
end K2
open PySem PySem.W PyProof.Rows L2 D3
set_option maxRecDepth 100000 in
set_option maxHeartbeats 0 in
theorem PySem.Challenge.cw_laidmarks_k03_whole_drift_holds : PySem.Challenge.rw_laidmarks_k03_whole_drift.Holds := by
  w_on;o_law;k_head;(case hw=>w_witness2)
  k_fill
  refine L2.Sa (l:=PySem.Challenge.rw_laidmarks_k03_whole_drift) (n:=63) (k:=9) (x:="_law_script") (CX:=CX0) (sp:=fun K=>Ak K Nu) ?I rfl (by decide) rfl ⟨rfl,by decide,by decide,rfl⟩ (fun w h Y=>PySem.W.kIn_of Y) ?F Ye (fun _ _ _ _ z=>z)
  case I=>first | rfl | decide
  case F=>
    intro w mg fa h KX G hmg
    have Abk:FnIs (KOf KX) "_law_box" K2.s_L_box:=by (dsimp only [KOf];refine' Al ?a ?l ?c ?k;(case a=>k_is);(case l=>k_is);(case c=>k_is);(case k=>k_is))
    have Abl:FnIs (KOf KX) "_law_more" K2.s_L_more:=by (dsimp only [KOf];refine' Al ?a ?l ?c ?k;(case a=>k_is);(case l=>k_is);(case c=>k_is);(case k=>k_is))
    have Abm:FnIs (KOf KX) "_law_take" K2.s_L_take:=by (dsimp only [KOf];refine' Al ?a ?l ?c ?k;(case a=>k_is);(case l=>k_is);(case c=>k_is);(case k=>k_is))
    have Abn:FnIs (KOf KX) "is_whole_within" K2.s_is_whole_within:=by (dsimp only [KOf];refine' Al ?a ?l ?c ?k;(case a=>k_is);(case l=>k_is);(case c=>k_is);(case k=>k_is))
    have Abo:FnIs (KOf KX) "is_depth" K2.s_is_depth:=by (dsimp only [KOf];refine' Al ?a ?l ?c ?k;(case a=>k_is);(case l=>k_is);(case c=>k_is);(case k=>k_is))
    have Abp:FnIs (KOf KX) "is_day" K2.s_is_day:=by (dsimp only [KOf];refine' Al ?a ?l ?c ?k;(case a=>k_is);(case l=>k_is);(case c=>k_is);(case k=>k_is))
    have Abq:FnIs (KOf KX) "is_column" K2.s_is_column:=by (dsimp only [KOf];refine' Al ?a ?l ?c ?k;(case a=>k_is);(case l=>k_is);(case c=>k_is);(case k=>k_is))
    have Abr:FnIs (KOf KX) "is_sea" K2.s_is_sea:=by (dsimp only [KOf];refine' Al ?a ?l ?c ?k;(case a=>k_is);(case l=>k_is);(case c=>k_is);(case k=>k_is))
    have Abs:FnIs (KOf KX) "check_sea" K2.s_check_sea:=by (dsimp only [KOf];refine' Al ?a ?l ?c ?k;(case a=>k_is);(case l=>k_is);(case c=>k_is);(case k=>k_is))
    have Abt:FnIs (KOf KX) "check_day" K2.s_check_day:=by (dsimp only [KOf];refine' Al ?a ?l ?c ?k;(case a=>k_is);(case l=>k_is);(case c=>k_is);(case k=>k_is))
    have Abu:FnIs (KOf KX) "depth_at" K2.s_depth_at:=by (dsimp only [KOf];refine' Al ?a ?l ?c ?k;(case a=>k_is);(case l=>k_is);(case c=>k_is);(case k=>k_is))
    have Abv:FnIs (KOf KX) "is_cell" K2.s_is_cell:=by (dsimp only [KOf];refine' Al ?a ?l ?c ?k;(case a=>k_is);(case l=>k_is);(case c=>k_is);(case k=>k_is))
    have Abw:FnIs (KOf KX) "check_cell" K2.s_check_cell:=by (dsimp only [KOf];refine' Al ?a ?l ?c ?k;(case a=>k_is);(case l=>k_is);(case c=>k_is);(case k=>k_is))
    have Abx:FnIs (KOf KX) "is_water" K2.s_is_water:=by (dsimp only [KOf];refine' Al ?a ?l ?c ?k;(case a=>k_is);(case l=>k_is);(case c=>k_is);(case k=>k_is))
    have Aby:FnIs (KOf KX) "waters_beside" K2.s_waters_beside:=by (dsimp only [KOf];refine' Al ?a ?l ?c ?k;(case a=>k_is);(case l=>k_is);(case c=>k_is);(case k=>k_is))
    have Abz:FnIs (KOf KX) "one_step_on" K2.s_one_step_on:=by (dsimp only [KOf];refine' Al ?a ?l ?c ?k;(case a=>k_is);(case l=>k_is);(case c=>k_is);(case k=>k_is))
    have Ab0:FnIs (KOf KX) "drift" K2.s_drift:=by (dsimp only [KOf];refine' Al ?a ?l ?c ?k;(case a=>k_is);(case l=>k_is);(case c=>k_is);(case k=>k_is))
    have Ab1:FnIs (KOf KX) "_law_sea" K2.s_L_sea:=by (dsimp only [KOf];refine' Al ?a ?l ?c ?k;(case a=>k_is);(case l=>k_is);(case c=>k_is);(case k=>k_is))
    have Ab2:FnIs (KOf KX) "_law_cell_of" K2.s_L_cell_of:=by (dsimp only [KOf];refine' Al ?a ?l ?c ?k;(case a=>k_is);(case l=>k_is);(case c=>k_is);(case k=>k_is))
    have Ab3:FnIs (KOf KX) "_law_put" K2.s_L_put:=by (dsimp only [KOf];refine' Al ?a ?l ?c ?k;(case a=>k_is);(case l=>k_is);(case c=>k_is);(case k=>k_is))
    have Ab4:FnIs (KOf KX) "_law_joined" K2.s_L_joined:=by (dsimp only [KOf];refine' Al ?a ?l ?c ?k;(case a=>k_is);(case l=>k_is);(case c=>k_is);(case k=>k_is))
    have Ab5:FnIs (KOf KX) "_law_about_right" K2.s_L_about_right:=by (dsimp only [KOf];refine' Al ?a ?l ?c ?k;(case a=>k_is);(case l=>k_is);(case c=>k_is);(case k=>k_is))
    have Ab6:FnIs (KOf KX) "_law_right" K2.s_L_right:=by (dsimp only [KOf];refine' Al ?a ?l ?c ?k;(case a=>k_is);(case l=>k_is);(case c=>k_is);(case k=>k_is))
    have I_law:FnIs (KOf KX) "law" K2.s_law:=by (dsimp only [KOf];refine' Al ?a ?l ?c ?k;(case a=>k_is);(case l=>k_is);(case c=>k_is);(case k=>k_is))
    have B:K2.Blt mg:=by (refine' K2.Ys KX G ?z0 ?z1 ?z2 ?z3 ?z4 ?z5 ?z6 ?z7 ?z8 ?z9 ?z10 ?z11 ?z12 ?z13 ?z14 ?z15;(case z0=>k_is);(case z1=>k_is);(case z2=>k_is);(case z3=>k_is);(case z4=>k_is);(case z5=>k_is);(case z6=>k_is);(case z7=>k_is);(case z8=>k_is);(case z9=>k_is);(case z10=>k_is);(case z11=>k_is);(case z12=>k_is);(case z13=>k_is);(case z14=>k_is);(case z15=>k_is))
    have T:K2.Nums mg:=by (refine' K2.Vb KX G B ?a0 ?a1 ?a2 ?a3 ?a4 ?a5 ?a6;(case a0=>k_is);(case a1=>k_is);(case a2=>k_is);(case a3=>k_is);(case a4=>k_is);(case a5=>k_is);(case a6=>k_is))
    obtain ⟨f,fd,F,a,kp⟩:=I_law.ex
    have e0:=hmg.symm.trans (PySem.W.mg_of KX G a)
    cases e0
    obtain ⟨oc,od,kV,doc,pm,an,cdv,ct,osl,efd,lk,hcd⟩:=id F.ex
    refine ⟨fd,fun s u=>by (subst efd;exact .of_eq rfl),fun base kb nb=>K2.Yu KX G T Abk Abl Abm Abn Abo Abp Abq Abr Abs Abt Abu Abv Abw Abx Aby Abz Ab0 Ab1 Ab2 Ab3 Ab4 Ab5 Ab6 F⟩

