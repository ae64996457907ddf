import PyProof.Rows.All
import Wide.All
import OpenK.AllK
import Wide.FinOn
import Lean
import PyProof.EqAt
import PyProof.EqKinds
import PyProof.TupleCall
import PyProof.Rows.SortRunsK
import KE.KSortTup
import KE.KDictList
import KE.KDictOf
import PyProof.AttrMissHeap
import PySem.Challenge.RW_laidmarks_k02_drift
set_option linter.all false
set_option Elab.async false
set_option maxRecDepth 100000
namespace PySem.W.Fast
def tw4310409028161646916:=0
def tw11970345052060322876:=0
def tw17814685575582385129:=0
def tw5004027435122370324:=0
def tw9292755569946113313:=0
def tw14390538594825515415:=0
def tw1412225568295841668:=0
def tw1921185185360247283:=0
def tw10909655946381784609:=0
def tw17855000831805439311:=0
def tw353531290827912185:=0
def tw7722809401309812953:=0
def tw13316999774967004543:=0
def tw2009200048260498720:=0
def tw7743974376295172052:=0
def tw16967195634551319248:=0
def tw3319124508045503645:=0
def tw17332409032366028059:=0
def tw4147839614344337665:=0
def tw12054320265272200101:=0
def tw949451148863726112:=0
def tw9809898558882013759:=0
def tw5416084391977776293:=0
def tw8224661639081949619:=0
def tw12207705826191529720:=0
def tw13824927697021640954:=0
def tw5158165879083795382:=0
def tw7677235203787629096:=0
def tw10952954856514273070:=0
def tw16017759471485159033:=0
def tw14425024384590115912:=0
def tw12133260360704063550:=0
def tw17709034858763758849:=0
def tw8537193660028938060:=0
def tw3253337652872738707:=0
def tw7226313988241004622:=0
def tw77534277147442117:=0
def tw11139498345154167703:=0
def tw738542093920519454:=0
def tw11387011368122995103:=0
def tw5781250189996647380:=0
def tw10373448097831878943:=0
def tw1407755837874427305:=0
def tw14774739091462064928:=0
def tw14766826227044722041:=0
def tw8562546049883135216:=0
def tw15500684379909247503:=0
def tw326915781848221230:=0
def tw135106284010255771:=0
def tw14184623930415084853:=0
def tw10117465949096937845:=0
def tw1894951205024193173:=0
def tw6840016350077952593:=0
def tw2647174727043928012:=0
def tw16982176764838409691:=0
def tw280635364875774874:=0
def tw17187234865842052547:=0
def tw14339142790361957850:=0
def tw8679001104705516290:=0
def tw7817654526252772211:=0
def tw814208500375845720:=0
def tw16629057990682999447:=0
def tw4374912065429595201:=0
def tw17280732048891072844:=0
def tw12822436213402137665:=0
def tw6974323977870131824:=0
def tw14250114298058522004:=0
def tw17313135380553507777:=0
def tw1458393034153140396:=0
def tw18367606356904519090:=0
def tw12427851051916993183:=0
def tw87872810314853400:=0
def tw3341655430068291039:=0
def tw7459411712312847590:=0
def tw12798395909412394426:=0
def tw10756021837408987053:=0
def tw8523133104676441629:=0
def tw14762440589704057225:=0
def tw3248905457854448984:=0
def tw10792122242437726703:=0
def tw1050299934672503156:=0
def tw1334638660234436661:=0
def tw12338515117098326618:=0
def tw7160734755014207239:=0
def tw7708178210855656325:=0
def tw8147064348682524670:=0
def tw13469301946538139904:=0
def tw11663676130962952537:=0
def tw10000386700809306821:=0
def tw3690495627974181463:=0
def tw199371409593040441:=0
def tw12979004325692245766:=0
def tw27621284127445623:=0
def tw986187048045837142:=0
def tw10798968495870207908:=0
def tw4407393461709557336:=0
def tw17224290278030939664:=0
def tw10993045834949104082:=0
def tw2136747005628699613:=0
def tw129004681004151935:=0
def tw13595793680017788971:=0
def tw991312675819002810:=0
def tw10235623787287126523:=0
def tw6712681995901305468:=0
def tw7466107205116346452:=0
def tw6953405491255485110:=0
def tw166850761619774001:=0
def tw15009121520284459681:=0
def tw713801763111432933:=0
def tw9644391543947358658:=0
def tw13768770696548088123:=0
def tw16544413393451873595:=0
def tw9406586883812732689:=0
def tw3890711927118418379:=0
def tw2369065976205258616:=0
def tw13722239773778670671:=0
def tw831552366030578682:=0
def tw16429690903487142876:=0
def tw16388238147635909655:=0
def tw18200846825276601043:=0
def tw11347230622149811220:=0
def tw13974116120964737366:=0
def tw17920246951392928007:=0
def tw9073461131284690417:=0
def tw7046466866985521433:=0
def tw1944886619243614282:=0
def tw4330138220623769604:=0
def tw8711414671407241445:=0
def tw15439800233085379396:=0
def tw7045309664507037070:=0
def tw14095424324344446:=0
def tw16921718566265317244:=0
def tw1759201439748133932:=0
def tw7513815836265021417:=0
def tw14751777041178663202:=0
def tw13852275513414214288:=0
def tw2909052257561350890:=0
def tw14817005720936459273:=0
def tw5390220143576793410:=0
def tw7897066077466645726:=0
def tw525380150783713732:=0
def tw13125539192226375865:=0
def tw6134870506026564496:=0
def tw2268956251404136780:=0
def tw10240816128748269071:=0
def tw1400132018217034512:=0
def tw4247427398662633841:=0
def tw10260211434947705914:=0
def tw12342982013539730358:=0
def tw17573067260247915560:=0
def tw9615869702543042538:=0
def tw4270481350008068646:=0
def tw13368756784353275485:=0
def tw4566726389600622249:=0
def tw104734211530568657:=0
def tw2187821355239947233:=0
def tw1865551013985766661:=0
def tw15439667099954843522:=0
def tw10413586561530918663:=0
def tw16917132693558947674:=0
def tw10177965725643254130:=0
def tw255203340149361551:=0
def tw16300854470272030479:=0
def tw7277348302529187212:=0
def tw1145373990625916613:=0
def tw11384274190683248547:=0
def tw3465797533455809395:=0
def tw17543684105634460519:=0
def tw11516959393591115500:=0
def tw14214078819515289844:=0
def tw7810256034020747972:=0
def tw12167745486918293083:=0
def tw8507046837309010719:=0
def tw6509004212894369615:=0
def tw11347006487949434425:=0
def tw11890501956665684948:=0
def tw17203994149472688943:=0
def tw12370006148031259537:=0
def tw12482998188665704284:=0
def tw4363192274170079580:=0
def tw3797135291337882650:=0
def tw8912673586485339553:=0
def tw450589338151202101:=0
def tw10397211629157097375:=0
def tw1361260421510370981:=0
def tw6834654520698612550:=0
def tw5667133088153415124:=0
def tw14037856495840131963:=0
def tw11448425376796143578:=0
def tw5955454648245819110:=0
def tw1023646344117909286:=0
def tw5460015625528565130:=0
def tw11062765134331766822:=0
def tw12249777042215087924:=0
def tw4166764602572493768:=0
def tw3723574057435470984:=0
def tw2900214082796773969:=0
def tw4168911996048732633:=0
def tw10316416577529498903:=0
def tw8165290974419197151:=0
end PySem.W.Fast
namespace L2
open PySem PySem.Spec PyProof.Rows
abbrev Key:=Sum Int Str
def Gg:Key→Value→Bool
 |.inl k,v=>Value.isInt k v
 |.inr x,v=>Value.isStrOf x v
def keyH(w:World):Key→Int
 |.inl k=>hashInt k
 |.inr x=>hashStr w x
theorem A1:∀{k:Key} {v:Value},Gg k v=true→(∃i t,k=Sum.inl i∧v=Value.int i t)∨(∃x t,k=Sum.inr x∧v=Value.str x t)
 |.inl i,v,h=>by
  obtain⟨t,e⟩:=Value.isInt_shape (k:=i) (v:=v) h
  exact .inl ⟨i,t,rfl,e⟩
 |.inr x,v,h=>by
  obtain⟨t,e⟩:=Value.isStrOf_shape (x:=x) (v:=v) h
  exact .inr ⟨x,t,rfl,e⟩
theorem Ni(i:Int)(t:Tok):Gg (.inl i) (.int i t)=true:=by simp[Gg,Value.isInt]
theorem Nh(x:Str)(t:Tok):Gg (.inr x) (.str x t)=true:=by simp[Gg,Value.isStrOf]
theorem Ur(a b:Int):decide ((Sum.inl a:Key)=Sum.inl b)=(a == b):=by
 by_cases e:a=b
 ·subst e;simp
 ·have h:¬(Sum.inl a:Key)=Sum.inl b:=fun q=>e (Sum.inl.inj q)
  rw[decide_eq_false h]
  exact(beq_eq_false_iff_ne.mpr e).symm
theorem Um(a b:Str):decide ((Sum.inr a:Key)=Sum.inr b)=decide (a=b):=by
 by_cases e:a=b
 ·subst e;simp
 ·have h:¬(Sum.inr a:Key)=Sum.inr b:=fun q=>e (Sum.inr.inj q)
  rw[decide_eq_false h,decide_eq_false e]
theorem Uq(a:Int)(b:Str):decide ((Sum.inl a:Key)=Sum.inr b)=false:=decide_eq_false (fun q=>nomatch q)
theorem Uo(a:Str)(b:Int):decide ((Sum.inr a:Key)=Sum.inl b)=false:=decide_eq_false (fun q=>nomatch q)

def Ax(prog:Program)(w:World):PySem.KeyKind prog w Key where
 is:=Gg
 hash:=keyH w
 inj:=fun v a b ha hb=>by
  rcases A1 ha with ⟨i,t,rfl,rfl⟩|⟨x,t,rfl,rfl⟩
  ·rcases A1 hb with ⟨j,u,rfl,e⟩|⟨y,u,rfl,e⟩
   ·injection e with e1 _;rw[e1]
   ·exact nomatch e
  ·rcases A1 hb with ⟨j,u,rfl,e⟩|⟨y,u,rfl,e⟩
   ·exact nomatch e
   ·injection e with e1 _;rw[e1]
 byValue:=fun k v h=>by
  rcases A1 h with ⟨i,t,rfl,rfl⟩|⟨x,t,rfl,rfl⟩<;>rfl
 pyHash:=fun hv h=>by
  rcases A1 hv with ⟨i,t,rfl,rfl⟩|⟨x,t,rfl,rfl⟩
  ·exact wpAny_pyHash_int h
  ·exact wpAny_pyHash_str h
 eqBool:=fun hu hv h=>by
  rcases A1 hu with ⟨i,t,rfl,rfl⟩|⟨x,t,rfl,rfl⟩
  ·rcases A1 hv with ⟨j,u,rfl,rfl⟩|⟨y,u,rfl,rfl⟩
   ·rw[Ur] at h;exact wpAny_eqBool_int h
   ·rw[Uq] at h;exact SeqAt.EqAt.int_str i t y u _ _ _ _ h
  ·rcases A1 hv with ⟨j,u,rfl,rfl⟩|⟨y,u,rfl,rfl⟩
   ·rw[Uo] at h;exact SeqAt.EqAt.str_int x t j u _ _ _ _ h
   ·rw[Um] at h;exact wpAny_eqBool_str h
 «strs»:=fun k x t v h=>by
  rcases A1 h with ⟨i,u,rfl,e⟩|⟨y,u,rfl,e⟩
  ·exact nomatch e
  ·injection e with e1 _
   subst e1
   cases v<;>rfl

theorem J7(prog:Program)(w:World)(i:Int)(t:Tok):(Ax prog w).is (.inl i) (.int i t)=true:=Ni i t
theorem J6(prog:Program)(w:World)(x:Str)(t:Tok):(Ax prog w).is (.inr x) (.str x t)=true:=Nh x t
end L2
namespace L2
open PySem PySem.Spec PyProof.Rows
inductive V where
 |non|bl (b:Bool)|int (i:Int)|str (x:Str)|byt (b:Array UInt8)|flt (b:UInt64)|ref (a:Addr)|ty (n:String)
 deriving DecidableEq

def RelV:V→Value→Prop
 |.non,u=>u=Value.none
 |.bl b,u=>u=Value.bool b
 |.int i,u=>∃t,u=Value.int i t
 |.str x,u=>∃t,u=Value.str x t
 |.byt b,u=>∃t,u=Value.bytes b t
 |.flt b,u=>∃t,u=Value.float b t
 |.ref a,u=>u=Value.ref a
 |.ty n,u=>u=Value.type n

abbrev Vals:List V→List Value→Prop:=Paired RelV
theorem Vals.length{xs:List V}{us:List Value}(r:Vals xs us):xs.length=us.length:=Paired.length r
theorem Vals.get:∀{xs:List V} {us:List Value} {i:Nat} {x:V},Vals xs us→xs[i]? = some x→∃u,us[i]? = some u∧RelV x u
 |_,_,_,_,.nil,e=>by simp at e
 |_,_,0,_,.cons r _,e=>by simp at e;subst e;exact⟨_,rfl,r⟩
 |_,_,i+1,x,.cons _ t,e=>by
  obtain⟨u,h1,h2⟩:=Vals.get (i:=i) (x:=x) t (by simpa using e)
  exact⟨u,by simpa using h1,h2⟩
theorem Vals.set{x:V}{u:Value}(r:RelV x u):∀{xs:List V} {us:List Value} (i:Nat),Vals xs us→Vals (xs.set i x) (us.set i u)
 |_,_,_,.nil=>.nil
 |_,_,0,.cons _ t=>.cons r t
 |_,_,i+1,.cons q t=>.cons q (Vals.set r i t)
theorem Vals.append:∀{xs ys:List V} {us ws:List Value},Vals xs us→Vals ys ws→Vals (xs++ys) (us++ws)
 |_,_,_,_,.nil,s=>s
 |_,_,_,_,.cons r t,s=>.cons r (Vals.append t s)
theorem Vals.take:∀{xs:List V} {us:List Value} (n:Nat),Vals xs us→Vals (xs.take n) (us.take n)
 |_,_,0,_=>.nil
 |_,_,_+1,.nil=>.nil
 |_,_,n+1,.cons r t=>.cons r (Vals.take n t)
theorem Vals.drop:∀{xs:List V} {us:List Value} (n:Nat),Vals xs us→Vals (xs.drop n) (us.drop n)
 |_,_,0,r=>r
 |_,_,_+1,.nil=>.nil
 |_,_,n+1,.cons _ t=>Vals.drop n t
def RelO:Option V→Option Value→Prop
 |some v,some u=>RelV v u
 |none,none=>True
 |_,_=>False
def KV{κ:Type}:List (κ×V)→List (κ×Value)→Prop:=Paired fun(p:κ×V) (q:κ×Value)=>p.1=q.1∧RelV p.2 q.2

def kV:Key→V
 |.inl i=>.int i
 |.inr x=>.str x

inductive HO where
 /-- a list -/
 |lst (xs:List V)
 /-- a tuple (never changes) -/
 |tup (xs:List V)
 /-- a dict whose keys are ints and texts;one whose keys are tuples of ints and texts (the empty one is both) -/
 |dK (kvs:List (Key×V))|dT (kvs:List (List Key×V))
 /-- a set of ints: its members,its size -/
 |set (S:Int→Bool) (n:Nat)
 /-- an instance of the class at C,its dict at dx,its attributes -/
 |ins (C dx:Addr) (fs:List (Str×V))
 /-- the dict of the instance at x -/
 |own (x:Addr)
 /-- the dict of an exception -/
 |xd (fs:List (Str×V))
 /-- a bound method,f of x -/
 |met (f x:Addr)
 /-- a range object lo,lo+1,.. below hi -/
 |rng (lo hi:Int)
 /-- a thing that is known to the object (the script;a dict while a loop walks it): read,never written while it is so -/
 |frz (o:Obj) (u:HO)
 /-- a code object's table -/
 |tbl (ps:Array Value)
 /-- any other thing,by what is true of its one object (a def of one's own: SetO a S n:=HO.ext fun h=>..) -/
 |ext (φ:Heap→Prop)

abbrev Hp:=Addr→Option HO
def upd(H:Hp)(a:Addr)(o:HO):Hp:=fun b=>if b=a then some o else H b
theorem A4{H:Hp}{a:Addr}{o:HO}:upd H a o a=some o:=by unfold upd;rw[if_pos rfl]
theorem Al{H:Hp}{a b:Addr}{o:HO}(h:b≠a):upd H a o b=H b:=by unfold upd;rw[if_neg h]
theorem Qt{H:Hp}{a:Addr}{o u:HO}:upd (upd H a o) a u=upd H a u:=by
 funext b;unfold upd;split<;>rfl
theorem Lr{H:Hp}{a b:Addr}{o u:HO}(h:H a=some o)(h':H b=some u)(d:o≠u):a≠b:=by
 intro e;subst e;rw[h] at h';exact d (Option.some.inj h')
theorem Aw{H:Hp}{a b:Addr}{o:HO}(h:H a=some o)(h':H b=none):a≠b:=by
 intro e;subst e;rw[h] at h';cases h'

section
variable(P:Program)(w:World)
def ObjOk(H:Hp)(h:Heap)(a:Addr):HO→Prop
 |.lst xs=>xs.length≤sizeLine∧∃(its:List Value) (n:Nat),Vals xs its∧h.get? a=some { cls:=.type "list",data:=.seq its.toArray n }
 |.tup xs=>xs.length≤sizeLine∧∃its:List Value,Vals xs its∧IsTup h a its.toArray
 |.dK kvs=>kvs.length≤sizeLine∧(a == sysModules)=false∧∃vs,KV kvs vs∧h.DictOf (Ax P w) a vs
 |.dT kvs=>kvs.length≤sizeLine∧(a == sysModules)=false∧∃xs:List (List Key×Addr×Value),
   Paired (fun(p:List Key×V) (q:List Key×Addr×Value)=>p.1=q.1∧H q.2.1=some (.tup (p.1.map kV))∧RelV p.2 q.2.2) kvs xs∧
   ∃o es ep,h.get? a=some o∧o.ExactDict∧o.data=.dict es ep∧es.toList=xs.map (entryOfKey (tupleKind (Ax P w)))∧(xs.map (·.1)).Nodup
 |.set S n=>h.SetOf (intKind P w) a S n
 |.ins C dx fs=>H dx=some (.own a)∧fs.length≤1000∧dx≠a∧h.get? a=some (PySem.W.instObj C dx)∧
   ∃mA,h.Ns1 dx mA∧(∀f,RelO (fs.lookup f) (mA f))∧PySem.Within mA (fs.map (·.1))
 |.own _=>∃o,h.get? a=some o
 |.xd fs=>∃mA,h.Ns1 a mA∧∀f,RelO (fs.lookup f) (mA f)
 |.rng lo hi=>∃t u v,h.get? a=some { cls:=.type "range",data:=.fields #[.int lo t,.int hi u,.int 1 v] }
 |.frz o u=>h.get? a=some o∧ObjOk H h a u
 |.tbl ps=>h.get? a=some { cls:=.none,data:=.fields ps }
 |.met f x=>h.get? a=some (PySem.W.methodObj (.ref f) (.ref x))
 |.ext φ=>φ h∧(∃o,h.get? a=some o)∧∀h1 h2:Heap,φ h1→(∀o,h1.get? a=some o→h2.get? a=some o)→φ h2
def HOk(H:Hp)(h:Heap):Prop:=∀a o,H a=some o→ObjOk P w H h a o
end
section
variable{P:Program}{w:World}{H H':Hp}{h h':Heap}{a:Addr}{o:HO}
theorem ObjOk.lt(x:ObjOk P w H h a o):a<h.objs.size:=by
 cases o with
 |lst xs=>obtain⟨_,_,_,_,e⟩:=x;exact Heap.lt_size e
 |tup xs=>obtain⟨_,_,_,p⟩:=x;exact p.lt
 |dK kvs=>obtain⟨_,_,_,_,o,_,_,e,_⟩:=x;exact Heap.lt_size e
 |dT kvs=>obtain⟨_,_,_,_,o,_,_,e,_⟩:=x;exact Heap.lt_size e
 |set S n=>obtain⟨o,_,_,_,e,_⟩:=x;exact Heap.lt_size e
 |ins C dx fs=>obtain⟨_,_,_,e,_⟩:=x;exact Heap.lt_size e
 |own y=>obtain⟨_,e⟩:=x;exact Heap.lt_size e
 |xd fs=>obtain⟨_,⟨_,_,_,e,_⟩,_⟩:=x;exact Heap.lt_size e
 |rng lo hi=>obtain⟨_,_,_,e⟩:=x;exact Heap.lt_size e
 |frz ob u=>obtain⟨e,_⟩:=x;exact Heap.lt_size e
 |tbl ps=>exact Heap.lt_size (show h.get? a=some _ from x)
 |met f y=>exact Heap.lt_size (show h.get? a=some _ from x)
 |ext φ=>obtain⟨_,⟨_,e⟩,_⟩:=x;exact Heap.lt_size e
theorem Paired.mapP{α β:Type}{F G:α→β→Prop}:∀{l₁:List α} {l₂:List β},Paired F l₁ l₂→(∀a b,F a b→G a b)→Paired G l₁ l₂
 |_,_,.nil,_=>.nil
 |_,_,.cons r t,f=>.cons (f _ _ r) (Paired.mapP t f)
theorem ObjOk.stay(x:ObjOk P w H h a o)(k:∀b u,(b=a∨H b=some (.own a))→h.get? b=some u→h'.get? b=some u)(ho:∀b,H b=some (.own a)→H' b=some (.own a))(ht:∀b xs,H b=some (.tup xs)→H' b=some (.tup xs)):ObjOk P w H' h' a o:=by
 induction o with
 |lst xs=>obtain⟨z,its,n,r,e⟩:=x;exact⟨z,its,n,r,k _ _ (.inl rfl) e⟩
 |tup xs=>obtain⟨z,its,r,ob,e,c⟩:=x;exact⟨z,its,r,ob,k _ _ (.inl rfl) e,c⟩
 |dK kvs=>obtain⟨z,y,vs,r,ob,es,ep,e,c⟩:=x;exact⟨z,y,vs,r,ob,es,ep,k _ _ (.inl rfl) e,c⟩
 |dT kvs=>
  obtain⟨z,y,xs,r,ob,es,ep,e,c⟩:=x
  exact⟨z,y,xs,Paired.mapP r fun p q z=>⟨z.1,ht _ _ z.2.1,z.2.2⟩,ob,es,ep,k _ _ (.inl rfl) e,c⟩
 |set S n=>obtain⟨ob,es,ep,t,e,c⟩:=x;exact⟨ob,es,ep,t,k _ _ (.inl rfl) e,c⟩
 |ins C dx fs=>
  obtain⟨d,z,ne,e,mA,⟨od,es,ep,e2,c⟩,r⟩:=x
  exact⟨ho _ d,z,ne,k _ _ (.inl rfl) e,mA,⟨od,es,ep,k _ _ (.inr d) e2,c⟩,r⟩
 |own y=>obtain⟨ob,e⟩:=x;exact⟨ob,k _ _ (.inl rfl) e⟩
 |xd fs=>obtain⟨mA,⟨od,es,ep,e,c⟩,r⟩:=x;exact⟨mA,⟨od,es,ep,k _ _ (.inl rfl) e,c⟩,r⟩
 |rng lo hi=>obtain⟨t,u,v,e⟩:=x;exact⟨t,u,v,k _ _ (.inl rfl) e⟩
 |frz ob u ih=>obtain⟨e,q⟩:=x;exact⟨k _ _ (.inl rfl) e,ih q⟩
 |tbl ps=>
  have e:h.get? a=some { cls:=.none,data:=.fields ps }:=x
  show h'.get? a=some { cls:=.none,data:=.fields ps }
  exact k a _ (.inl rfl) e
 |met f y=>
  have e:h.get? a=some (PySem.W.methodObj (.ref f) (.ref y)):=x
  show h'.get? a=some (PySem.W.methodObj (.ref f) (.ref y))
  exact k a _ (.inl rfl) e
 |ext φ=>obtain⟨p,⟨o,e⟩,st⟩:=x;exact⟨st _ _ p fun o q=>k _ _ (.inl rfl) q,⟨o,k _ _ (.inl rfl) e⟩,st⟩
theorem HOk.lt(x:HOk P w H h)(e:H a=some o):a<h.objs.size:=(x a o e).lt
theorem HOk.fresh(x:HOk P w H h)(e:h.objs.size≤a):H a=none:=by
 cases q:H a with
 |none=>rfl
 |some u=>exact absurd (Nat.lt_of_lt_of_le (x.lt q) e) (Nat.lt_irrefl _)
theorem HOk.kept(x:HOk P w H h)(k:∀b u,h.get? b=some u→h'.get? b=some u):HOk P w H h':=fun a o e=>
 (x a o e).stay (fun b u _ q=>k b u q) (fun _ q=>q) fun _ _ q=>q
theorem HOk.laid(x:HOk P w H h)(k:∀b u,h.get? b=some u→h'.get? b=some u)(hp:h.objs.size≤a)(new:ObjOk P w (upd H a o) h' a o):HOk P w (upd H a o) h':=fun b u e=>by
 have hn:=x.fresh hp
 by_cases hb:b=a
 ·subst hb;rw[A4] at e;cases e;exact new
 ·rw[Al hb] at e
  exact(x b u e).stay (fun c v _ q=>k c v q) (fun c q=>by rw[Al (Aw q hn)];exact q) fun c xs q=>by rw[Al (Aw q hn)];exact q
end
def Rd(H:Hp)(a:Addr)(u:HO):Prop:=H a=some u∨∃o,H a=some (.frz o u)
theorem Rd.ok{P:Program}{w:World}{H:Hp}{h:Heap}{a:Addr}{u:HO}(r:Rd H a u)(x:HOk P w H h):ObjOk P w H h a u:=by
 rcases r with r|⟨o,r⟩
 ·exact x a u r
 ·obtain⟨_,q⟩:=x a _ r
  exact q
def Mut:Option HO→Prop
 |some (.lst _)=>True
 |some (.dK _)=>True
 |some (.dT _)=>True
 |some (.set _ _)=>True
 |some (.ins _ _ _)=>True
 |some (.ext _)=>True
 |_=>False
section
variable{P:Program}{w:World}{H:Hp}{h h':Heap}{x e:Addr}{o':HO}
theorem HOk.write(ok:HOk P w H h)(mu:Mut (H x))(he:e=x∨H e=some (.own x))(k:∀b u,b≠e→h.get? b=some u→h'.get? b=some u)(heo:∃u,h'.get? e=some u)(new:ObjOk P w (upd H x o') h' x o'):HOk P w (upd H x o') h':=fun b u q=>by
 have nown:∀c y,H c=some (.own y)→c≠x:=fun c y r z=>by subst z;rw[r] at mu;exact mu
 have ntup:∀c xs,H c=some (.tup xs)→c≠x:=fun c xs r z=>by subst z;rw[r] at mu;exact mu
 by_cases hb:b=x
 ·subst hb;rw[A4] at q;cases q;exact new
 ·rw[Al hb] at q
  by_cases hbe:b=e
  ·have q':H b=some (.own x):=by
    rcases he with z|z
    ·exact absurd (hbe.trans z) hb
    ·rw[hbe];exact z
   rw[q] at q';cases q'
   obtain⟨v,hv⟩:=heo
   exact⟨v,by rw[hbe];exact hv⟩
  ·refine(ok b u q).stay (fun c v hc r=>k c v ?_ r) (fun c r=>by rw[Al (nown c b r)];exact r) fun c xs r=>by rw[Al (ntup c xs r)];exact r
   rcases hc with rfl|hc
   ·exact hbe
   ·rintro rfl
    rcases he with z|z
    ·exact nown c b hc z
    ·rw[hc] at z;cases z;exact hb rfl
end
structure Un(fs ex:List Addr)(H H':Hp)(h h':Heap):Prop where
 keep:∀b o,h.get? b=some o→H b=none→b ∉ fs→b ∉ ex→h'.get? b=some o
 slot:∀b o,h.get? b=some o→H b=none→b∈fs→b ∉ ex→∃sl,h'.get? b=some { o with slots:=sl }
 free:∀b o,h.get? b=some o→H b=none→b ∉ ex→H' b=none
 there:∀b o,h.get? b=some o→b ∉ ex→∃o',h'.get? b=some o'
 tups:∀b xs,H b=some (.tup xs)→H' b=some (.tup xs)
 frzs:∀b o u,H b=some (.frz o u)→H' b=some (.frz o u)
 tbls:∀b ps,H b=some (.tbl ps)→∃more,H' b=some (.tbl (ps++more))
section
variable{fs fs' ex ex':List Addr}{H H1 H2:Hp}{h h1 h2 h':Heap}{a x e:Addr}{o:HO}
theorem Un.any(u:Un fs ex H H1 h h1){b:Addr}{ob:Obj}(q:h.get? b=some ob)(n:H b=none)(hx:b ∉ ex):∃sl,h1.get? b=some { ob with slots:=sl }:=by
 by_cases hb:b∈fs
 ·exact u.slot b ob q n hb hx
 ·exact⟨ob.slots,u.keep b ob q n hb hx⟩
theorem Un.trans(a:Un fs ex H H1 h h1)(b:Un fs ex H1 H2 h1 h2):Un fs ex H H2 h h2 where
 keep:=fun c ob q n hc hx=>b.keep c ob (a.keep c ob q n hc hx) (a.free c ob q n hx) hc hx
 slot:=fun c ob q n hc hx=>by
  obtain⟨sl,e1⟩:=a.slot c ob q n hc hx
  obtain⟨sl',e2⟩:=b.slot c _ e1 (a.free c ob q n hx) hc hx
  exact⟨sl',e2⟩
 free:=fun c ob q n hx=>by
  obtain⟨o',e1⟩:=a.there c ob q hx
  exact b.free c o' e1 (a.free c ob q n hx) hx
 there:=fun c ob q hx=>by
  obtain⟨o',e1⟩:=a.there c ob q hx
  exact b.there c o' e1 hx
 tups:=fun c xs q=>b.tups c xs (a.tups c xs q)
 frzs:=fun c ob xs q=>b.frzs c ob xs (a.frzs c ob xs q)
 tbls:=fun c ps q=>by
  obtain⟨m1,e1⟩:=a.tbls c ps q
  obtain⟨m2,e2⟩:=b.tbls c _ e1
  exact⟨m1++m2,by rw[e2,Array.append_assoc]⟩
theorem Un.kept(k:∀b u,h.get? b=some u→h'.get? b=some u):Un fs ex H H h h':=
 ⟨fun b ob q _ _ _=>k b ob q,fun b ob q _ _ _=>⟨ob.slots,k b ob q⟩,fun _ _ _ n _=>n,fun b ob q _=>⟨ob,k b ob q⟩,fun _ _ q=>q,fun _ _ _ q=>q,fun _ ps q=>⟨#[],by rw[q];simp⟩⟩
theorem Un.refl:Un fs ex H H h h:=Un.kept fun _ _ q=>q
theorem Un.laid(k:∀b u,h.get? b=some u→h'.get? b=some u)(hp:h.objs.size≤a)(hn:H a=none):Un fs ex H (upd H a o) h h' where
 keep:=fun b u q _ _ _=>k b u q
 slot:=fun b u q _ _ _=>⟨u.slots,k b u q⟩
 free:=fun b u q n _=>by rw[Al (Nat.ne_of_lt (Nat.lt_of_lt_of_le (Heap.lt_size q) hp))];exact n
 there:=fun b u q _=>⟨u,k b u q⟩
 tups:=fun b xs q=>by rw[Al (Aw q hn)];exact q
 frzs:=fun b u xs q=>by rw[Al (Aw q hn)];exact q
 tbls:=fun b ps q=>⟨#[],by rw[Al (Aw q hn),q];simp⟩
theorem Un.write(mu:Mut (H x))(he:e=x∨H e=some (.own x))(k:∀b u,b≠e→h.get? b=some u→h'.get? b=some u)(heo:∃u,h'.get? e=some u):Un fs ex H (upd H x o) h h':=by
 have hx:∀b,H b=none→b≠x:=fun b n z=>by subst z;rw[n] at mu;exact mu
 have hb:∀b,H b=none→b≠e:=fun b n z=>by
  subst z
  rcases he with r|r
  ·exact hx b n r
  ·rw[n] at r;cases r
 have hm:∀b u,H b=some u→¬Mut (some u)→b≠x:=fun b u q nm z=>by subst z;rw[q] at mu;exact nm mu
 refine⟨fun b u q n _ _=>k b u (hb b n) q,fun b u q n _ _=>⟨u.slots,k b u (hb b n) q⟩,fun b u q n _=>by rw[Al (hx b n)];exact n,fun b u q _=>?_,
  fun b xs q=>by rw[Al (hm b _ q fun z=>z)];exact q,fun b u xs q=>by rw[Al (hm b _ q fun z=>z)];exact q,fun b ps q=>⟨#[],by rw[Al (hm b _ q fun z=>z),q];simp⟩⟩
 by_cases hbe:b=e
 ·subst hbe;exact heo
 ·exact⟨u,k b u hbe q⟩
end
def trk(h:Heap)(H:Hp):List Addr:=(List.range h.objs.size).filter fun a=>(H a).isSome
def Hn(h:Heap)(H:Hp):Heap:=PySem.W.hideAll h (trk h H)
theorem No(h:Heap)(H:Hp):(Hn h H).objs.size=h.objs.size:=PySem.W.hideAll_size _ _
theorem P7{h:Heap}{H:Hp}{b:Addr}{o:Obj}(e:h.get? b=some o)(n:H b=none):(Hn h H).get? b=some o:=
 PySem.W.hideAll_get _ e fun hm=>by
  have q:(H b).isSome=true:=(List.mem_filter.mp hm).2
  rw[n] at q;simp at q
theorem Ro{h:Heap}{H:Hp}{b:Addr}{o:Obj}(e:(Hn h H).get? b=some o):h.get? b=some o∧H b=none:=by
 have e':h.get? b=some o:=PySem.W.of_hideAll (trk h H) e
 refine⟨e',?_⟩
 cases q:H b with
 |none=>rfl
 |some x=>
  have hm:b∈trk h H:=List.mem_filter.mpr ⟨List.mem_range.mpr (Heap.lt_size e'),by simp[q]⟩
  have z:(Hn h H).get? b=none:=PySem.W.hideAll_none (trk h H) hm
  rw[z] at e;cases e

def R7(g h:Heap)(L:Addr):List (Addr×Obj):=(List.range h.objs.size).filterMap fun a=>if a=L∨(g.get? a).isSome=true then none else (h.get? a).map fun o=>(a,o)
def Cg(g h:Heap)(L d:Addr):List (Addr×Obj):=(R7 g h L).filter fun p=>decide (p.1≠d)
end L2
namespace L2
open PySem PySem.Spec PyProof.Rows
structure Mod(K:PySem.W.Frag)(mg:Str→Option Value)(base:Heap):Prop where
 kin:K.In base
 glob:base.Ns mainGlobals mg
 sm:∃mm,base.Ns sysModules mm
 bm:∃bm ob,mg "__builtins__" = some (.ref bm)∧bm≠builtinsNs∧base.get? bm=some ob∧ob.cls=.type "module"∧ob.dict=some builtinsNs∧ob.data=.plain
 blt:∃mb,base.Ns builtinsNs mb∧∀x:Str,x≠"__name__"→mb x=bootBuiltins x
 nolimit:base.NoLimit

structure Cx where
 prog:Program
 w:World
 K:PySem.W.Frag
 mg:Str→Option Value
 base:Heap
 A:Around
 N:List Str
 s₀:Shared
 H₀:Hp
 env:Env
 outer:List Env
 stack:List Env
 ex:List Addr
 fn:Str→Bool
 calm:Bool
 pn:List (Addr×Obj)
 xe:Value→Shared→Prop
def frs(l:List Env):List Addr:=l.filterMap (·.frame)
abbrev Cx.fs(X:Cx):List Addr:=frs X.outer

def Vis(sc:Scope)(x:Str):Prop:=sc.names.lookup x=some .local∨sc.names.lookup x=some .cell∨sc.names.lookup x=some .free
def Loc(sc:Scope)(x:Str):Prop:=sc.names.lookup x=some .local∨sc.names.lookup x=some .cell
def Look(env:Env)(h:Heap)(m:Str→Option Value)(x:Str)(u:Value):Prop:=
 (env.kindOf x=some .local∧m x=some u)∨((env.kindOf x=some .cell∨env.kindOf x=some .free)∧∃c,env.cells.lookup x=some c∧h.IsCell c (some u))

structure Cx.Ok(X:Cx):Prop where
 mod:Mod X.K X.mg X.base
 kind:X.env.scope.kind=.function
 glob:X.env.globals=mainGlobals
 blt:X.env.builtins=builtinsNs
 above:X.s₀.heap.objs.size≤X.env.locals
 inj:∀x y c,X.env.cells.lookup x=some c→X.env.cells.lookup y=some c→x=y
 has:∀x,(X.env.kindOf x=some .cell∨X.env.kindOf x=some .free)→∃c,X.env.cells.lookup x=some c
 cab:∀x c,X.fn x=true→X.env.cells.lookup x=some c→X.s₀.heap.objs.size≤c
 hd:X.calm=true→X.A.handled=none
 frames:X.A.frames=some X.stack
 stk:X.stack=X.outer∨(X.stack=X.env::X.outer∧X.env.frame=some X.env.locals)
 exf:∀b∈X.ex,b≠X.env.locals∧∀x c,X.env.cells.lookup x=some c→c≠b
 bs:∀b o,X.base.get? b=some o→X.s₀.heap.get? b=some o∧X.H₀ b=none
 bsz:X.base.objs.size≤X.s₀.heap.objs.size
 noex:∀b o,X.base.get? b=some o→b ∉ X.ex
 exfs:∀b∈X.ex,b ∉ X.fs
 funs:X.s₀.heap.FunFrames X.base X.outer
 frf:∀b∈X.fs,X.H₀ b=none

structure Inv(X:Cx)(pins:List (Addr×Obj))(σ:List (Option V))(H:Hp)(s:Shared):Prop where
 ok:X.Ok
 os:s.os=X.s₀.os
 bare:AllBare s.gens
 base:Un X.fs X.ex X.H₀ H X.s₀.heap s.heap
 loc:∃m,s.heap.Ns X.env.locals m∧∀(i:Nat) (x:Str) (v:V),X.N[i]? = some x→σ[i]? = some (some v)→Vis X.env.scope x→∃u,RelV v u∧Look X.env s.heap m x u
 cell:∀x c,X.env.cells.lookup x=some c→∃v,s.heap.IsCell c v
 free:H X.env.locals=none
 freeC:∀x c,X.env.cells.lookup x=some c→H c=none
 pin:∀p∈X.pn++pins,s.heap.get? p.1=some p.2∧H p.1=none∧p.1≠X.env.locals∧p.1 ∉ X.fs∧∀v,p.2.data≠.cell v
 hok:HOk X.prog X.w H s.heap
 len:σ.length=X.N.length

section
variable{X:Cx}{pins:List (Addr×Obj)}{σ:List (Option V)}{H H':Hp}{s:Shared}{h':Heap}
theorem Cx.Ok.nofr(ok:X.Ok){b:Addr}{o:Obj}(e:X.base.get? b=some o):b ∉ X.fs:=fun hb=>by
 have:=(ok.funs.mem hb).1
 rw[e] at this;cases this
theorem Inv.bs(I:Inv X pins σ H s):∀b o,X.base.get? b=some o→s.heap.get? b=some o∧H b=none:=fun b o e=>
 ⟨I.base.keep b o (I.ok.bs b o e).1 (I.ok.bs b o e).2 (I.ok.nofr e) (I.ok.noex b o e),I.base.free b o (I.ok.bs b o e).1 (I.ok.bs b o e).2 (I.ok.noex b o e)⟩
theorem Inv.bk(I:Inv X pins σ H s):∀b o,X.base.get? b=some o→s.heap.get? b=some o:=fun b o e=>(I.bs b o e).1
theorem Inv.mod(I:Inv X pins σ H s):Mod X.K X.mg X.base:=I.ok.mod
theorem Inv.kIn(I:Inv X pins σ H s):X.K.In s.heap:=I.ok.mod.kin.keeps I.bk
theorem Inv.lt(I:Inv X pins σ H s):X.env.locals<s.heap.objs.size:=let ⟨_,hn,_⟩:=I.loc;hn.lt
theorem Inv.sz(I:Inv X pins σ H s):X.s₀.heap.objs.size≤s.heap.objs.size:=Nat.le_trans I.ok.above (Nat.le_of_lt I.lt)
theorem Inv.nofs(I:Inv X pins σ H s){a:Addr}(h:s.heap.objs.size≤a):a ∉ X.fs:=fun hb=>by
 obtain⟨_,o,ho,_⟩:=I.ok.funs.mem hb
 exact absurd (Nat.lt_of_lt_of_le (Heap.lt_size ho) (Nat.le_trans I.sz h)) (Nat.lt_irrefl _)
theorem Inv.cne(I:Inv X pins σ H s):∀x c,X.env.cells.lookup x=some c→c≠X.env.locals:=fun x c e z=>by
 obtain⟨v,o,ho,hd⟩:=I.cell x c e
 obtain⟨m,⟨o',es,ep,ho',hd',_⟩,_⟩:=I.loc
 rw[z,ho'] at ho;cases ho;rw[hd'] at hd;cases hd
theorem Inv.funs(I:Inv X pins σ H s):s.heap.FunFrames X.base X.outer:=by
 have all:∀(l:List Env),(∀b∈frs l,b∈X.fs)→X.s₀.heap.FunFrames X.base l→s.heap.FunFrames X.base l:=by
  intro l
  induction l with
  |nil=>intro _ _;trivial
  |cons env r ih=>
   intro hs hl
   obtain⟨hk,⟨L,o,hf,hn,ho,hd⟩,hr⟩:=hl
   have hL:L∈X.fs:=hs L (by unfold frs;rw[List.filterMap_cons,hf];exact List.mem_cons_self)
   obtain⟨sl,e⟩:=I.base.slot L o ho (I.ok.frf L hL) hL fun z=>I.ok.exfs L z hL
   exact⟨hk,⟨L,_,hf,hn,e,hd⟩,ih (fun b hb=>hs b (by unfold frs;rw[List.filterMap_cons,hf];exact List.mem_cons_of_mem _ hb)) hr⟩
 exact all X.outer (fun _ hb=>hb) I.ok.funs

theorem Inv.stack(I:Inv X pins σ H s):s.heap.FunFrames X.base X.stack:=by
 rcases I.ok.stk with e|⟨e,hf⟩
 ·rw[e];exact I.funs
 ·rw[e]
  obtain⟨m,hn,_⟩:=I.loc
  refine .cons (by rw[I.ok.kind];decide) hf hn ?_ I.funs
  exact Heap.get?_none_of_le (Nat.le_trans I.ok.bsz I.ok.above)
theorem Inv.stkSub(I:Inv X pins σ H s):∀b∈frs X.stack,b∈X.env.locals::X.fs:=fun b hb=>by
 rcases I.ok.stk with e|⟨e,hf⟩
 ·rw[e] at hb;exact List.mem_cons_of_mem _ hb
 ·rw[e] at hb
  unfold frs at hb
  rw[List.filterMap_cons,hf] at hb
  exact hb
theorem Inv.stkFree(I:Inv X pins σ H s):∀b∈frs X.stack,H b=none:=fun b hb=>by
 rcases List.mem_cons.mp (I.stkSub b hb) with e|hb
 ·rw[e];exact I.free
 ·obtain⟨_,o,ho,_⟩:=I.ok.funs.mem hb
  exact I.base.free b o ho (I.ok.frf b hb) fun z=>I.ok.exfs b z hb

theorem Inv.step{g':Array GenState}{t':Nat}{d':Drawn}{ch:List Addr}(I:Inv X pins σ H s)(hch:∀b∈ch,(b∈X.ex∨X.s₀.heap.objs.size≤b)∧b≠X.env.locals∧(∀x c,X.env.cells.lookup x=some c→c≠b)∧∀p∈X.pn++pins,p.1≠b)(keep:∀b o,b≠X.env.locals→b ∉ X.fs→b ∉ ch→s.heap.get? b=some o→H b=none→h'.get? b=some o)(slot:∀b o,b≠X.env.locals→b∈X.fs→b ∉ ch→s.heap.get? b=some o→H b=none→∃sl,h'.get? b=some { o with slots:=sl })(free:∀b o,b ∉ ch→s.heap.get? b=some o→H b=none→H' b=none)(there:∀b o,b ∉ ch→s.heap.get? b=some o→∃o',h'.get? b=some o')(tups:∀b xs,H b=some (.tup xs)→H' b=some (.tup xs))(frzs:∀b o u,H b=some (.frz o u)→H' b=some (.frz o u))(tbls:∀b ps,H b=some (.tbl ps)→∃more,H' b=some (.tbl (ps++more)))(ns:∀m,s.heap.Ns X.env.locals m→h'.Ns X.env.locals m)(hok:HOk X.prog X.w H' h')(hg:AllBare g') :
  Inv X pins σ H' { s with heap:=h',gens:=g',drawn:=d',toks:=t' }:=by
 have neL:∀b o,X.s₀.heap.get? b=some o→b≠X.env.locals:=fun b o e=>Nat.ne_of_lt (Nat.lt_of_lt_of_le (Heap.lt_size e) I.ok.above)
 have neC:∀b o,X.s₀.heap.get? b=some o→b ∉ X.ex→b ∉ ch:=fun b o e hx hb=>by
  rcases(hch b hb).1 with z|z
  ·exact hx z
  ·exact absurd (Nat.lt_of_lt_of_le (Heap.lt_size e) z) (Nat.lt_irrefl _)
 have Ao:∀x c,X.env.cells.lookup x=some c→∀v,s.heap.IsCell c v→h'.IsCell c v:=fun x c e v ⟨o,ho,hd⟩=>by
  have nch:c ∉ ch:=fun z=>(hch c z).2.2.1 x c e rfl
  by_cases hc:c∈X.fs
  ·obtain⟨sl,q⟩:=slot c o (I.cne x c e) hc nch ho (I.freeC x c e)
   exact⟨_,q,hd⟩
  ·exact⟨o,keep c o (I.cne x c e) hc nch ho (I.freeC x c e),hd⟩
 refine⟨I.ok,I.os,hg,⟨fun b o e n hb hx=>?_,fun b o e n hb hx=>?_,fun b o e n hx=>?_,fun b o e hx=>?_,fun b xs e=>tups b xs (I.base.tups b xs e),fun b o xs e=>frzs b o xs (I.base.frzs b o xs e),fun b ps e=>?_⟩,?_,fun x c e=>?_,?_,fun x c e=>?_,fun p hp=>?_,hok,I.len⟩
 ·exact keep b o (neL b o e) hb (neC b o e hx) (I.base.keep b o e n hb hx) (I.base.free b o e n hx)
 ·obtain⟨sl,e1⟩:=I.base.slot b o e n hb hx
  obtain⟨sl',e2⟩:=slot b _ (neL b o e) hb (neC b o e hx) e1 (I.base.free b o e n hx)
  exact⟨sl',e2⟩
 ·obtain⟨o',e1⟩:=I.base.there b o e hx
  exact free b o' (neC b o e hx) e1 (I.base.free b o e n hx)
 ·obtain⟨o',e1⟩:=I.base.there b o e hx
  exact there b o' (neC b o e hx) e1
 ·obtain⟨m1,e1⟩:=I.base.tbls b ps e
  obtain⟨m2,e2⟩:=tbls b _ e1
  exact⟨m1++m2,by rw[e2,Array.append_assoc]⟩
 ·obtain⟨m,hn,hl⟩:=I.loc
  refine⟨m,ns m hn,fun i x v e1 e2 e3=>?_⟩
  obtain⟨u,r,l⟩:=hl i x v e1 e2 e3
  refine⟨u,r,?_⟩
  rcases l with l|⟨k,c,e,z⟩
  ·exact .inl l
  ·exact .inr ⟨k,c,e,Ao x c e _ z⟩
 ·obtain⟨v,z⟩:=I.cell x c e
  exact⟨v,Ao x c e v z⟩
 ·obtain⟨m,⟨o,_,_,ho,_⟩,_⟩:=I.loc
  exact free _ o (fun z=>(hch _ z).2.1 rfl) ho I.free
 ·obtain⟨v,o,ho,hd⟩:=I.cell x c e
  exact free c o (fun z=>(hch c z).2.2.1 x c e rfl) ho (I.freeC x c e)
 ·obtain⟨e,n,ne,nf,d⟩:=I.pin p hp
  have nch:p.1 ∉ ch:=fun z=>(hch p.1 z).2.2.2 p hp rfl
  exact⟨keep p.1 p.2 ne nf nch e n,free p.1 p.2 nch e n,ne,nf,d⟩
theorem Inv.un{t':Nat}(I:Inv X pins σ H s)(u:Un X.fs [] H H' s.heap h')(hok:HOk X.prog X.w H' h'):Inv X pins σ H' { s with heap:=h',toks:=t' }:=by
 obtain⟨m,⟨o,es,ep,ho,r⟩,_⟩:=id I.loc
 obtain⟨sl,hL⟩:=u.any ho I.free (by simp)
 exact I.step (g':=s.gens) (d':=s.drawn) (ch:=[]) (fun _ z=>nomatch z) (fun b o _ hb _ e n=>u.keep b o e n hb (by simp)) (fun b o _ hb _ e n=>u.slot b o e n hb (by simp)) (fun b o _ e n=>u.free b o e n (by simp)) (fun b o _ e=>u.there b o e (by simp)) u.tups u.frzs u.tbls (fun m' hm=>by
  obtain⟨o',es',ep',ho',r'⟩:=hm
  rw[ho] at ho';cases ho'
  exact⟨_,es',ep',hL,r'⟩) hok I.bare
theorem Inv.call{g':Array GenState}{t':Nat}{d':Drawn}{ch:List Addr}(I:Inv X pins σ H s)(u:Un (frs X.stack) ch H H' s.heap h')(hok:HOk X.prog X.w H' h')(hg:AllBare g')(hch:∀b∈ch,(b∈X.ex∨X.s₀.heap.objs.size≤b)∧b≠X.env.locals∧(∀x c,X.env.cells.lookup x=some c→c≠b)∧∀p∈X.pn++pins,p.1≠b) :
  Inv X pins σ H' { s with heap:=h',gens:=g',drawn:=d',toks:=t' }:=by
 obtain⟨m,⟨o,es,ep,ho,r⟩,_⟩:=id I.loc
 obtain⟨sl,hL⟩:=u.any ho I.free fun z=>(hch _ z).2.1 rfl
 exact I.step (ch:=ch) hch (fun b o hL hb hc e n=>u.keep b o e n (fun z=>(List.mem_cons.mp (I.stkSub b z)).elim hL hb) hc) (fun b o _ _ hc e n=>u.any e n hc) (fun b o hc e n=>u.free b o e n hc) (fun b o hc e=>u.there b o e hc) u.tups u.frzs u.tbls (fun m' hm=>by
  obtain⟨o',es',ep',ho',r'⟩:=hm
  rw[ho] at ho';cases ho'
  exact⟨_,es',ep',hL,r'⟩) hok hg
theorem Inv.turned{t':Nat}{it:Addr}(I:Inv X pins σ H s)(k:∀b o,b≠it→s.heap.get? b=some o→h'.get? b=some o)(hn:H it=none)(hL:it≠X.env.locals)(h1:it∈X.ex∨X.s₀.heap.objs.size≤it)(h2:∀x c,X.env.cells.lookup x=some c→c≠it)(h3:∀p∈X.pn++pins,p.1≠it):Inv X pins σ H { s with heap:=h',toks:=t' }:=by
 have nit:∀b u,H b=some u→b≠it:=fun b u e z=>by rw[z,hn] at e;cases e
 refine I.step (g':=s.gens) (d':=s.drawn) (ch:=[it]) (fun b hb=>?_) (fun b o _ _ hc e _=>k b o (fun z=>hc (by simp[z])) e) (fun b o _ _ hc e _=>⟨o.slots,k b o (fun z=>hc (by simp[z])) e⟩) (fun _ _ _ _ n=>n)
  (fun b o hc e=>⟨o,k b o (fun z=>hc (by simp[z])) e⟩) (fun _ _ e=>e) (fun _ _ _ e=>e) (fun b ps e=>⟨#[],by rw[e];simp⟩) (fun m hm=>?_) (fun b u e=>?_) I.bare
 ·have e:b=it:=by simpa using hb
  subst e
  exact⟨h1,hL,h2,h3⟩
 ·obtain⟨o,es,ep,ho,r⟩:=hm
  exact⟨o,es,ep,k _ o (Ne.symm hL) ho,r⟩
 ·refine(I.hok b u e).stay (fun c v hc q=>k c v ?_ q) (fun _ q=>q) fun _ _ q=>q
  rcases hc with z|z
  ·rw[z];exact nit b u e
  ·exact nit c _ z
theorem Inv.tok(I:Inv X pins σ H s)(t:Nat):Inv X pins σ H { s with toks:=t }:=I.un (h':=s.heap) (t':=t) Un.refl I.hok
theorem Inv.kept{t':Nat}(I:Inv X pins σ H s)(k:∀b u,s.heap.get? b=some u→h'.get? b=some u):Inv X pins σ H { s with heap:=h',toks:=t' }:=I.un (Un.kept k) (I.hok.kept k)
theorem Inv.laid{a:Addr}{o:HO}{t':Nat}(I:Inv X pins σ H s)(k:∀b u,s.heap.get? b=some u→h'.get? b=some u)(hp:s.heap.objs.size≤a)(new:ObjOk X.prog X.w (upd H a o) h' a o) :
  Inv X pins σ (upd H a o) { s with heap:=h',toks:=t' }:=I.un (Un.laid k hp (I.hok.fresh hp)) (I.hok.laid k hp new)
theorem Inv.write{x e:Addr}{o:HO}{t':Nat}(I:Inv X pins σ H s)(mu:Mut (H x))(he:e=x∨H e=some (.own x))(k:∀b u,b≠e→s.heap.get? b=some u→h'.get? b=some u)(heo:∃u,h'.get? e=some u)(new:ObjOk X.prog X.w (upd H x o) h' x o):Inv X pins σ (upd H x o) { s with heap:=h',toks:=t' }:=I.un (Un.write mu he k heo) (I.hok.write mu he k heo new)
theorem Inv.pins_of{pins':List (Addr×Obj)}(I:Inv X pins σ H s)(h:∀p∈pins',s.heap.get? p.1=some p.2∧H p.1=none∧p.1≠X.env.locals∧p.1 ∉ X.fs∧∀v,p.2.data≠.cell v):Inv X pins' σ H s:=
 ⟨I.ok,I.os,I.bare,I.base,I.loc,I.cell,I.free,I.freeC,fun p hp=>(List.mem_append.mp hp).elim (fun z=>I.pin p (List.mem_append_left _ z)) (h p),I.hok,I.len⟩

theorem Jm{N:List Str}(hN:N.Nodup){i j:Nat}{x:Str}(a:N[i]? = some x)(b:N[j]? = some x):i=j:=by
 obtain⟨h1,e1⟩:=List.getElem?_eq_some_iff.mp a
 obtain⟨h2,e2⟩:=List.getElem?_eq_some_iff.mp b
 exact(List.getElem_inj hN).mp (e1.trans e2.symm)

theorem Ms{M:Model}{A:Around}{E:Value→Shared→Prop}{i:Nat}{x:Str}{v:V}{u:Value}{Q:Unit→Shared→Prop}(I:Inv X pins σ H s)(hN:X.N.Nodup)(hi:X.N[i]? = some x)(hx:Loc X.env.scope x)(r:RelV v u)(h:∀s',Inv X pins (σ.set i (some v)) H s'→(∃a,Heap.SameBut a s.heap s'.heap∧(a=X.env.locals∨X.env.cells.lookup x=some a))→Q () s')(hf:X.fn x=true∨X.env.scope.names.lookup x=some .local:=by first|exact .inl rfl|exact .inr rfl|assumption):wpAny M A (storeName X.env x u) Q E s:=by
 obtain⟨m,hn,hl⟩:=id I.loc
 have hcls:(X.env.scope.kind == .class||(X.env.scope.kind == .module&&X.env.locals != X.env.globals))=false:=by rw[I.ok.kind];rfl
 have hiσ:i<σ.length:=by rw[I.len];exact(List.getElem?_eq_some_iff.mp hi).1
 have cne:=I.cne
 have tracked:∀{a:Addr} {h':Heap},(∃o,s.heap.get? a=some o∧H a=none)→Heap.SameBut a s.heap h'→HOk X.prog X.w H h':=fun {a h'} ha hs b ob e=>by
  obtain⟨_,_,hfree⟩:=ha
  refine(I.hok b ob e).stay (fun c w' hc q=>(hs.2 c ?_).trans q) (fun _ q=>q) fun _ _ q=>q
  rintro rfl
  rcases hc with rfl|hc
  ·rw[hfree] at e;cases e
  ·rw[hfree] at hc;cases hc
 rcases hx with hk|hk
 ·refine wpAny_storeName_local hk hn (fun h' hn' hs=>?_) hcls
  obtain⟨oL,_,_,hoL,_⟩:=id hn
  refine h _ ⟨I.ok,I.os,I.bare,⟨fun b o e n hb hx=>?_,fun b o e n hb hx=>?_,I.base.free,fun b o e hx=>?_,I.base.tups,I.base.frzs,I.base.tbls⟩,⟨_,hn',fun j y v' e1 e2 e3=>?_⟩,fun y c e=>?_,I.free,I.freeC,fun p hp=>?_,tracked ⟨oL,hoL,I.free⟩ hs,by simpa using I.len⟩ ⟨_,hs,.inl rfl⟩
  ·exact(hs.2 b (Nat.ne_of_lt (Nat.lt_of_lt_of_le (Heap.lt_size e) I.ok.above))).trans (I.base.keep b o e n hb hx)
  ·obtain⟨sl,e1⟩:=I.base.slot b o e n hb hx
   exact⟨sl,(hs.2 b (Nat.ne_of_lt (Nat.lt_of_lt_of_le (Heap.lt_size e) I.ok.above))).trans e1⟩
  ·obtain⟨o',e1⟩:=I.base.there b o e hx
   exact⟨o',(hs.2 b (Nat.ne_of_lt (Nat.lt_of_lt_of_le (Heap.lt_size e) I.ok.above))).trans e1⟩
  ·by_cases hj:j=i
   ·subst hj
    rw[hi] at e1;cases e1
    rw[List.getElem?_set_self hiσ] at e2
    cases e2
    exact⟨u,r,.inl ⟨hk,by simp⟩⟩
   ·rw[List.getElem?_set_ne (Ne.symm hj)] at e2
    obtain⟨u',r',q⟩:=hl j y v' e1 e2 e3
    refine⟨u',r',?_⟩
    rcases q with ⟨k,e⟩|⟨k,c,e,z⟩
    ·refine .inl ⟨k,?_⟩
     have:y≠x:=fun e=>hj (Jm hN e1 (e ▸ hi))
     simp[this,e]
    ·exact .inr ⟨k,c,e,z.sameBut hs (cne y c e)⟩
  ·obtain⟨w',z⟩:=I.cell y c e
   exact⟨w',z.sameBut hs (cne y c e)⟩
  ·obtain⟨e,n,ne,nf,d⟩:=I.pin p hp
   exact⟨(hs.2 p.1 ne).trans e,n,ne,nf,d⟩
 ·have hfn:X.fn x=true:=by
   rcases hf with z|z
   ·exact z
   ·rw[z] at hk;cases hk
  obtain⟨c,hc⟩:=I.ok.has x (.inl hk)
  obtain⟨w',z⟩:=I.cell x c hc
  refine wpAny_storeName_cell I.ok.kind hk hc z (fun h' hc' hs=>?_)
  obtain⟨oc,hoc,hocd⟩:=id z
  refine h { s with heap:=h' } ⟨I.ok,I.os,I.bare,⟨fun b o e n hb hx=>?_,fun b o e n hb hx=>?_,I.base.free,fun b o e hx=>?_,I.base.tups,I.base.frzs,I.base.tbls⟩,⟨m,hn.sameBut hs (Ne.symm (cne x c hc)),fun j y v' e1 e2 e3=>?_⟩,fun y c' e=>?_,I.free,I.freeC,fun p hp=>?_,tracked ⟨oc,hoc,I.freeC x c hc⟩ hs,by simpa using I.len⟩ ⟨c,hs,.inr hc⟩
  ·exact(hs.2 b (Nat.ne_of_lt (Nat.lt_of_lt_of_le (Heap.lt_size e) (I.ok.cab x c hfn hc)))).trans (I.base.keep b o e n hb hx)
  ·obtain⟨sl,e1⟩:=I.base.slot b o e n hb hx
   exact⟨sl,(hs.2 b (Nat.ne_of_lt (Nat.lt_of_lt_of_le (Heap.lt_size e) (I.ok.cab x c hfn hc)))).trans e1⟩
  ·obtain⟨o',e1⟩:=I.base.there b o e hx
   exact⟨o',(hs.2 b (Nat.ne_of_lt (Nat.lt_of_lt_of_le (Heap.lt_size e) (I.ok.cab x c hfn hc)))).trans e1⟩
  ·by_cases hj:j=i
   ·subst hj
    rw[hi] at e1;cases e1
    rw[List.getElem?_set_self hiσ] at e2
    cases e2
    exact⟨u,r,.inr ⟨.inl hk,c,hc,hc'⟩⟩
   ·rw[List.getElem?_set_ne (Ne.symm hj)] at e2
    obtain⟨u',r',q⟩:=hl j y v' e1 e2 e3
    refine⟨u',r',?_⟩
    rcases q with q|⟨k,c',e,z'⟩
    ·exact .inl q
    ·refine .inr ⟨k,c',e,z'.sameBut hs ?_⟩
     rintro rfl
     exact hj (Jm hN e1 (I.ok.inj _ _ _ e hc ▸ hi))
  ·by_cases hcc:c'=c
   ·subst hcc;exact⟨_,hc'⟩
   ·obtain⟨w2,z2⟩:=I.cell y c' e
    exact⟨w2,z2.sameBut hs hcc⟩
  ·obtain⟨e,n,ne,nf,d⟩:=I.pin p hp
   refine⟨(hs.2 p.1 ?_).trans e,n,ne,nf,d⟩
   intro q
   rw[q,hoc] at e
   have q':oc=p.2:=Option.some.inj e
   exact d w' (by rw[←q'];exact hocd)
theorem De{M:Model}{A:Around}{E:Value→Shared→Prop}{i:Nat}{x:Str}{v:V}{u:Value}{Q:Unit→Shared→Prop}(I:Inv X pins σ H s)(hN:X.N.Nodup)(hi:X.N[i]? = some x)(hx:Loc X.env.scope x)(r:RelV v u)(h:∀s',Inv X pins (σ.set i (some v)) H s'→Q () s')(hf:X.fn x=true∨X.env.scope.names.lookup x=some .local:=by first|exact .inl rfl|exact .inr rfl|assumption):wpAny M A (storeName X.env x u) Q E s:=
 Ms I hN hi hx r (fun s' I' _=>h s' I') hf
theorem Inv.call'{s':Shared}{ch:List Addr}(I:Inv X pins σ H s)(ho:s'.os=s.os)(u:Un (frs X.stack) ch H H' s.heap s'.heap)(hok:HOk X.prog X.w H' s'.heap)(hg:AllBare s'.gens)(hch:∀b∈ch,(b∈X.ex∨X.s₀.heap.objs.size≤b)∧b≠X.env.locals∧(∀x c,X.env.cells.lookup x=some c→c≠b)∧∀p∈X.pn++pins,p.1≠b):Inv X pins σ H' s':=by
 obtain⟨h',g',d',t',o'⟩:=s'
 have e:o'=s.os:=ho
 subst e
 exact I.call (g':=g') (t':=t') (d':=d') u hok hg hch
end
abbrev XK:=Value→Option Addr→Hp→Prop
abbrev St:=List (Option V)
abbrev VK:=V→Hp→Prop
abbrev TE:=St→Hp→VK→Prop
abbrev TT:=St→Hp→(Bool→Hp→Prop)→Prop
abbrev TA:=St→Hp→(List V→Hp→Prop)→Prop
structure Ends where
 nx:St→Hp→Prop
 rt:VK
 bk:St→Hp→Prop:=fun _ _=>False
 ct:St→Hp→Prop:=fun _ _=>False
abbrev TS:=Ends→St→Hp→Prop

def EP(X:Cx)(pins:List (Addr×Obj))(σ:St)(Q:VK)(u:Value)(s':Shared):Prop:=∃v H',Inv X pins σ H' s'∧RelV v u∧Q v H'
def TP(X:Cx)(pins:List (Addr×Obj))(σ:St)(Q:Bool→Hp→Prop)(b:Bool)(s':Shared):Prop:=∃H',Inv X pins σ H' s'∧Q b H'
def AP(X:Cx)(pins:List (Addr×Obj))(σ:St)(Q:List V→Hp→Prop)(us:List Value)(s':Shared):Prop:=∃vs H',Inv X pins σ H' s'∧Vals vs us∧Q vs H'
def SP(X:Cx)(pins:List (Addr×Obj))(D:Ends)(f:Flow)(s':Shared):Prop:=
 match f with
 |.next=>∃σ' H',Inv X pins σ' H' s'∧D.nx σ' H'
 |.brk=>∃σ' H',Inv X pins σ' H' s'∧D.bk σ' H'
 |.cont=>∃σ' H',Inv X pins σ' H' s'∧D.ct σ' H'
 |.ret u=>∃v σ' H',Inv X pins σ' H' s'∧RelV v u∧D.rt v H'

def PE(X:Cx)(e:Expr)(t:TE):Prop:=
 ∀(pins:List (Addr×Obj)) (s:Shared) (σ:St) (H:Hp) (Q:VK),Inv X pins σ H s→t σ H Q→wpAny (model X.prog X.w) X.A (eval e X.env) (EP X pins σ Q) X.xe s
def PT(X:Cx)(e:Expr)(t:TT):Prop:=
 ∀(pins:List (Addr×Obj)) (s:Shared) (σ:St) (H:Hp) (Q:Bool→Hp→Prop),Inv X pins σ H s→t σ H Q→wpAny (model X.prog X.w) X.A (isTrue e X.env (eval e X.env)) (TP X pins σ Q) X.xe s
def PW(X:Cx)(e:Expr)(t:TT):Prop:=
 ∀(whole:Sem Value) (pins:List (Addr×Obj)) (s:Shared) (σ:St) (H:Hp) (Q:Bool→Hp→Prop),Inv X pins σ H s→t σ H Q→wpAny (model X.prog X.w) X.A (isTrue e X.env whole) (TP X pins σ Q) X.xe s
theorem PW.pt{X:Cx}{e:Expr}{t:TT}(h:PW X e t):PT X e t:=h _
def PA(X:Cx)(es:List Expr)(t:TA):Prop:=
 ∀(pos:Pos) (pins:List (Addr×Obj)) (s:Shared) (σ:St) (H:Hp) (Q:List V→Hp→Prop),Inv X pins σ H s→t σ H Q→wpAny (model X.prog X.w) X.A (spliced (backTo pos (starEach es X.env))) (AP X pins σ Q) X.xe s
def PS(X:Cx)(st:Stmt)(t:TS):Prop:=
 ∀(pins:List (Addr×Obj)) (s:Shared) (σ:St) (H:Hp) (D:Ends),Inv X pins σ H s→t D σ H→wpAny (model X.prog X.w) X.A (exec st X.env) (SP X pins D) X.xe s
def PSs(X:Cx)(st:List Stmt)(t:TS):Prop:=
 ∀(pins:List (Addr×Obj)) (s:Shared) (σ:St) (H:Hp) (D:Ends),Inv X pins σ H s→t D σ H→wpAny (model X.prog X.w) X.A (execs st X.env) (SP X pins D) X.xe s
theorem thn{α:Type}{t:Sem α}{Q Q':α→Shared→Prop}{M:Model}{A:Around}{E:Value→Shared→Prop}{s:Shared}(h:wpAny M A t Q E s)(hQ:∀a s,Q a s→Q' a s):wpAny M A t Q' E s:=wpAny_mono h hQ fun _ _ x=>x
end L2
namespace L2
open PySem PySem.Spec PyProof.Rows
section
variable{X:Cx}
theorem bin{a b:Expr}{ta tb:TE}(ha:PE X a ta)(hb:PE X b tb){pins:List (Addr×Obj)}{s:Shared}{σ:St}{H:Hp}{R:V→V→Hp→Prop}(I:Inv X pins σ H s)(h:ta σ H fun x H1=>tb σ H1 fun y H2=>R x y H2){α:Type}{Q:α→Shared→Prop}{f:Value→Value→Sem α}(hf:∀v u s2 x y H2,Inv X pins σ H2 s2→RelV x v→RelV y u→R x y H2→wpAny (model X.prog X.w) X.A (f v u) Q X.xe s2) :
  wpAny (model X.prog X.w) X.A (eval a X.env) (fun v s₁=>wpAny (model X.prog X.w) X.A (eval b X.env) (fun u s₂=>wpAny (model X.prog X.w) X.A (f v u) Q X.xe s₂) X.xe s₁) X.xe s:=by
 refine thn (ha pins s σ H _ I h) fun v s1 ⟨x,H1,I1,r1,q1⟩=>?_
 refine thn (hb pins s1 σ H1 _ I1 q1) fun u s2 ⟨y,H2,I2,r2,q2⟩=>?_
 exact hf v u s2 x y H2 I2 r1 r2 q2

def tVar(i:Nat):TE:=fun σ H Q=>∃v,σ[i]? = some (some v)∧Q v H
def tC(v:V):TE:=fun _ H Q=>Q v H
theorem Tz{i:Nat}{x:Str}{pos:Pos}(hN:X.N[i]? = some x)(hv:Vis X.env.scope x)(hd:(x == ("__debug__" : Str))=false:=by decide)(hcd:(x == ("__classdict__" : Str))=false:=by decide):PE X (.Name x pos) (tVar i):=by
 intro pins s σ H Q I h
 obtain⟨v,e,h⟩:=h
 obtain⟨m,hn,hl⟩:=I.loc
 obtain⟨u,r,l⟩:=hl i x v hN e hv
 have fin:EP X pins σ Q u s:=⟨v,H,I,r,h⟩
 rcases l with ⟨hk,hm⟩|⟨hk,c,hc,hcell⟩
 ·exact wpAny_Name (wpAny_loadName_local I.ok.kind hk hn hm fin) hd
 ·rcases hk with hk|hk
  ·exact wpAny_Name (wpAny_loadName_cell I.ok.kind hk hc hcell fin) hd
  ·exact wpAny_Name (wpAny_loadName_free I.ok.kind hk hc hcell fin hcd) hd
theorem T5{i j pos}:PE X (.Constant (.int i) j pos) (tC (.int i)):=fun _ _ _ H _ I h=>wpAny_Constant_int ⟨.int i,H,I.tok _,⟨_,rfl⟩,h⟩
theorem Vt{b j pos}:PE X (.Constant (.bool b) j pos) (tC (.bl b)):=fun _ _ _ H _ I h=>Constant_bool ⟨.bl b,H,I,rfl,h⟩
theorem T3{j pos}:PE X (.Constant .none j pos) (tC .non):=fun _ _ _ H _ I h=>Constant_none ⟨.non,H,I,rfl,h⟩
def Gl(X:Cx)(x:Str):Prop:=X.env.kindOf x=some .globalImplicit
theorem L5{E:Value→Shared→Prop}{pins:List (Addr×Obj)}{s:Shared}{σ:St}{H:Hp}{x:Str}{u:Value}{pos:Pos}{Q:Value→Shared→Prop}(I:Inv X pins σ H s)(hg:Gl X x)(hm:X.mg x=some u)(h:Q u s)(hd:(x == ("__debug__" : Str))=false:=by decide):wpAny (model X.prog X.w) X.A (eval (.Name x pos) X.env) Q E s:=
 Calls.Name_function_global I.ok.kind hg (Calls.loadGlobal_global (by rw[I.ok.glob];exact I.mod.glob.keeps I.bk) hm h) hd
theorem Ht{E:Value→Shared→Prop}{pins:List (Addr×Obj)}{s:Shared}{σ:St}{H:Hp}{x:Str}{u:Value}{pos:Pos}{Q:Value→Shared→Prop}(I:Inv X pins σ H s)(hg:Gl X x)(hm:X.mg x=none)(hv:bootBuiltins x=some u)(h:Q u s)(hn:x≠"__name__":=by decide)(hd:(x == ("__debug__" : Str))=false:=by decide):wpAny (model X.prog X.w) X.A (eval (.Name x pos) X.env) Q E s:=by
 obtain⟨mb,h1,h2⟩:=I.mod.blt
 exact Calls.Name_function_global I.ok.kind hg (Calls.loadGlobal_builtin (by rw[I.ok.glob];exact I.mod.glob.keeps I.bk) hm (by rw[I.ok.blt];exact h1.keeps I.bk) ((h2 x hn).trans hv) h) hd
theorem Rb{x:Str}{v:V}{u:Value}{pos:Pos}(hg:Gl X x)(hm:X.mg x=some u)(r:RelV v u)(hd:(x == ("__debug__" : Str))=false:=by decide):PE X (.Name x pos) (tC v):=
 fun _ _ _ H _ I h=>L5 I hg hm ⟨v,H,I,r,h⟩ hd
theorem Rf{x:Str}{v:V}{u:Value}{pos:Pos}(hg:Gl X x)(hm:X.mg x=none)(hv:bootBuiltins x=some u)(r:RelV v u)(hn:x≠"__name__":=by decide)(hd:(x == ("__debug__" : Str))=false:=by decide):PE X (.Name x pos) (tC v):=
 fun _ _ _ H _ I h=>Ht I hg hm hv ⟨v,H,I,r,h⟩ hn hd

variable{a b:Expr}{ta tb:TE}{pos:Pos}
variable{tA tB':TT}{Cg:List Expr}
def tAnd(t u:TT):TT:=fun σ H Q=>t σ H fun c H1=>if c=true then u σ H1 Q else Q false H1
def tOr(t u:TT):TT:=fun σ H Q=>t σ H fun c H1=>if c=true then Q true H1 else u σ H1 Q
def tNot(t:TT):TT:=fun σ H Q=>t σ H fun c H1=>Q (!c) H1
theorem Q6(ha:PT X a tA):PW X (.BoolOp .And [a] pos) tA:=by
 intro wh pins s σ H Q I h
 refine isTrue_and (thn (ha pins s σ H Q I h) fun c s1 e=>?_)
 cases c with
 |true=>exact isTrue_and_nil e
 |false=>exact e
theorem Tm(ha:PT X a tA):PW X (.BoolOp .Or [a] pos) tA:=by
 intro wh pins s σ H Q I h
 refine isTrue_or (thn (ha pins s σ H Q I h) fun c s1 e=>?_)
 cases c with
 |false=>exact isTrue_or_nil e
 |true=>exact e
theorem To(ha:PT X a tA)(hb:PW X (.BoolOp .And (b::Cg) pos) tB'):PW X (.BoolOp .And (a::b::Cg) pos) (tAnd tA tB'):=by
 intro wh pins s σ H Q I h
 refine isTrue_and (thn (ha pins s σ H _ I h) fun c s1 ⟨H1,I1,q1⟩=>?_)
 cases c with
 |true=>exact hb wh pins s1 σ H1 Q I1 q1
 |false=>exact⟨H1,I1,q1⟩
theorem Vp(ha:PT X a tA)(hb:PW X (.BoolOp .Or (b::Cg) pos) tB'):PW X (.BoolOp .Or (a::b::Cg) pos) (tOr tA tB'):=by
 intro wh pins s σ H Q I h
 refine isTrue_or (thn (ha pins s σ H _ I h) fun c s1 ⟨H1,I1,q1⟩=>?_)
 cases c with
 |true=>exact⟨H1,I1,q1⟩
 |false=>exact hb wh pins s1 σ H1 Q I1 q1
theorem Tp(ha:PT X a tA):PT X (.UnaryOp .Not a pos) (tNot tA):=by
 intro pins s σ H Q I h
 exact isTrue_not (ha pins s σ H (fun c H1=>Q (!c) H1) I h)
def Vk(ta tb:TE):TE:=fun σ H Q=>ta σ H fun x H1=>∃c,x=.bl c∧if c=true then tb σ H1 Q else Q (.bl false) H1
def Vf(ta:TE):TE:=fun σ H Q=>ta σ H fun x H1=>∃c,x=.bl c∧Q (.bl (!c)) H1
theorem T1{op}{t:TE}(h:PE X a t):PE X (.BoolOp op [a] pos) t:=fun pins s σ H Q I hw=>BoolOp_one (h pins s σ H Q I hw)
theorem T6(ha:PE X a ta)(hb:PE X (.BoolOp .And (b::Cg) pos) tb):PE X (.BoolOp .And (a::b::Cg) pos) (Vk ta tb):=by
 intro pins s σ H Q I h
 refine BoolOp_and (thn (ha pins s σ H _ I h) fun v s1 ⟨x,H1,I1,r1,q1⟩=>?_)
 obtain⟨c,rfl,q1⟩:=q1
 cases r1
 refine wpAny_truthy_bool ?_
 cases c with
 |true=>exact hb pins s1 σ H1 Q I1 q1
 |false=>exact⟨.bl false,H1,I1,rfl,q1⟩
theorem T2(ha:PE X a ta):PE X (.UnaryOp .Not a pos) (Vf ta):=by
 intro pins s σ H Q I h
 refine UnaryOp_ (thn (ha pins s σ H _ I h) fun v s1 ⟨x,H1,I1,r1,q1⟩=>?_)
 obtain⟨c,rfl,q1⟩:=q1
 cases r1
 exact not_of (wpAny_truthy_bool ⟨.bl (!c),H1,I1,rfl,q1⟩)
end
end L2
namespace L2
open PySem PySem.Spec PyProof.Rows
def SqL(K:PySem.W.Frag)(H:Hp)(a:Addr)(xs:List V):Prop:=
 Rd H a (.lst xs)∨
  ∃(o:Obj) (its:Array Value) (n:Nat),K.lookup a=some o∧o.cls=.type "list"∧o.dict=none∧o.data=.seq its n∧its.size≤sizeLine∧Vals xs its.toList
def SqT(K:PySem.W.Frag)(H:Hp)(a:Addr)(xs:List V):Prop:=
 Rd H a (.tup xs)∨
  ∃(o:Obj) (its:Array Value) (n:Nat),K.lookup a=some o∧o.cls=.type "tuple"∧o.data=.seq its n∧its.size≤sizeLine∧Vals xs its.toList
def absV:Value→Option V
 |.none=>some .non
 |.bool b=>some (.bl b)
 |.int i _=>some (.int i)
 |.str x _=>some (.str x)
 |.bytes b _=>some (.byt b)
 |.float b _=>some (.flt b)
 |.ref a=>some (.ref a)
 |.type n=>some (.ty n)
 |_=>none
theorem RelV.abs{x:V}{u:Value}(r:RelV x u):absV u=some x:=by
 cases x with
 |non=>cases r;rfl
 |bl _=>cases r;rfl
 |int _=>obtain⟨t,rfl⟩:=r;rfl
 |str _=>obtain⟨t,rfl⟩:=r;rfl
 |byt _=>obtain⟨t,rfl⟩:=r;rfl
 |flt _=>obtain⟨t,rfl⟩:=r;rfl
 |ref _=>cases r;rfl
 |ty _=>cases r;rfl
theorem RelV.inj{x y:V}{u:Value}(r:RelV x u)(q:RelV y u):x=y:=Option.some.inj (r.abs.symm.trans q.abs)
theorem Vals.inj:∀{xs ys:List V} {us:List Value},Vals xs us→Vals ys us→xs=ys
 |_,_,_,.nil,.nil=>rfl
 |_,_,_,.cons r t,.cons r' t'=>by rw[r.inj r',Vals.inj t t']
section
variable{X:Cx}{pins:List (Addr×Obj)}{σ:St}{H:Hp}{s:Shared}{a:Addr}{xs ys:List V}
theorem Inv.list(I:Inv X pins σ H s)(h:SqL X.K H a xs):∃its:List Value,Vals xs its∧PlainL s.heap a its.toArray∧xs.length≤sizeLine:=by
 rcases h with h|⟨o,its,n,hk,hc,hd,hs,hz,r⟩
 ·obtain⟨z,its,n,r,e⟩:=h.ok I.hok
  exact⟨its,r,⟨_,n,e,rfl,rfl,rfl⟩,z⟩
 ·refine⟨its.toList,r,⟨o,n,I.kIn a o hk,hc,hd,by simpa using hs⟩,?_⟩
  have e:=r.length
  simp only[Array.length_toList] at e
  omega
theorem Inv.tuple(I:Inv X pins σ H s)(h:SqT X.K H a xs):∃its:List Value,Vals xs its∧IsTup s.heap a its.toArray∧xs.length≤sizeLine:=by
 rcases h with h|⟨o,its,n,hk,hc,hs,hz,r⟩
 ·obtain⟨z,its,r,p⟩:=h.ok I.hok
  exact⟨its,r,p,z⟩
 ·refine⟨its.toList,r,⟨o,I.kIn a o hk,hc,n,by simpa using hs⟩,?_⟩
  have e:=r.length
  simp only[Array.length_toList] at e
  omega
theorem Inv.list_inj(I:Inv X pins σ H s)(h:SqL X.K H a xs)(h':SqL X.K H a ys):xs=ys:=by
 obtain⟨its,r,⟨o,n,e,_,_,d⟩,_⟩:=I.list h
 obtain⟨its',r',⟨o',n',e',_,_,d'⟩,_⟩:=I.list h'
 rw[e] at e';cases e'
 rw[d] at d'
 injection d' with d1 _
 have:its=its':=by simpa using congrArg Array.toList d1
 subst this
 exact r.inj r'
theorem Inv.tuple_inj(I:Inv X pins σ H s)(h:SqT X.K H a xs)(h':SqT X.K H a ys):xs=ys:=by
 obtain⟨its,r,⟨o,e,_,n,d⟩,_⟩:=I.tuple h
 obtain⟨its',r',⟨o',e',_,n',d'⟩,_⟩:=I.tuple h'
 rw[e] at e';cases e'
 rw[d] at d'
 injection d' with d1 _
 have:its=its':=by simpa using congrArg Array.toList d1
 subst this
 exact r.inj r'
end
abbrev Cx.wish(X:Cx)(E:Value→Shared→Prop):Cx:={ X with xe:=E }
abbrev Cx.nox(X:Cx):Cx:=X.wish fun _ _=>False
theorem Cx.Ok.wish{X:Cx}(ok:X.Ok)(E:Value→Shared→Prop):(X.wish E).Ok:=
 ⟨ok.mod,ok.kind,ok.glob,ok.blt,ok.above,ok.inj,ok.has,ok.cab,ok.hd,ok.frames,ok.stk,ok.exf,ok.bs,ok.bsz,ok.noex,ok.exfs,ok.funs,ok.frf⟩
theorem Cx.Ok.unwish{X:Cx}{E:Value→Shared→Prop}(ok:(X.wish E).Ok):X.Ok:=
 ⟨ok.mod,ok.kind,ok.glob,ok.blt,ok.above,ok.inj,ok.has,ok.cab,ok.hd,ok.frames,ok.stk,ok.exf,ok.bs,ok.bsz,ok.noex,ok.exfs,ok.funs,ok.frf⟩
section
variable{X:Cx}{pins:List (Addr×Obj)}{σ:St}{H:Hp}{s:Shared}{E:Value→Shared→Prop}
theorem Inv.wish(I:Inv X pins σ H s)(E:Value→Shared→Prop):Inv (X.wish E) pins σ H s:=⟨I.ok.wish E,I.os,I.bare,I.base,I.loc,I.cell,I.free,I.freeC,I.pin,I.hok,I.len⟩
theorem Inv.unwish(I:Inv (X.wish E) pins σ H s):Inv X pins σ H s:=⟨I.ok.unwish,I.os,I.bare,I.base,I.loc,I.cell,I.free,I.freeC,I.pin,I.hok,I.len⟩
theorem SP.unwish{D:Ends}{f:Flow}{s':Shared}(h:SP (X.wish E) pins D f s'):SP X pins D f s':=by
 cases f with
 |next=>obtain⟨σ',H',I,q⟩:=h;exact⟨σ',H',I.unwish,q⟩
 |brk=>obtain⟨σ',H',I,q⟩:=h;exact⟨σ',H',I.unwish,q⟩
 |cont=>obtain⟨σ',H',I,q⟩:=h;exact⟨σ',H',I.unwish,q⟩
 |ret u=>obtain⟨v,σ',H',I,r,q⟩:=h;exact⟨v,σ',H',I.unwish,r,q⟩
theorem PSs.nox{st:List Stmt}{t:TS}(h:PSs X.nox st t):PSs X st t:=fun pins s σ H D I hw=>
 wpAny_mono (h pins s σ H D (I.wish _) hw) (fun _ _ q=>q.unwish) fun _ _ z=>False.elim z
end
section
variable{X:Cx}{st:Stmt}{Cg:List Stmt}{t u:TS}{e:Expr}{te:TE}{pos:Pos}
def Vg:TS:=fun D σ H=>D.nx σ H
def U6(t u:TS):TS:=fun D σ H=>t { D with nx:=u D } σ H
theorem pss_nil:PSs X [] Vg:=fun _ _ σ H _ I h=>wpAny_execs_nil ⟨σ,H,I,h⟩
theorem Ph(h1:PS X st t)(h2:PSs X Cg u):PSs X (st::Cg) (U6 t u):=by
 intro pins s σ H D I h
 refine wpAny_execs_cons (thn (h1 pins s σ H { D with nx:=u D } I h) fun f s1 q=>?_)
 cases f with
 |next=>
  obtain⟨σ',H',I',q⟩:=q
  exact h2 pins s1 σ' H' D I' q
 |ret v=>exact q
 |brk=>exact q
 |cont=>exact q
theorem Q8(h1:PS X st t):PSs X [st] t:=by
 intro pins s σ H D I h
 refine wpAny_execs_cons (thn (h1 pins s σ H D I h) fun f s1 q=>?_)
 cases f with
 |next=>exact wpAny_execs_nil q
 |ret v=>exact q
 |brk=>exact q
 |cont=>exact q
theorem Inv.quiet{pins:List (Addr×Obj)}{σ:St}{H:Hp}{s:Shared}(I:Inv X pins σ H s):interactive X.env=false:=by simp[interactive,I.ok.kind]
def Vh(te:TE):TS:=fun D σ H=>te σ H fun _ H1=>D.nx σ H1
theorem Q9(he:PE X e te)(hs:swapsWith e none pos.line X.env=pure false:=by rfl):PS X (.Expr e pos) (Vh te):=by
 intro pins s σ H D I h
 exact wpAny_Expr_any (thn (he pins s σ H _ I h) fun v s1 ⟨x,H1,I1,r1,q1⟩=>⟨σ,H1,I1,q1⟩) I.quiet hs
def tRet(te:TE):TS:=fun D σ H=>te σ H D.rt
theorem Tr(he:PE X e te):PS X (.Return (some e) pos) (tRet te):=by
 intro pins s σ H D I h
 exact wpAny_Return_some (thn (he pins s σ H _ I h) fun v s1 ⟨x,H1,I1,r1,q1⟩=>⟨x,σ,H1,I1,r1,q1⟩)
def tIfS(c:TT)(t u:TS):TS:=fun D σ H=>c σ H fun b H1=>if b=true then t D σ H1 else u D σ H1
theorem Si{c:Expr}{a b:List Stmt}{tc:TT}(hc:PT X c tc)(ha:PSs X a t)(hb:PSs X b u):PS X (.If c a b pos) (tIfS tc t u):=by
 intro pins s σ H D I h
 refine wpAny_If (thn (hc pins s σ H _ I h) fun d s1 ⟨H1,I1,q1⟩=>?_)
 cases d with
 |true=>exact ha pins s1 σ H1 D I1 q1
 |false=>exact hb pins s1 σ H1 D I1 q1
def Te:TS:=fun _ _ _=>False
theorem ps_never:PS X st Te:=fun _ _ _ _ _ _ h=>h.elim
end
abbrev TG:=V→St→Hp→(St→Hp→Prop)→Prop
abbrev TGs:=List V→St→Hp→(St→Hp→Prop)→Prop
def PG(X:Cx)(target:Expr)(t:TG):Prop:=
 ∀(pins:List (Addr×Obj)) (s:Shared) (σ:St) (H:Hp) (v:V) (u:Value) (Q:St→Hp→Prop),Inv X pins σ H s→RelV v u→t v σ H Q→
  wpAny (model X.prog X.w) X.A (assign target X.env u) (fun _ s'=>∃σ' H',Inv X pins σ' H' s'∧Q σ' H') X.xe s
def PGs(X:Cx)(ts:List Expr)(t:TGs):Prop:=
 ∀(pins:List (Addr×Obj)) (s:Shared) (σ:St) (H:Hp) (vs:List V) (us:List Value) (Q:St→Hp→Prop),Inv X pins σ H s→Vals vs us→t vs σ H Q→
  wpAny (model X.prog X.w) X.A (assignInOrder ((assignEach ts X.env).map (·.2)) us) (fun _ s'=>∃σ' H',Inv X pins σ' H' s'∧Q σ' H') X.xe s
abbrev N6:=V→V→V→Hp→(Hp→Prop)→Prop
def PSet(X:Cx)(t:N6):Prop:=
 ∀(pins:List (Addr×Obj)) (s:Shared) (σ:St) (H:Hp) (o i v:V) (ov iv u:Value) (Q:Hp→Prop),Inv X pins σ H s→RelV o ov→RelV i iv→RelV v u→t o i v H Q→
  wpAny (model X.prog X.w) X.A (setItem ov iv u) (fun _ s'=>∃H',Inv X pins σ H' s'∧Q H') X.xe s
abbrev TIp:=V→V→Hp→VK→Prop
def PIp(X:Cx)(op:Operator)(t:TIp):Prop:=
 ∀(pins:List (Addr×Obj)) (s:Shared) (σ:St) (H:Hp) (x y:V) (v u:Value) (Q:VK),Inv X pins σ H s→RelV x v→RelV y u→t x y H Q→
  wpAny (model X.prog X.w) X.A (inplaceOp op v u) (EP X pins σ Q) X.xe s
section
variable{X:Cx}{pos:Pos}
def Sn(i:Nat):TG:=fun v σ H Q=>Q (σ.set i (some v)) H
theorem Ra{i:Nat}{x:Str}(hN:X.N.Nodup)(hi:X.N[i]? = some x)(hx:Loc X.env.scope x)(hf:X.fn x=true∨X.env.scope.names.lookup x=some .local:=by first|exact .inl rfl|exact .inr rfl|assumption):PG X (.Name x pos) (Sn i):=by
 intro pins s σ H v u Q I r h
 exact wpAny_assign_Name (De I hN hi hx r (fun s' I'=>⟨_,H,I',h⟩) hf)
def gNil:TGs:=fun vs σ H Q=>vs=[]∧Q σ H
def V1(t:TG)(u:TGs):TGs:=fun vs σ H Q=>∃v r,vs=v::r∧t v σ H fun σ' H'=>u r σ' H' Q
theorem pgs_nil:PGs X [] gNil:=by
 intro pins s σ H vs us Q I r h
 obtain⟨e,h⟩:=h
 subst e
 cases r
 exact assignInOrder_nil ⟨σ,H,I,h⟩
theorem Pj{e:Expr}{es:List Expr}{t:TG}{u:TGs}(h1:PG X e t)(h2:PGs X es u)(hs:(assignEach (e::es) X.env).map (·.2)=assign e X.env::(assignEach es X.env).map (·.2):=by rfl):PGs X (e::es) (V1 t u):=by
 intro pins s σ H vs us Q I r h
 obtain⟨v,vr,e1,h⟩:=h
 subst e1
 cases r with
 |cons r rr=>
  rw[hs]
  refine assignInOrder_cons (thn (h1 pins s σ H _ _ _ I r h) fun _ s1 ⟨σ1,H1,I1,q1⟩=>?_)
  exact h2 pins s1 σ1 H1 _ _ Q I1 rr q1
def gTup(K:PySem.W.Frag)(n:Nat)(t:TGs):TG:=fun v σ H Q=>∃a xs,v=.ref a∧SqT K H a xs∧xs.length=n∧t xs σ H Q
theorem Tv{es:List Expr}{k:Nat}{t:TGs}{n:Nat}(hc:X.calm=true)(h:PGs X es t)(hn:(assignEach es X.env).length=n:=by rfl)(hst:(assignEach es X.env).findIdx? (·.1)=none:=by rfl):PG X (.Tuple es k pos) (gTup X.K n t):=by
 intro pins s σ H v u Q I r hw
 obtain⟨a,xs,e1,hq,hl,hw⟩:=hw
 subst e1
 cases r
 obtain⟨its,rv,ht,hz⟩:=I.tuple hq
 refine assign_Tuple_tuple (I.ok.hd hc) ht (by simp[hn,←hl,rv.length]) hst fun h' hx=>?_
 have I1:Inv X pins σ H { s with heap:=h' }:=I.kept (t':=s.toks) fun b o e=>hx b o (Nat.ne_of_lt (Heap.lt_size e)) e
 exact h pins _ σ H xs _ Q I1 (by simpa using rv) hw
def gSub(to ti:TE)(t:N6):TG:=fun v σ H Q=>to σ H fun o H1=>ti σ H1 fun i H2=>t o i v H2 fun H3=>Q σ H3
theorem Tw{o i:Expr}{to ti:TE}{t:N6}(ho:PE X o to)(hi:PE X i ti)(hs:PSet X t)(ha:∀v,assign (.Subscript o i pos) X.env v=(do
   let ov ←holding [v] (eval o X.env)
   let iv ←holding [v,ov] (eval i X.env)
   standAt pos
   holding [v,ov,iv] (setItem ov iv v)
   release [v,ov,iv] []):=by intro _;rfl):PG X (.Subscript o i pos) (gSub to ti t):=by
 intro pins s σ H v u Q I r h
 rw[ha]
 refine wpAny_bind (wpAny_holding (thn (ho pins s σ H _ I h) fun ov s1 ⟨x,H1,I1,r1,q1⟩=>?_))
 refine wpAny_bind (wpAny_holding (thn (hi pins s1 σ H1 _ I1 q1) fun iv s2 ⟨y,H2,I2,r2,q2⟩=>?_))
 refine wpAny_bind (wpAny_standAt (wpAny_bind (wpAny_holding (thn (hs pins s2 σ H2 x y v ov iv u _ I2 r1 r2 r q2) fun _ s3 ⟨H3,I3,q3⟩=>?_))))
 exact wpAny_release ⟨σ,H3,I3,q3⟩
def Sw(te:TE)(g:TG):TS:=fun D σ H=>te σ H fun x H1=>g x σ H1 D.nx
theorem Tu{tg e:Expr}{te:TE}{g:TG}(he:PE X e te)(hg:PG X tg g)(hs:swapsWithSole [tg] e pos.line X.env=pure false:=by rfl)(hw:swappedStores [tg] e X.env=pure none:=by rfl)(h1:(assignEach [tg] X.env).map (·.2)=[assign tg X.env]:=by rfl):PS X (.Assign [tg] e pos) (Sw te g):=by
 intro pins s σ H D I h
 refine wpAny_Assign_stores (thn (he pins s σ H _ I h) fun v s1 ⟨x,H1,I1,r1,q1⟩=>?_) hs hw
 rw[h1]
 exact thn (hg pins s1 σ H1 x v _ I1 r1 q1) fun _ s2 q=>q
theorem Tq{i:Nat}{x:Str}{e:Expr}{te:TE}{pos':Pos}(hN:X.N.Nodup)(hi:X.N[i]? = some x)(hx:Loc X.env.scope x)(he:PE X e te)(hs:swapsWith e (some (.Name x pos')) pos.line X.env=pure false:=by rfl)(hf:X.fn x=true∨X.env.scope.names.lookup x=some .local:=by first|exact .inl rfl|exact .inr rfl|assumption) :
  PS X (.Assign [.Name x pos'] e pos) (Sw te (Sn i)):=by
 intro pins s σ H D I h
 refine wpAny_Assign_Name (thn (he pins s σ H _ I h) fun v s1 ⟨y,H1,I1,r1,q1⟩=>?_) hs
 exact De I1 hN hi hx r1 (fun s2 I2=>⟨_,H1,I2,q1⟩) hf
def tPar(i j:Nat)(ta:TA):TS:=fun D σ H=>ta σ H fun vs H1=>∃v w,vs=[v,w]∧D.nx ((σ.set i (some v)).set j (some w)) H1
theorem Ts{i j:Nat}{x y:Str}{a b:Expr}{ta:TA}{px py pt:Pos}{kt k2 pt2}(hc:X.calm=true)(hN:X.N.Nodup)(hi:X.N[i]? = some x)(hj:X.N[j]? = some y)(hij:i≠j)(hx:X.env.scope.names.lookup x=some .local)(hy:X.env.scope.names.lookup y=some .local)(ha:PA X [a,b] ta)(hw:swappedStores [.Tuple [.Name x px,.Name y py] kt pt] (.Tuple [a,b] k2 pt2) X.env=pure (some [x,y]))(hs:swapsWithSole [.Tuple [.Name x px,.Name y py] kt pt] (.Tuple [a,b] k2 pt2) pos.line X.env=pure false:=by rfl) :
  PS X (.Assign [.Tuple [.Name x px,.Name y py] kt pt] (.Tuple [a,b] k2 pt2) pos) (tPar i j ta):=by
 intro pins s σ H D I h
 rw[exec_Assign_arm]
 refine wpAny_bind (wpAny_standAt ?_)
 rw[hs]
 refine wpAny_bind (wpAny_pure ?_)
 rw[if_neg (by decide)]
 refine wpAny_bind (Tuple_ (thn (ha _ pins s σ H _ I h) fun us s1 ⟨vs,H1,I1,r1,q1⟩=>?_))
 obtain⟨v,w,e1,q1⟩:=q1
 subst e1
 obtain⟨u1,u2,rfl,rv,rw'⟩:∃u1 u2,us=[u1,u2]∧RelV v u1∧RelV w u2:=by
  cases r1 with
  |cons p q=>
   cases q with
   |cons p' q'=>
    cases q'
    exact⟨_,_,rfl,p,p'⟩
 refine wpAny_newObj_type ?_ (by show 2≤sizeLine;decide)
 have I2:Inv X pins σ H1 { s1 with heap:=s1.heap.push { cls:=.type "tuple",data:=.seq [u1,u2].toArray } }:=I1.kept (t':=s1.toks) fun b o e=>Heap.get?_push_of_some _ e
 rw[hw]
 refine wpAny_bind (wpAny_pure ?_)
 show wpAny (model X.prog X.w) X.A (do rule "assign.swapped-stores";let items ←unpackItems (.ref s1.heap.objs.size) 2 none;assignInOrder [fun v=>bindName X.env y v,fun v=>bindName X.env x v] items.reverse;pure Flow.next) _ _ _
 refine wpAny_bind (wpAny_rule (wpAny_bind (unpackItems_tuple (items:=#[u1,u2]) (I.ok.hd hc) (IsTup.new s1.heap _) fun h' hx'=>?_)))
 have I3:=I2.kept (h':=h') (t':=s1.toks) fun b o e=>hx' b o (Nat.ne_of_lt (Heap.lt_size e)) e
 show wpAny _ _ (assignInOrder [fun v=>bindName X.env y v,fun v=>bindName X.env x v] [u2,u1] >>= fun _=>pure Flow.next) _ _ _
 refine wpAny_bind (assignInOrder_cons (wpAny_bindName (De I3 hN hj (.inl hy) rw' (fun s2 I4=>?_) (.inr hy))))
 refine assignInOrder_cons (wpAny_bindName (De I4 hN hi (.inl hx) rv (fun s3 I5=>assignInOrder_nil (wpAny_pure ?_)) (.inr hx)))
 rw[List.set_comm _ _ (Ne.symm hij)] at I5
 exact⟨_,H1,I5,q1⟩
def tAug(i:Nat)(te:TE)(ti:TIp):TS:=fun D σ H=>∃x,σ[i]? = some (some x)∧te σ H fun y H1=>ti x y H1 fun z H2=>D.nx (σ.set i (some z)) H2
theorem Tt{i:Nat}{x:Str}{e:Expr}{te:TE}{op:Operator}{ti:TIp}{pos':Pos}(hN:X.N.Nodup)(hi:X.N[i]? = some x)(hx:Loc X.env.scope x)(he:PE X e te)(ho:PIp X op ti)(hf:X.fn x=true∨X.env.scope.names.lookup x=some .local:=by first|exact .inl rfl|exact .inr rfl|assumption) :
  PS X (.AugAssign (.Name x pos') op e pos) (tAug i te ti):=by
 intro pins s σ H D I h
 obtain⟨v,e1,h⟩:=h
 obtain⟨m,hn,hl⟩:=I.loc
 have vis:Vis X.env.scope x:=by rcases hx with k|k;exact .inl k;exact .inr (.inl k)
 obtain⟨u,r,l⟩:=hl i x v hi e1 vis
 refine wpAny_AugAssign_Name ?_
 have go:wpAny (model X.prog X.w) X.A (eval e X.env) (fun w s₂=>wpAny (model X.prog X.w) X.A (inplaceOp op u w) (fun r s₃=>wpAny (model X.prog X.w) X.A (storeName X.env x r) (fun _=>SP X pins D .next) X.xe s₃) X.xe s₂) X.xe s:=by
  refine thn (he pins s σ H _ I h) fun w s1 ⟨y,H1,I1,r1,q1⟩=>?_
  refine thn (ho pins s1 σ H1 v y u w _ I1 r r1 q1) fun z s2 ⟨zv,H2,I2,r2,q2⟩=>?_
  exact De I2 hN hi hx r2 (fun s3 I3=>⟨_,H2,I3,q2⟩) hf
 rcases l with ⟨hk,hm⟩|⟨hk,c,hc,hcell⟩
 ·exact wpAny_loadName_local I.ok.kind hk hn hm go
 ·rcases hk with hk|hk
  ·exact wpAny_loadName_cell I.ok.kind hk hc hcell go
  ·rcases hx with k|k
   ·have:X.env.scope.names.lookup x=some .free:=hk
    rw[k] at this;cases this
   ·have:X.env.scope.names.lookup x=some .free:=hk
    rw[k] at this;cases this
def ipI(f:Int→Int→Int):TIp:=fun x y H Q=>∃i j,x=.int i∧y=.int j∧Q (.int (f i j)) H
theorem Ut:PIp X .Sub (ipI fun i j=>i-j):=by
 intro pins s σ H x y v u Q I r1 r2 h
 obtain⟨i,j,e1,e2,q⟩:=h
 subst e1;subst e2
 obtain⟨t,rfl⟩:=r1
 obtain⟨t',rfl⟩:=r2
 exact isub_int ⟨.int _,H,I.tok _,⟨_,rfl⟩,q⟩
end
section
variable{X:Cx}{pos:Pos}
def Td(c:TT)(tb:TS):TS:=fun D σ H=>∃W:Nat→St→Hp→Prop,(∃m,W m σ H)∧∀m σ H,W m σ H→
 c σ H fun b H1=>if b=true then ∃N:St→Hp→Prop,(∀σ' H',N σ' H'→∃m',m'<m∧W m' σ' H')∧tb { D with nx:=N,ct:=N,bk:=D.nx } σ H1 else D.nx σ H1
theorem Pi{c:Expr}{body:List Stmt}{tc:TT}{tb:TS}(hp:PassesOwn (model X.prog X.w) X.A X.env X.xe)(hc:PT X c tc)(hb:PSs X body tb):PS X (.While c body [] pos) (Td tc tb):=by
 intro pins s σ H D I h
 obtain⟨W,⟨m0,w0⟩,turn⟩:=h
 refine wpAny_While (codeAny_whileLoop (fun n s'=>∃σ' H',Inv X pins σ' H' s'∧W n σ' H') ?_ m0 ⟨σ,H,I,w0⟩)
 rintro n s1 ⟨σ1,H1,I1,w1⟩
 refine wpAny_passesOwn hp (thn (hc pins s1 σ1 H1 _ I1 (turn n σ1 H1 w1)) fun b s2 ⟨H2,I2,q2⟩=>?_)
 cases b with
 |true=>
  obtain⟨N,hN,q2⟩:=q2
  rw[if_pos rfl]
  refine wpAny_passesOwn hp (thn (hb pins s2 σ1 H2 _ I2 q2) fun f s3 q3=>?_)
  cases f with
  |next=>
   obtain⟨σ3,H3,I3,n3⟩:=q3
   obtain⟨m',hm,w3⟩:=hN σ3 H3 n3
   exact⟨m',hm,σ3,H3,I3,w3⟩
  |cont=>
   obtain⟨σ3,H3,I3,n3⟩:=q3
   obtain⟨m',hm,w3⟩:=hN σ3 H3 n3
   exact⟨m',hm,σ3,H3,I3,w3⟩
  |brk=>exact q3
  |ret v=>exact q3
 |false=>
  rw[if_neg Bool.false_ne_true]
  exact wpAny_execs_nil ⟨σ1,H2,I2,q2⟩
end
structure It where
 go:Nat→Hp→Prop
 yld:Nat→Hp→V→Hp→Prop
 stop:Nat→Hp→Prop
def E3(X:Cx)(pins:List (Addr×Obj))(H:Hp)(b:Addr):Prop:=
 H b=none∧b≠X.env.locals∧b ∉ X.fs∧(b∈X.ex∨X.s₀.heap.objs.size≤b)∧(∀x c,X.env.cells.lookup x=some c→c≠b)∧∀p∈X.pn++pins,p.1≠b
theorem Inv.fpOk{X:Cx}{pins:List (Addr×Obj)}{σ:St}{H H':Hp}{s:Shared}{b:Addr}(I:Inv X pins σ H s)(hb:s.heap.objs.size≤b)(hn:H' b=none):E3 X pins H' b:=by
 refine⟨hn,Nat.ne_of_gt (Nat.lt_of_lt_of_le I.lt hb),I.nofs hb,.inr (Nat.le_trans I.sz hb),fun x c e z=>?_,fun p hp z=>?_⟩
 ·obtain⟨v,q⟩:=I.cell x c e
  exact absurd (Nat.lt_of_lt_of_le q.lt (by rw[z];exact hb)) (Nat.lt_irrefl _)
 ·exact absurd (Nat.lt_of_lt_of_le (Heap.lt_size (I.pin p hp).1) (by rw[z];exact hb)) (Nat.lt_irrefl _)
structure Turn(P:Program)(w:World)(K:PySem.W.Frag)(tg:Expr)(J:It)(fp:List Addr)(it:Addr)(tn:Nat→Heap→Prop):Prop where
 mem:it∈fp
 obj:∀i h,tn i h→∀b∈fp,∃o,h.get? b=some o∧∀v,o.data≠.cell v
 keep:∀i h h',tn i h→(∀b∈fp,∀o,h.get? b=some o→h'.get? b=some o)→tn i h'
 item:∀(X:Cx),X.prog=P→X.w=w→X.K=K→X.calm=true→∀(i:Nat) (pins:List (Addr×Obj)) (s:Shared) (σ:St) (H:Hp) (E:Value→Shared→Prop),Inv X pins σ H s→(∀b∈fp,E3 X pins H b)→tn i s.heap→J.go i H→
  wpAny (model P w) X.A (pyNext (.ref it)) (fun r s1=>∃u,r=some u∧
   wpAny (model P w) X.A (letOwnedTupleGo tg (.ref it) u) (fun _ s2=>∃x H',Inv X pins σ H' s2∧RelV x u∧J.yld i H x H'∧tn (i+1) s2.heap∧∀b∈fp,H' b=none) E s1) E s
 done:∀(X:Cx),X.prog=P→X.w=w→X.K=K→X.calm=true→∀(i:Nat) (pins:List (Addr×Obj)) (s:Shared) (σ:St) (H:Hp) (E:Value→Shared→Prop),Inv X pins σ H s→(∀b∈fp,E3 X pins H b)→tn i s.heap→J.stop i H→
  wpAny (model P w) X.A (pyNext (.ref it)) (fun r s1=>r=none∧Inv X pins σ H s1) E s
 self:∀(A:Around) (i:Nat) (s:Shared) (Q:Value→Shared→Prop) (E:Value→Shared→Prop),tn i s.heap→Q (.ref it) s→wpAny (model P w) A (pyIter (.ref it)) Q E s
abbrev TI:=St→Hp→(It→Hp→Prop)→Prop
def PIE(X:Cx)(pins:List (Addr×Obj))(σ:St)(tg:Expr)(R:It→Hp→Prop)(itv:Value)(s2:Shared):Prop:=
 ∃(it:Addr) (fp:List Addr) (tn:Nat→Heap→Prop) (J:It) (H':Hp),itv=.ref it∧Inv X pins σ H' s2∧Turn X.prog X.w X.K tg J fp it tn∧tn 0 s2.heap∧(∀b∈fp,E3 X pins H' b)∧R J H'
def PI(X:Cx)(tg iter:Expr)(wi:TI):Prop:=
 ∀(pins:List (Addr×Obj)) (s:Shared) (σ:St) (H:Hp) (R:It→Hp→Prop),Inv X pins σ H s→wi σ H R→
  wpAny (model X.prog X.w) X.A (eval iter X.env) (fun v s1=>wpAny (model X.prog X.w) X.A (pyIter v) (PIE X pins σ tg R) X.xe s1) X.xe s

theorem Of {M:Model} {A:Around} {E:Value→Shared→Prop} {s:Shared} {tg:Expr} {it:Addr} {u:Value} {o:Obj} {n:String} {vs:Array Value} {Q:Unit→Shared→Prop} (ho:s.heap.get? it=some o) (hc:o.cls=.type n) (hd:o.data=.fields vs)
    (hn:["enumerate", "zip", "dict_itemiterator", "dict_reverseitemiterator", "odict_iterator", "itertools.zip_longest", "itertools.pairwise"].contains n=false) (hQ:Q () s):wpAny M A (letOwnedTupleGo tg (.ref it) u) Q E s:=by
  unfold letOwnedTupleGo
  cases tg<;>first
    | exact wpAny_pure hQ
    | (cases u<;>first
        | exact wpAny_pure hQ
        | (refine wpAny_bind (wpAny_load ho ?_)
           rw [hc,hd]
           show wpAny M A (if (["enumerate", "zip", "dict_itemiterator", "dict_reverseitemiterator", "odict_iterator", "itertools.zip_longest", "itertools.pairwise"].contains n&&vs[0]? == some (rawInt _))=true then _ else _) Q E s
           rw [if_neg (by intro h;rw [hn,Bool.false_and] at h;cases h)]
           exact wpAny_pure hQ))

def Itl(K:PySem.W.Frag)(a:Addr):It:=
 ⟨fun i H=>∃xs x,SqL K H a xs∧xs[i]? = some x,fun i H x H'=>H'=H∧∀xs,SqL K H a xs→xs[i]? = some x,fun i H=>∃xs,SqL K H a xs∧xs.length≤i⟩
def Itt(K:PySem.W.Frag)(a:Addr):It:=
 ⟨fun i H=>∃xs x,SqT K H a xs∧xs[i]? = some x,fun i H x H'=>H'=H∧∀xs,SqT K H a xs→xs[i]? = some x,fun i H=>∃xs,SqT K H a xs∧xs.length≤i⟩
def Itr(lo:Int)(n:Nat):It:=⟨fun i _=>i<n,fun i H x H'=>H'=H∧x=.int (lo+i),fun i _=>n≤i⟩
theorem Mq{P:Program}{w:World}{K:W.Frag}{tg:Expr}(a it:Addr):Turn P w K tg (Itl K a) [it] it (fun i h=>h.IsListIter it a i) where
 mem:=by simp
 obj:=fun i h st b hb=>by
  have e:b=it:=by simpa using hb
  subst e
  obtain⟨o,e,c,d⟩:=st
  exact⟨o,e,fun v z=>by rw[d] at z;cases z⟩
 keep:=fun i h h' st k=>st.at fun o e=>k it (by simp) o e
 item:=by
  intro X hP hw hK hc i pins s σ H E I hf st hg
  subst hP hw hK
  obtain⟨xs,x,hq,hx⟩:=hg
  obtain⟨its,rv,p,hz⟩:=I.list hq
  obtain⟨u,hu,ru⟩:=rv.get hx
  obtain⟨f0,f1,f2,f3,f4,f5⟩:=hf it (by simp)
  refine wpAny_pyNext_list_item st p.isList (x:=u) (by simpa using hu) fun h' st' sb=>?_
  have I1:Inv X pins σ H { s with heap:=h' }:=I.turned (t':=s.toks) (fun b o hb e=>(sb.2 b hb).trans e) f0 f1 f3 f4 f5
  obtain⟨o,e,c,d⟩:=id st'
  exact⟨u,rfl,Of (s:={ s with heap:=h' }) e c d (by decide) ⟨x,H,I1,ru,⟨rfl,fun ys hy=>by rw[I.list_inj hy hq];exact hx⟩,st',fun b hb=>(hf b hb).1⟩⟩
 done:=by
  intro X hP hw hK hc i pins s σ H E I hf st hg
  subst hP hw hK
  obtain⟨xs,hq,hx⟩:=hg
  obtain⟨its,rv,p,hz⟩:=I.list hq
  obtain⟨f0,f1,f2,f3,f4,f5⟩:=hf it (by simp)
  have hl:=rv.length
  exact wpAny_pyNext_list_end (I.ok.hd hc) st p.isList (by simp;omega) fun h' eb=>⟨rfl,I.turned (t':=s.toks) (fun b o hb e=>eb b o hb e) f0 f1 f3 f4 f5⟩
 self:=fun _ _ _ _ _ st h=>wpAny_pyIter_listiter st h
theorem K3{P:Program}{w:World}{K:W.Frag}{tg:Expr}(a it:Addr):Turn P w K tg (Itt K a) [it] it (fun i h=>h.IsTupleIter it a i) where
 mem:=by simp
 obj:=fun i h st b hb=>by
  have e:b=it:=by simpa using hb
  subst e
  obtain⟨o,e,c,d⟩:=st
  exact⟨o,e,fun v z=>by rw[d] at z;cases z⟩
 keep:=fun i h h' st k=>st.at fun o e=>k it (by simp) o e
 item:=by
  intro X hP hw hK hc i pins s σ H E I hf st hg
  subst hP hw hK
  obtain⟨xs,x,hq,hx⟩:=hg
  obtain⟨its,rv,p,hz⟩:=I.tuple hq
  obtain⟨u,hu,ru⟩:=rv.get hx
  obtain⟨f0,f1,f2,f3,f4,f5⟩:=hf it (by simp)
  refine wpAny_pyNext_tuple_item st (show s.heap.IsTuple a its.toArray from p) (x:=u) (by simpa using hu) fun h' st' sb=>?_
  have I1:Inv X pins σ H { s with heap:=h' }:=I.turned (t':=s.toks) (fun b o hb e=>(sb.2 b hb).trans e) f0 f1 f3 f4 f5
  obtain⟨o,e,c,d⟩:=id st'
  exact⟨u,rfl,Of (s:={ s with heap:=h' }) e c d (by decide) ⟨x,H,I1,ru,⟨rfl,fun ys hy=>by rw[I.tuple_inj hy hq];exact hx⟩,st',fun b hb=>(hf b hb).1⟩⟩
 done:=by
  intro X hP hw hK hc i pins s σ H E I hf st hg
  subst hP hw hK
  obtain⟨xs,hq,hx⟩:=hg
  obtain⟨its,rv,p,hz⟩:=I.tuple hq
  obtain⟨f0,f1,f2,f3,f4,f5⟩:=hf it (by simp)
  have hl:=rv.length
  exact wpAny_pyNext_tuple_end (I.ok.hd hc) st (show s.heap.IsTuple a its.toArray from p) (by simp;omega) fun h' eb=>⟨rfl,I.turned (t':=s.toks) (fun b o hb e=>eb b o hb e) f0 f1 f3 f4 f5⟩
 self:=fun _ _ _ _ _ st h=>wpAny_pyIter_tupleiter st h
theorem K4{P:Program}{w:World}{K:W.Frag}{tg:Expr}(it:Addr)(lo:Int)(n:Nat):Turn P w K tg (Itr lo n) [it] it (fun i h=>IsRangeIter h it (lo+(i:Nat)*1) ((n:Int)-(i:Nat)) 1) where
 mem:=by simp
 obj:=fun i h st b hb=>by
  have e:b=it:=by simpa using hb
  subst e
  exact⟨_,st,fun v z=>by
   have z':Data.fields _=Data.cell v:=z
   cases z'⟩
 keep:=fun i h h' st k=>k it (by simp) _ st
 item:=by
  intro X hP hw hK hc i pins s σ H E I hf st hg
  subst hP hw hK
  obtain⟨f0,f1,f2,f3,f4,f5⟩:=hf it (by simp)
  have W:=Walks.range (prog:=X.prog) (w:=X.w) (I.ok.hd hc) it lo 1 n
  refine W.item i s _ _ hg st fun v h' tk hv st' kk=>?_
  obtain⟨t,rfl⟩:=hv
  have I1:Inv X pins σ H { s with heap:=h',toks:=tk }:=I.turned (fun b o hb e=>kk b o (by simpa using hb) e) f0 f1 f3 f4 f5
  refine⟨_,rfl,Of (s:={ s with heap:=h',toks:=tk }) (n:="range_iterator") st' rfl rfl (by decide) ⟨.int (lo+i),H,I1,⟨t,?_⟩,⟨rfl,rfl⟩,st',fun b hb=>(hf b hb).1⟩⟩
  rw[Int.mul_one]
 done:=by
  intro X hP hw hK hc i pins s σ H E I hf st hg
  subst hP hw hK
  obtain⟨f0,f1,f2,f3,f4,f5⟩:=hf it (by simp)
  exact wpAny_pyNext_range_end (I.ok.hd hc) st (by have:n≤i:=hg;omega) fun h' eb=>⟨rfl,I.turned (t':=s.toks) (fun b o hb e=>eb b o hb e) f0 f1 f3 f4 f5⟩
 self:=fun _ _ _ _ _ st h=>wpAny_pyIter_rangeiter st h
end L2
namespace L2
open PySem PySem.Spec PyProof.Rows
section
variable{X:Cx}{tg:Expr}
theorem Pc{pins:List (Addr×Obj)}{σ:St}{H:Hp}{s:Shared}{R:It→Hp→Prop}{E:Value→Shared→Prop}{lo hi:Int}{t u v:Tok}{tk:Nat}(I:Inv X pins σ H s)(h1 : -(2 ^ 62)≤lo)(h2:lo<2 ^ 62)(h3 : -(2 ^ 62)≤hi)(h4:hi<2 ^ 62)(q:R (Itr lo (hi-lo).toNat) H):wpAny (model X.prog X.w) X.A (pyIter (.ref s.heap.objs.size)) (PIE X pins σ tg R) E { s with heap:=s.heap.push { cls:=.type "range",data:=.fields #[.int lo t,.int hi u,.int 1 v] },toks:=tk }:=by
 refine wpAny_pyIter_range (IsRange.new ..) (small_one h1 h2 h3 h4) ?_
 have I1:Inv X pins σ H { s with heap:=s.heap.push { cls:=.type "range",data:=.fields #[.int lo t,.int hi u,.int 1 v] },toks:=tk }:=I.kept fun b o e=>Heap.get?_push_of_some _ e
 refine⟨(s.heap.push { cls:=.type "range",data:=.fields #[.int lo t,.int hi u,.int 1 v] }).objs.size,[(s.heap.push { cls:=.type "range",data:=.fields #[.int lo t,.int hi u,.int 1 v] }).objs.size],_,_,H,rfl,
  I1.kept (t':=tk) fun b o e=>Heap.get?_push_of_some _ e,K4 _ lo (hi-lo).toNat,?_,fun b hb=>?_,q⟩
 ·have e1:lo+((0:Nat):Int)*1=lo:=by simp
  have e2:(((hi-lo).toNat:Nat):Int)-((0:Nat):Int)=Builtin.Range.rangeSize lo hi 1:=by rw[rangeSize_one];split<;>omega
  show IsRangeIter _ _ (lo+((0:Nat):Int)*1) ((((hi-lo).toNat:Nat):Int)-((0:Nat):Int)) 1
  rw[e1,e2]
  exact Heap.get?_push_size _ rfl
 ·have e:b=(s.heap.push { cls:=.type "range",data:=.fields #[.int lo t,.int hi u,.int 1 v] }).objs.size:=by simpa using hb
  subst e
  exact I1.fpOk (Nat.le_refl _) (I1.hok.fresh (Nat.le_refl _))
def V0(ta:TA):TI:=fun σ H R=>ta σ H fun vs H1=>∃j:Int,vs=[.int j]∧-(2 ^ 62)≤j∧j<2 ^ 62∧R (Itr 0 j.toNat) H1
theorem M3{a:Expr}{ta:TA}{p pos:Pos}(hg:Gl X "range")(hm:X.mg "range" = none)(ha:PA X [a] ta)(hs:starEach [a] X.env=[(false,eval a X.env)]:=by rfl):PI X tg (.Call (.Name "range" p) [a] [] pos) (V0 ta):=by
 intro pins s σ H R I h
 refine Call_ (Ht I hg hm boot_range (PyProof.Rows.callWith_type1 (thn (ha pos pins s σ H _ I h) fun us s1 ⟨vs,H1,I1,r1,q1⟩=>?_) hs rfl))
 obtain⟨j,e,q1,q2,q⟩:=q1
 subst e
 cases r1 with
 |cons r rr=>
  cases rr
  obtain⟨t,rfl⟩:=r
  exact call_range_1 (Pc I1 (by omega) (by omega) q1 q2 (by simpa using q))
def tFor(wi:TI)(g:TG)(tb:TS):TS:=fun D σ H=>wi σ H fun J H1=>∃W:Nat→Nat→St→Hp→Prop,(∃m,W 0 m σ H1)∧∀i m σ H,W i m σ H→
 (J.stop i H∧D.nx σ H)∨(J.go i H∧∃N:St→Hp→Prop,(∀σ' H',N σ' H'→∃m',m'<m∧W (i+1) m' σ' H')∧∀x H',J.yld i H x H'→g x σ H' fun σ2 H2=>tb { D with nx:=N,ct:=N,bk:=D.nx } σ2 H2)
def El(fp:List Addr)(h:Heap):List (Addr×Obj):=fp.filterMap fun b=>(h.get? b).map fun o=>(b,o)
theorem C3{fp:List Addr}{h:Heap}{b:Addr}{o:Obj}(hb:b∈fp)(e:h.get? b=some o):(b,o)∈El fp h:=List.mem_filterMap.mpr ⟨b,hb,by rw[e];rfl⟩
theorem Na{fp:List Addr}{h:Heap}{p:Addr×Obj}(hp:p∈El fp h):p.1∈fp∧h.get? p.1=some p.2:=by
 obtain⟨b,hb,e⟩:=List.mem_filterMap.mp hp
 cases q:h.get? b with
 |none=>rw[q] at e;cases e
 |some o=>
  rw[q] at e
  have e':(b,o)=p:=Option.some.inj e
  subst e'
  exact⟨hb,q⟩
theorem Inv.pinned{pins:List (Addr×Obj)}{σ:St}{H:Hp}{s:Shared}{fp:List Addr}(I:Inv X pins σ H s)(hf:∀b∈fp,E3 X pins H b)(ho:∀b∈fp,∃o,s.heap.get? b=some o∧∀v,o.data≠.cell v):Inv X (pins++El fp s.heap) σ H s:=
 I.pins_of fun p hp=>(List.mem_append.mp hp).elim (fun z=>I.pin p (List.mem_append_right _ z)) fun z=>by
  obtain⟨hb,e⟩:=Na z
  obtain⟨f0,f1,f2,_⟩:=hf p.1 hb
  obtain⟨o,e',d⟩:=ho p.1 hb
  rw[e] at e';cases e'
  exact⟨e,f0,f1,f2,d⟩
theorem Inv.unpinned{pins pl:List (Addr×Obj)}{σ:St}{H:Hp}{s:Shared}(I:Inv X (pins++pl) σ H s):Inv X pins σ H s:=I.pins_of fun p hp=>I.pin p (List.mem_append_right _ (List.mem_append_left _ hp))
theorem Ov{iter:Expr}{body:List Stmt}{wi:TI}{g:TG}{tb:TS}{pos:Pos}(hp:PassesOwn (model X.prog X.w) X.A X.env X.xe)(hc:X.calm=true)(hi:PI X tg iter wi)(hg:PG X tg g)(hb:PSs X body tb)(hs:∀x,foldedSetIterable iter X.env x=pure x:=by intro _;rfl):PS X (.For tg iter body [] pos) (tFor wi g tb):=by
 intro pins s σ H D I h
 refine wpAny_For (thn (hi pins s σ H _ I h) fun v s1 h1=>thn h1 fun itv s2 h2=>?_) hs
 obtain⟨it,fp,tn,J,H2,e,I2,T,st2,f2,W,⟨m0,w0⟩,turn⟩:=h2
 subst e
 -- what stays true of the iterator's objects through the loop
 have stat:∀{H':Hp},(∀b∈fp,H' b=none)→∀b∈fp,E3 X pins H' b:=fun hn b hb=>⟨hn b hb,(f2 b hb).2⟩
 refine codeAny_forLoop_any (fun n s'=>∃i σ' H',Inv X pins σ' H' s'∧tn i s'.heap∧(∀b∈fp,H' b=none)∧W i n σ' H') ?_ m0 ⟨0,σ,H2,I2,st2,fun b hb=>(f2 b hb).1,w0⟩
 rintro n s3 ⟨i,σ3,H3,I3,st3,fr3,w3⟩
 rcases turn i n σ3 H3 w3 with ⟨stop,qn⟩|⟨go,N,hN,step⟩
 ·refine wpAny_passesOwn hp (thn (T.done X rfl rfl rfl hc i pins s3 σ3 H3 X.xe I3 (stat fr3) st3 stop) fun r s4 ⟨hr,I4⟩=>?_)
  subst hr
  exact wpAny_execs_nil ⟨σ3,H3,I4,qn⟩
 ·refine wpAny_passesOwn hp (thn (T.item X rfl rfl rfl hc i pins s3 σ3 H3 X.xe I3 (stat fr3) st3 go) fun r s4 ⟨u,hr,h4⟩=>?_)
  subst hr
  refine wpAny_passesOwn hp (thn h4 fun _ s5 ⟨x,H5,I5,r5,y5,st5,fr5⟩=>?_)
  have I5':=I5.pinned (stat fr5) (T.obj _ _ st5)
  refine wpAny_passesOwn hp (thn (hg _ s5 σ3 H5 x u _ I5' r5 (step x H5 y5)) fun _ s6 ⟨σ6,H6,I6,q6⟩=>?_)
  refine wpAny_passesOwn hp (thn (hb _ s6 σ6 H6 _ I6 q6) fun f s7 q7=>?_)
  have again:∀{σ7:St} {H7:Hp},Inv X (pins++El fp s5.heap) σ7 H7 s7→N σ7 H7→∃m,m<n∧∃i σ' H',Inv X pins σ' H' s7∧tn i s7.heap∧(∀b∈fp,H' b=none)∧W i m σ' H':=fun {σ7 H7} I7 n7=>by
   obtain⟨m',hm,w7⟩:=hN σ7 H7 n7
   refine⟨m',hm,i+1,σ7,H7,I7.unpinned,T.keep _ _ _ st5 fun b hb o e=>(I7.pin (b,o) (List.mem_append_right _ (List.mem_append_right _ (C3 hb e)))).1,fun b hb=>?_,w7⟩
   obtain⟨o,e,d⟩:=T.obj _ _ st5 b hb
   exact(I7.pin (b,o) (List.mem_append_right _ (List.mem_append_right _ (C3 hb e)))).2.1
  cases f with
  |next=>obtain⟨σ7,H7,I7,n7⟩:=q7;exact again I7 n7
  |cont=>obtain⟨σ7,H7,I7,n7⟩:=q7;exact again I7 n7
  |brk=>obtain⟨σ7,H7,I7,q7⟩:=q7;exact⟨σ7,H7,I7.unpinned,q7⟩
  |ret v=>obtain⟨x7,σ7,H7,I7,r7,q7⟩:=q7;exact⟨x7,σ7,H7,I7.unpinned,r7,q7⟩
end
end L2
namespace L2
open PySem PySem.Spec PyProof.Rows
abbrev R2:=V→V→Hp→VK→Prop
def OpR(X:Cx)(f:Value→Value→Sem Value)(r:R2):Prop:=
 ∀(pins:List (Addr×Obj)) (s:Shared) (σ:St) (H:Hp) (x y:V) (v u:Value) (Q:VK),Inv X pins σ H s→RelV x v→RelV y u→r x y H Q→
  wpAny (model X.prog X.w) X.A (f v u) (EP X pins σ Q) X.xe s
def CallR(X:Cx)(f:Value)(r:List V→Hp→VK→Prop):Prop:=
 ∀(pins:List (Addr×Obj)) (s:Shared) (σ:St) (H:Hp) (xs:List V) (us:List Value) (Q:VK),Inv X pins σ H s→Vals xs us→r xs H Q→
  wpAny (model X.prog X.w) X.A (call f us) (EP X pins σ Q) X.xe s
def TruR(X:Cx)(r:V→Hp→(Bool→Hp→Prop)→Prop):Prop:=
 ∀(pins:List (Addr×Obj)) (s:Shared) (σ:St) (H:Hp) (x:V) (v:Value) (Q:Bool→Hp→Prop),Inv X pins σ H s→RelV x v→r x H Q→
  wpAny (model X.prog X.w) X.A (truthy v) (TP X pins σ Q) X.xe s

def tOp(r:R2)(ta tb:TE):TE:=fun σ H Q=>ta σ H fun x H1=>tb σ H1 fun y H2=>r x y H2 Q
def rI(C:Int→Int→Prop)(g:Int→Int→V):R2:=fun x y H Q=>∃i j,x=.int i∧y=.int j∧C i j∧Q (g i j) H
def rI0(g:Int→Int→V):R2:=fun x y H Q=>∃i j,x=.int i∧y=.int j∧Q (g i j) H
section
variable{X:Cx}{a b c:Expr}{ta tb tc:TE}{pos:Pos}
theorem S5(ha:PE X a ta)(hb:PE X b tb){pins:List (Addr×Obj)}{s:Shared}{σ:St}{H:Hp}{R:V→V→Hp→Prop}(I:Inv X pins σ H s)(h:ta σ H fun x H1=>tb σ H1 fun y H2=>R x y H2){Q:Value→Shared→Prop}{f:Value→Value→Sem Value}(hf:∀v u s2 x y H2,Inv X pins σ H2 s2→RelV x v→RelV y u→R x y H2→wpAny (model X.prog X.w) X.A (f v u) Q X.xe s2) :
  wpAny (model X.prog X.w) X.A (eval a X.env) (fun v s₁=>wpAny (model X.prog X.w) X.A (eval b X.env) (fun u s₂=>wpAny (model X.prog X.w) X.A (f v u) Q X.xe s₂) X.xe s₁) X.xe s:=by
 refine thn (ha pins s σ H _ I h) fun v s1 ⟨x,H1,I1,r1,q1⟩=>?_
 refine thn (hb pins s1 σ H1 _ I1 q1) fun u s2 ⟨y,H2,I2,r2,q2⟩=>?_
 exact hf v u s2 x y H2 I2 r1 r2 q2

theorem Vq{op:Operator}{r:R2}(ho:OpR X (binaryOp op) r)(ha:PE X a ta)(hb:PE X b tb):PE X (.BinOp a op b pos) (tOp r ta tb):=by
 intro pins s σ H Q I h
 exact wpAny_BinOp (S5 ha hb I h fun v u s2 x y H2 I2 rx ry q=>ho pins s2 σ H2 x y v u Q I2 rx ry q)
theorem opI{f:Value→Value→Sem Value}{C:Int→Int→Prop}{g:Int→Int→Int}(rule:∀(i j:Int) (t u:Tok) (s:Shared) (Q:Value→Shared→Prop) (E:Value→Shared→Prop),C i j→Q (.int (g i j) s.toks) { s with toks:=s.toks+1 }→wpAny (model X.prog X.w) X.A (f (.int i t) (.int j u)) Q E s) :
  OpR X f (rI C fun i j=>.int (g i j)):=by
 intro pins s σ H x y v u Q I rx ry h
 obtain⟨i,j,rfl,rfl,hc,q⟩:=h
 obtain⟨t,rfl⟩:=rx
 obtain⟨t',rfl⟩:=ry
 exact rule i j t t' s _ _ hc ⟨.int (g i j),H,I.tok _,⟨_,rfl⟩,q⟩
theorem Va{f:Value→Value→Sem Value}{g:Int→Int→Int}(rule:∀(i j:Int) (t u:Tok) (s:Shared) (Q:Value→Shared→Prop) (E:Value→Shared→Prop),Q (.int (g i j) s.toks) { s with toks:=s.toks+1 }→wpAny (model X.prog X.w) X.A (f (.int i t) (.int j u)) Q E s) :
  OpR X f (rI0 fun i j=>.int (g i j)):=by
 intro pins s σ H x y v u Q I rx ry h
 obtain⟨i,j,rfl,rfl,q⟩:=h
 obtain⟨t,rfl⟩:=rx
 obtain⟨t',rfl⟩:=ry
 exact rule i j t t' s _ _ ⟨.int (g i j),H,I.tok _,⟨_,rfl⟩,q⟩
theorem Sz{f:Value→Value→Sem Value}{g:Int→Int→Bool}(rule:∀(i j:Int) (t u:Tok) (s:Shared) (Q:Value→Shared→Prop) (E:Value→Shared→Prop),Q (.bool (g i j)) s→wpAny (model X.prog X.w) X.A (f (.int i t) (.int j u)) Q E s) :
  OpR X f (rI0 fun i j=>.bl (g i j)):=by
 intro pins s σ H x y v u Q I rx ry h
 obtain⟨i,j,rfl,rfl,q⟩:=h
 obtain⟨t,rfl⟩:=rx
 obtain⟨t',rfl⟩:=ry
 exact rule i j t t' s _ _ ⟨.bl (g i j),H,I,rfl,q⟩

def Kq(i j:Int):Prop:=0<j∧j<1073741824
def CMul(i j:Int):Prop:=(-(2 ^ 64)<i∧i<2 ^ 64)∨(-(2 ^ 64)<j∧j<2 ^ 64)
theorem CMul.ok{i j:Int}(h:CMul i j):IntMulOk i j:=by
 rcases h with ⟨h1,h2⟩|⟨h1,h2⟩
 ·exact .of_left (intBits_le_64 h1 h2)
 ·exact .of_right (intBits_le_64 h1 h2)
theorem Ub:OpR X (binaryOp .Add) (rI0 fun i j=>.int (i+j)):=Va fun _ _ _ _ _ _ _ q=>add_int q
theorem T7:OpR X (binaryOp .Sub) (rI0 fun i j=>.int (i-j)):=Va fun _ _ _ _ _ _ _ q=>sub_int q
theorem T8:OpR X (binaryOp .Mult) (rI CMul fun i j=>.int (i*j)):=opI fun _ _ _ _ _ _ _ hc q=>mul_int q hc.ok
theorem Ri:OpR X (binaryOp .FloorDiv) (rI Kq fun i j=>.int (i / j)):=opI fun i j _ _ _ _ _ hc q=>by
 have h1:(0:Int)<j:=hc.1
 have h2:j<1073741824:=hc.2
 exact floordiv_int (by omega) (by rw[Int.fdiv_eq_ediv_of_nonneg i (by omega)];exact q) (.inl (PyProof.noPylong_small (by omega)))
theorem T9:OpR X (binaryOp .Mod) (rI (fun _ j=>0<j) fun i j=>.int (i % j)):=opI fun i j _ _ _ _ _ hc q=>by
 have h1:(0:Int)<j:=hc
 exact mod_int' (by omega) (by rw[Int.fmod_eq_emod_of_nonneg i (by omega)];exact q)
end
def Sx:V→V→Bool
 |.non,.non=>true|.non,.int _=>true|.int _,.non=>true|.non,.bl _=>true|.bl _,.non=>true|.non,.str _=>true|.str _,.non=>true
 |.int _,.int _=>true|.bl _,.bl _=>true|.str _,.str _=>true|.byt _,.byt _=>true
 |.int _,.str _=>true|.str _,.int _=>true|.bl _,.str _=>true|.str _,.bl _=>true
 |_,_=>false
def rEq:R2:=fun x y H Q=>Sx x y=true∧Q (.bl (decide (x=y))) H
def rNe:R2:=fun x y H Q=>Sx x y=true∧Q (.bl (!decide (x=y))) H

theorem Mf{i j:Int}:decide (V.int i=V.int j)=(i == j):=by
 rw[Bool.eq_iff_iff]
 simp
theorem O2{i j:Bool}:decide (V.bl i=V.bl j)=(i == j):=by
 rw[Bool.eq_iff_iff]
 simp
theorem Me{i j:Str}:decide (V.str i=V.str j)=(i == j):=by
 rw[Bool.eq_iff_iff]
 simp
theorem Mh{i j:Array UInt8}:decide (V.byt i=V.byt j)=(i.toList == j.toList):=by
 rw[Bool.eq_iff_iff]
 cases i
 cases j
 simp

section
variable{X:Cx}{a b c:Expr}{ta tb tc:TE}{pos:Pos}
theorem An{pins:List (Addr×Obj)}{σ:St}{H:Hp}{s:Shared}{Q:VK}{k k':Bool}(I:Inv X pins σ H s)(q:Q (.bl k) H)(e:k=k'):EP X pins σ Q (.bool k') s:=by
 subst e
 exact⟨.bl k,H,I,rfl,q⟩
theorem Vy:OpR X (compareOp .Eq) rEq:=by
 intro pins s σ H x y v u Q I rx ry h
 obtain⟨hs,q⟩:=h
 cases x with
 |non=>
  cases rx
  cases y with
  |non=>cases ry;exact PySem.EqNone.eq_none_none (An I q (by simp))
  |bl j=>cases ry;exact PySem.EqNone.eq_none_bool (An I q (by simp))
  |int j=>obtain⟨t',rfl⟩:=ry;exact PySem.EqNone.eq_none_int (An I q (by simp))
  |str j=>obtain⟨t',rfl⟩:=ry;exact PySem.EqNone.eq_none_str (An I q (by simp))
  |_=>exact absurd (show false=true from hs) Bool.false_ne_true
 |bl i=>
  cases rx
  cases y with
  |non=>cases ry;exact PySem.EqNone.eq_bool_none (An I q (by simp))
  |bl j=>cases ry;exact eq_bool (An I q O2)
  |str j=>obtain⟨t',rfl⟩:=ry;exact PySem.EqMixed.eq_bool_str (An I q (by simp))
  |_=>exact absurd (show false=true from hs) Bool.false_ne_true
 |int i=>
  obtain⟨t,rfl⟩:=rx
  cases y with
  |non=>cases ry;exact PySem.EqNone.eq_int_none (An I q (by simp))
  |int j=>obtain⟨t',rfl⟩:=ry;exact eq_int (An I q Mf)
  |str j=>obtain⟨t',rfl⟩:=ry;exact PySem.EqMixed.eq_int_str (An I q (by simp))
  |_=>exact absurd (show false=true from hs) Bool.false_ne_true
 |str i=>
  obtain⟨t,rfl⟩:=rx
  cases y with
  |non=>cases ry;exact PySem.EqNone.eq_str_none (An I q (by simp))
  |bl j=>cases ry;exact PySem.EqMixed.eq_str_bool (An I q (by simp))
  |int j=>obtain⟨t',rfl⟩:=ry;exact PySem.EqMixed.eq_str_int (An I q (by simp))
  |str j=>obtain⟨t',rfl⟩:=ry;exact eq_str (An I q Me)
  |_=>exact absurd (show false=true from hs) Bool.false_ne_true
 |byt i=>
  obtain⟨t,rfl⟩:=rx
  cases y with
  |byt j=>obtain⟨t',rfl⟩:=ry;exact PySem.W.eq_bytes (An I q Mh)
  |_=>exact absurd (show false=true from hs) Bool.false_ne_true
 |_=>cases y<;>exact absurd (show false=true from hs) Bool.false_ne_true
theorem Vu:OpR X (compareOp .NotEq) rNe:=by
 intro pins s σ H x y v u Q I rx ry h
 obtain⟨hs,q⟩:=h
 cases x with
 |non=>
  cases rx
  cases y with
  |non=>cases ry;exact PySem.EqNone.ne_none_none (An I q (by simp))
  |bl j=>cases ry;exact PySem.EqNone.ne_none_bool (An I q (by simp))
  |int j=>obtain⟨t',rfl⟩:=ry;exact PySem.EqNone.ne_none_int (An I q (by simp))
  |str j=>obtain⟨t',rfl⟩:=ry;exact PySem.EqNone.ne_none_str (An I q (by simp))
  |_=>exact absurd (show false=true from hs) Bool.false_ne_true
 |bl i=>
  cases rx
  cases y with
  |non=>cases ry;exact PySem.EqNone.ne_bool_none (An I q (by simp))
  |bl j=>cases ry;exact ne_bool (An I q (congrArg not O2))
  |str j=>obtain⟨t',rfl⟩:=ry;exact PySem.EqMixed.ne_bool_str (An I q (by simp))
  |_=>exact absurd (show false=true from hs) Bool.false_ne_true
 |int i=>
  obtain⟨t,rfl⟩:=rx
  cases y with
  |non=>cases ry;exact PySem.EqNone.ne_int_none (An I q (by simp))
  |int j=>obtain⟨t',rfl⟩:=ry;exact ne_int (An I q (congrArg not Mf))
  |str j=>obtain⟨t',rfl⟩:=ry;exact PySem.EqMixed.ne_int_str (An I q (by simp))
  |_=>exact absurd (show false=true from hs) Bool.false_ne_true
 |str i=>
  obtain⟨t,rfl⟩:=rx
  cases y with
  |non=>cases ry;exact PySem.EqNone.ne_str_none (An I q (by simp))
  |bl j=>cases ry;exact PySem.EqMixed.ne_str_bool (An I q (by simp))
  |int j=>obtain⟨t',rfl⟩:=ry;exact PySem.EqMixed.ne_str_int (An I q (by simp))
  |str j=>obtain⟨t',rfl⟩:=ry;exact ne_str (An I q (congrArg not Me))
  |_=>exact absurd (show false=true from hs) Bool.false_ne_true
 |byt i=>
  obtain⟨t,rfl⟩:=rx
  cases y with
  |byt j=>obtain⟨t',rfl⟩:=ry;exact PySem.W.ne_bytes (An I q (congrArg not Mh))
  |_=>exact absurd (show false=true from hs) Bool.false_ne_true
 |_=>cases y<;>exact absurd (show false=true from hs) Bool.false_ne_true

theorem Vv:OpR X (compareOp .Lt) (rI0 fun i j=>.bl (decide (i<j))):=Sz fun _ _ _ _ _ _ _ q=>lt_int q
theorem Vw:OpR X (compareOp .LtE) (rI0 fun i j=>.bl (decide (i≤j))):=Sz fun _ _ _ _ _ _ _ q=>le_int q
theorem Vx:OpR X (compareOp .Gt) (rI0 fun i j=>.bl (decide (j<i))):=Sz fun _ _ _ _ _ _ _ q=>gt_int q
theorem Bz(b:Expr){op:CmpOp}(h:op≠.In:=by decide)(h2:op≠.NotIn:=by decide):behindInMarks op b=false:=by
 have e1:(op == CmpOp.In)=false:=by cases op<;>first|rfl|exact absurd rfl h
 have e2:(op == CmpOp.NotIn)=false:=by cases op<;>first|rfl|exact absurd rfl h2
 cases b<;>simp[behindInMarks,e1,e2]
theorem Rc{op:CmpOp}{r:R2}(ho:OpR X (compareOp op) r)(ha:PE X a ta)(hb:PE X b tb)(hm:behindInMarks op b=false):PE X (.Compare a [op] [b] pos) (tOp r ta tb):=by
 intro pins s σ H Q I h
 exact wpAny_Compare1 (S5 ha hb I h fun v u s2 x y H2 I2 rx ry q=>ho pins s2 σ H2 x y v u Q I2 rx ry q) hm
def Sb(t:TE):TT:=fun σ H Q=>t σ H fun x H'=>∃k,x=.bl k∧Q k H'
theorem Q7{op:CmpOp}{r:R2}(ho:OpR X (compareOp op) r)(ha:PE X a ta)(hb:PE X b tb)(hm:behindInMarks op b=false):PT X (.Compare a [op] [b] pos) (Sb (tOp r ta tb)):=by
 intro pins s σ H Q I h
 refine wpAny_isTrue_Compare1 (thn (ha pins s σ H _ I h) fun v s1 ⟨x,H1,I1,r1,q1⟩=>thn (hb pins s1 σ H1 _ I1 q1) fun u s2 ⟨y,H2,I2,r2,q2⟩=>
  thn (ho pins s2 σ H2 x y v u _ I2 r1 r2 q2) fun c s3 ⟨z,H3,I3,r3,k,e,q3⟩=>?_) hm
 subst e
 cases r3
 exact wpAny_truthy_bool ⟨H3,I3,q3⟩
def Ks(r r':R2)(ta tb tc:TE):TE:=fun σ H Q=>ta σ H fun x H1=>tb σ H1 fun y H2=>r x y H2 fun z H3=>∃k,z=.bl k∧
 (if k=true then tc σ H3 fun w' H4=>r' y w' H4 Q else Q (.bl false) H3)
theorem Pm{op op':CmpOp}{r r':R2}(ho:OpR X (compareOp op) r)(ho':OpR X (compareOp op') r')(ha:PE X a ta)(hb:PE X b tb)(hc:PE X c tc)(hm:lastMarks [op,op'] [b,c]=false:=by with_unfolding_all rfl):PE X (.Compare a [op,op'] [b,c] pos) (Ks r r' ta tb tc):=by
 intro pins s σ H Q I h
 refine Compare_chain (thn (ha pins s σ H _ I h) fun v s1 ⟨x,H1,I1,r1,q1⟩=>chain_link (thn (hb pins s1 σ H1 _ I1 q1) fun u s2 ⟨y,H2,I2,r2,q2⟩=>
  thn (ho pins s2 σ H2 x y v u _ I2 r1 r2 q2) fun d s3 ⟨z,H3,I3,r3,k,e,q3⟩=>?_)) hm
 subst e
 cases r3
 refine wpAny_truthy_bool ?_
 cases k with
 |false=>exact ite_ff ⟨.bl false,H3,I3,rfl,q3⟩
 |true=>exact ite_tt (chain_last (thn (hc pins s3 σ H3 _ I3 q3) fun w' s4 ⟨z',H4,I4,r4,q4⟩=>ho' pins s4 σ H4 y z' u w' Q I4 r2 r4 q4))
theorem Pg{op op':CmpOp}{r r':R2}(ho:OpR X (compareOp op) r)(ho':OpR X (compareOp op') r')(ha:PE X a ta)(hb:PE X b tb)(hc:PE X c tc)(hm:lastMarks [op,op'] [b,c]=false:=by with_unfolding_all rfl):PT X (.Compare a [op,op'] [b,c] pos) (Sb (Ks r r' ta tb tc)):=by
 intro pins s σ H Q I h
 refine isTrue_chain (thn (ha pins s σ H _ I h) fun v s1 ⟨x,H1,I1,r1,q1⟩=>test_link (thn (hb pins s1 σ H1 _ I1 q1) fun u s2 ⟨y,H2,I2,r2,q2⟩=>
  thn (ho pins s2 σ H2 x y v u _ I2 r1 r2 q2) fun d s3 ⟨z,H3,I3,r3,k,e,q3⟩=>?_)) hm
 subst e
 cases r3
 refine wpAny_truthy_bool ?_
 cases k with
 |false=>
  obtain⟨k',e',q'⟩:=q3
  cases e'
  exact ite_ff ⟨H3,I3,q'⟩
 |true=>
  refine ite_tt (test_last (thn (hc pins s3 σ H3 _ I3 q3) fun w' s4 ⟨z',H4,I4,r4,q4⟩=>thn (ho' pins s4 σ H4 y z' u w' _ I4 r2 r4 q4) fun d' s5 ⟨z2,H5,I5,r5,k2,e2,q5⟩=>?_))
  subst e2
  cases r5
  exact wpAny_truthy_bool ⟨H5,I5,q5⟩

def S8(K:PySem.W.Frag)(x:V)(H:Hp)(k:Bool):Prop:=
 match x with
 |.non=>k=false
 |.bl b=>k=b
 |.int i=>k=(i != 0)
 |.str y=>y.length≤sizeLine∧k=((y.length:Int) != 0)
 |.byt y=>y.size≤sizeLine∧k=((y.size:Int) != 0)
 |.ref p=>(∃xs,SqL K H p xs∧k = !xs.isEmpty)∨(∃xs,SqT K H p xs∧k = !xs.isEmpty)∨∃kvs,H p=some (.dK kvs)∧k = !kvs.isEmpty
 |_=>False
theorem Lc{κ:Type}{kvs:List (κ×V)}{vs:List (κ×Value)}(r:KV kvs vs):(!vs.isEmpty) = !kvs.isEmpty:=by
 cases r<;>rfl
theorem F1{xs:List V}{its:List Value}(r:Vals xs its):(!its.toArray.isEmpty) = !xs.isEmpty:=by
 cases r<;>simp
theorem Em:(sizeLine:Nat)<2 ^ 63:=by rw[sizeLine_eq];decide
theorem Tc:TruR X (fun x H Q=>∃k,S8 X.K x H k∧Q k H):=by
 intro pins s σ H x v Q I rx h
 obtain⟨k,e,q⟩:=h
 have hl:=Em
 have hs:sizeLine=16777216:=sizeLine_eq
 cases x with
 |non=>
  cases rx
  have e':k=false:=e
  subst e'
  exact truthy_none ⟨H,I,q⟩
 |bl b=>
  cases rx
  have e':k=b:=e
  subst e'
  exact wpAny_truthy_bool ⟨H,I,q⟩
 |int i=>
  obtain⟨t,rfl⟩:=rx
  have e':k=(i != 0):=e
  subst e'
  exact PySem.P.truthy_int ⟨H,I,q⟩
 |str y=>
  obtain⟨t,rfl⟩:=rx
  obtain⟨hy,e'⟩:y.length≤sizeLine∧k=((y.length:Int) != 0):=e
  subst e'
  exact PySem.P.truthy_str (by omega) ⟨H,I.tok _,q⟩
 |byt y=>
  obtain⟨t,rfl⟩:=rx
  obtain⟨hy,e'⟩:y.size≤sizeLine∧k=((y.size:Int) != 0):=e
  subst e'
  exact PySem.W.truthy_bytes (by omega) ⟨H,I.tok _,q⟩
 |ref p=>
  cases rx
  have e':(∃xs,SqL X.K H p xs∧k = !xs.isEmpty)∨(∃xs,SqT X.K H p xs∧k = !xs.isEmpty)∨∃kvs,H p=some (.dK kvs)∧k = !kvs.isEmpty:=e
  rcases e' with ⟨xs,hx,e'⟩|⟨xs,hx,e'⟩|⟨kvs,hx,e'⟩
  ·subst e'
   obtain⟨its,r,pl,hz⟩:=I.list hx
   have hlen:=r.length
   exact wpAny_truthy_list pl.isList (by simp only[List.size_toArray];omega) ⟨H,I.tok _,by rw[F1 r];exact q⟩
  ·subst e'
   obtain⟨its,r,pl,hz⟩:=I.tuple hx
   have hlen:=r.length
   exact truthy_tuple pl (by simp only[List.size_toArray];omega) ⟨H,I.tok _,by rw[F1 r];exact q⟩
  ·subst e'
   obtain⟨hz,hS,vs,r,m⟩:kvs.length≤sizeLine∧(p == sysModules)=false∧∃vs,KV kvs vs∧s.heap.DictOf (Ax X.prog X.w) p vs:=I.hok p _ hx
   have hlen:kvs.length=vs.length:=Paired.length r
   exact wpAny_truthy_dict hS m (by omega) ⟨H,I.tok _,by rw[Lc r];exact q⟩
 |_=>exact(show False from e).elim
theorem Pf(ha:PE X a ta)(he:∀whole,isTrue a X.env whole=(do let v ←whole;standAt a.pos;holding [v] (truthy v))) :
  PT X a (fun σ H Q=>ta σ H fun x H'=>∃k,S8 X.K x H' k∧Q k H'):=by
 intro pins s σ H Q I h
 exact isTrue_plain (thn (ha pins s σ H _ I h) fun v s1 ⟨x,H1,I1,r1,q1⟩=>Tc pins s1 σ H1 x v Q I1 r1 q1) (he _)

theorem Fa{x:V}{us:List Value}(r:Vals [x] us):∃u,us=[u]∧RelV x u:=by
 cases r with
 |cons r1 r2=>cases r2;exact⟨_,rfl,r1⟩
theorem Ln{x y:V}{us:List Value}(r:Vals [x,y] us):∃u w',us=[u,w']∧RelV x u∧RelV y w':=by
 cases r with
 |cons r1 r2=>
  cases r2 with
  |cons r3 r4=>cases r4;exact⟨_,_,rfl,r1,r3⟩
theorem call_abs:CallR X (.builtin "abs") (fun xs H Q=>∃i,xs=[.int i]∧Q (.int (if i<0 then -i else i)) H):=by
 intro pins s σ H xs us Q I r h
 obtain⟨i,rfl,q⟩:=h
 obtain⟨u,rfl,t,rfl⟩:=Fa r
 exact call_abs_int fun u tk=>⟨.int (if i<0 then -i else i),H,I.tok _,⟨_,rfl⟩,q⟩
theorem Nw(hc:X.calm=true):CallR X (.builtin "max") (fun xs H Q=>∃i j,xs=[.int i,.int j]∧Q (.int (if j>i then j else i)) H):=by
 intro pins s σ H xs us Q I r h
 obtain⟨i,j,rfl,q⟩:=h
 obtain⟨u,w',rfl,⟨t,rfl⟩,⟨t',rfl⟩⟩:=Ln r
 refine max_two_ints (I.ok.hd hc) fun h' tk k=>⟨_,H,I.kept k,?_,q⟩
 by_cases hj:j>i
 ·rw[if_pos hj,if_pos hj];exact⟨_,rfl⟩
 ·rw[if_neg hj,if_neg hj];exact⟨_,rfl⟩
theorem Nv(hc:X.calm=true):CallR X (.builtin "min") (fun xs H Q=>∃i j,xs=[.int i,.int j]∧Q (.int (if j<i then j else i)) H):=by
 intro pins s σ H xs us Q I r h
 obtain⟨i,j,rfl,q⟩:=h
 obtain⟨u,w',rfl,⟨t,rfl⟩,⟨t',rfl⟩⟩:=Ln r
 refine min_two_ints (I.ok.hd hc) fun h' tk k=>⟨_,H,I.kept k,?_,q⟩
 by_cases hj:j<i
 ·rw[if_pos hj,if_pos hj];exact⟨_,rfl⟩
 ·rw[if_neg hj,if_neg hj];exact⟨_,rfl⟩
def LenV(K:PySem.W.Frag)(x:V)(H:Hp)(n:Nat):Prop:=
 match x with
 |.str y=>y.length≤sizeLine∧n=y.length
 |.byt y=>y.size≤sizeLine∧n=y.size
 |.ref p=>(∃xs,SqL K H p xs∧n=xs.length)∨∃xs,SqT K H p xs∧n=xs.length
 |_=>False
theorem call_len:CallR X (.builtin "len") (fun xs H Q=>∃x n,xs=[x]∧LenV X.K x H n∧Q (.int n) H):=by
 intro pins s σ H xs us Q I r h
 obtain⟨x,n,rfl,e,q⟩:=h
 obtain⟨u,rfl,rx⟩:=Fa r
 have hl:=Em
 have hs:sizeLine=16777216:=sizeLine_eq
 cases x with
 |str y=>
  obtain⟨t,rfl⟩:=rx
  obtain⟨hy,e'⟩:y.length≤sizeLine∧n=y.length:=e
  subst e'
  exact len_str (by omega) ⟨.int _,H,I.tok _,⟨_,rfl⟩,q⟩
 |byt y=>
  obtain⟨t,rfl⟩:=rx
  obtain⟨hy,e'⟩:y.size≤sizeLine∧n=y.size:=e
  subst e'
  exact PySem.W.len_bytes (by omega) ⟨.int _,H,I.tok _,⟨_,rfl⟩,q⟩
 |ref p=>
  cases rx
  have e':(∃xs,SqL X.K H p xs∧n=xs.length)∨∃xs,SqT X.K H p xs∧n=xs.length:=e
  rcases e' with ⟨xs,hx,e'⟩|⟨xs,hx,e'⟩
  ·subst e'
   obtain⟨its,r',pl,hz⟩:=I.list hx
   have hlen:=r'.length
   exact Calls.call_len_list pl.isList (by simp only[List.size_toArray];omega) ⟨.int xs.length,H,I.tok _,⟨_,by simp only[List.size_toArray];rw[hlen]⟩,q⟩
  ·subst e'
   obtain⟨its,r',pl,hz⟩:=I.tuple hx
   have hlen:=r'.length
   exact len_tuple pl (by simp only[List.size_toArray];omega) ⟨.int xs.length,H,I.tok _,⟨_,by simp only[List.size_toArray];rw[hlen]⟩,q⟩
 |_=>exact(show False from e).elim
theorem call_divmod:CallR X (.builtin "divmod") (fun xs H Q=>∃i j,xs=[.int i,.int j]∧Kq i j∧∀p,H p=none→Q (.ref p) (upd H p (.tup [.int (i / j),.int (i % j)]))):=by
 intro pins s σ H xs us Q I r h
 obtain⟨i,j,rfl,⟨h1,h2⟩,q⟩:=h
 obtain⟨u,w',rfl,⟨t,rfl⟩,⟨t',rfl⟩⟩:=Ln r
 refine divmod_int (by omega) ?_ (.inl (PyProof.noPylong_small (by omega)))
 rw[Int.fdiv_eq_ediv_of_nonneg i (by omega),Int.fmod_eq_emod_of_nonneg i (by omega)]
 have hn:H s.heap.objs.size=none:=I.hok.fresh (Nat.le_refl _)
 refine⟨.ref s.heap.objs.size,_,?_,rfl,q _ hn⟩
 refine I.laid (fun b o e=>Heap.get?_push_of_some _ e) (Nat.le_refl _) ⟨by simp only[List.length_cons,List.length_nil];rw[sizeLine_eq];decide,[.int (i / j) s.toks,.int (i % j) (s.toks+1)],.cons ⟨_,rfl⟩ (.cons ⟨_,rfl⟩ .nil),?_⟩
 exact⟨_,Heap.get?_push_size s.heap rfl,rfl,0,rfl⟩
end
end L2
namespace L2
open PySem PySem.Spec PyProof.Rows
structure ObjM(h:Heap)(x dx C:Addr)(mA:Str→Option Value):Prop where
 obj:h.get? x=some (PySem.W.instObj C dx)
 ns:h.Ns1 dx mA
 ne:dx≠x

theorem Ng{h:Heap}{dx:Addr}{mA:Str→Option Value}(n:h.Ns1 dx mA):∃od,h.get? dx=some od∧∀name,PySem.W.lookIn name od=some (mA name):=by
 obtain⟨o,es,ep,ho,hd,hk,_,hm⟩:=n
 refine⟨o,ho,fun name=>?_⟩
 have e:=hm name
 unfold nsFind findBy at e
 rw[←Array.find?_toList] at e
 unfold PySem.W.lookIn
 rw[hd]
 dsimp only
 split
 ·rename_i y q
  rw[q] at e
  exact congrArg some e
 ·rename_i q
  rw[q] at e
  have a:es.toList.any (·.refKey)=false:=by
   rw[List.any_eq_false]
   intro y hy
   obtain⟨z,t,hkey⟩:=hk y (Array.mem_toList_iff.mp hy)
   simp[DictEntry.refKey,hkey]
  have a':¬es.toList.any (·.refKey)=true:=by rw[a];exact Bool.false_ne_true
  rw[if_neg a']
  exact congrArg some e

theorem ObjM.look{h:Heap}{x dx C:Addr}{mA:Str→Option Value}(I:ObjM h x dx C mA):∃od,PySem.W.InstAt h x (PySem.W.instObj C dx) C (some od)∧∀name,PySem.W.lookIn name od=some (mA name):=
 let ⟨od,ho,hl⟩:=Ng I.ns
 ⟨od,⟨I.obj,rfl,rfl,ho⟩,hl⟩

section
variable{prog:Program}{w:World}{A:Around}{E:Value→Shared→Prop}{s:Shared}{K:W.Frag}{x dx C f:Addr}{mA:Str→Option Value}{name:Str}{v:Value}
end
section
variable{P:Program}{w:World}{H H':Hp}{h h':Heap}{a C dx:Addr}{fs fs':List (Str×V)}
theorem ins_get(hok:HOk P w H h)(e:H a=some (.ins C dx fs)):∃mA,ObjM h a dx C mA∧(∀f,RelO (fs.lookup f) (mA f))∧PySem.Within mA (fs.map (·.1))∧fs.length≤1000∧H dx=some (.own a):=by
 obtain⟨d,z,ne,ob,mA,n,r,q⟩:=(show ObjOk P w H h a (.ins C dx fs) from hok a _ e)
 exact⟨mA,⟨ob,n,ne⟩,r,q,z,d⟩
end
structure Cls(K:PySem.W.Frag)(C:Addr):Prop where
 pg:PySem.W.plainGet K C Str.empty=true
 hd:PySem.W.hasDictIn K C=true
 po:PySem.W.plainOver K C=true
 sa:PySem.W.findIn K (.ref C) "__setattr__" = some (some (.builtin "object.__setattr__"))
theorem Cls.get{K:W.Frag}{C:Addr}(c:Cls K C)(f:Str):PySem.W.plainGet K C f=true:=c.pg
section
variable{X:Cx}{pins:List (Addr×Obj)}{σ:St}{H:Hp}{s:Shared}{a C dx:Addr}{fs:List (Str×V)}{f:Str}{v:V}{A:Around}{E:Value→Shared→Prop}
end
section
variable{X:Cx}{o e value:Expr}{f:Str}{pos pos' tpos:Pos}{ta tv:TE}
end
section
variable{X:Cx}{pins:List (Addr×Obj)}{σ:St}{H:Hp}{s:Shared}{A:Around}{E:Value→Shared→Prop}{Q:Value→Shared→Prop}{c:Value}{b:Bool}
inductive TyOf (K:PySem.W.Frag) (H:Hp):V→Value→Prop where
 |non:TyOf K H .non (.type "NoneType")
 |bl (x:Bool):TyOf K H (.bl x) (.type "bool")
 |int (i:Int):TyOf K H (.int i) (.type "int")
 |str (x:Str):TyOf K H (.str x) (.type "str")
 |flt (x:UInt64):TyOf K H (.flt x) (.type "float")
 |lst {a:Addr} {xs:List V} (e:H a=some (.lst xs)):TyOf K H (.ref a) (.type "list")
 |frz {a:Addr} {o:Obj} {xs:List V} (e:H a=some (.frz o (.lst xs))):TyOf K H (.ref a) (.type "list")
 |tup {a:Addr} {xs:List V} (e:H a=some (.tup xs)):TyOf K H (.ref a) (.type "tuple")
 |dK {a:Addr} {kvs:List (Key×V)} (e:H a=some (.dK kvs)):TyOf K H (.ref a) (.type "dict")
 |dT {a:Addr} {kvs:List (List Key×V)} (e:H a=some (.dT kvs)):TyOf K H (.ref a) (.type "dict")
 |ins {a C dx:Addr} {fs:List (Str×V)} (e:H a=some (.ins C dx fs)) (cl:Cls K C) (ha:PySem.W.findIn K (.ref C) "__class__" = some (some (.builtin "object.__class__")))
   (hn:PySem.W.specialIn K (.builtin "object.__class__") "__get__" = some (some (.builtin "getset_descriptor.__get__"))) (htk:PySem.W.takesIn K (.builtin "object.__class__")=some true)
   (hm:PySem.W.mroIn K C (.type "object")=some true):TyOf K H (.ref a) (.ref C)
theorem Nm{x:V}{u t:Value}(I:Inv X pins σ H s)(rx:RelV x u)(ty:TyOf X.K H x t)(e:PySem.W.kitOne X.K t c=some b)(h:∀tk,Q (.bool b) { s with toks:=tk }) :
  wpAny (model X.prog X.w) A (call (.builtin "isinstance") [u,c]) Q E s:=by
 cases ty with
 |non=>cases(show u=Value.none from rx);exact PySem.W.kia_one PySem.W.kitx_none I.kIn True.intro e (fun z=>nomatch z) h
 |bl y=>cases(show u=Value.bool y from rx);exact PySem.W.kia_one PySem.W.kitx_bool I.kIn True.intro e (fun z=>nomatch z) h
 |int i=>obtain⟨t,q⟩:=(show ∃t,u=Value.int i t from rx);cases q;exact PySem.W.kia_one PySem.W.kitx_int I.kIn True.intro e (fun z=>nomatch z) h
 |str y=>obtain⟨t,q⟩:=(show ∃t,u=Value.str y t from rx);cases q;exact PySem.W.kia_one PySem.W.kitx_str I.kIn True.intro e (fun z=>nomatch z) h
 |flt y=>obtain⟨t,q⟩:=(show ∃t,u=Value.float y t from rx);cases q;exact PySem.W.kia_one PySem.W.kitx_float I.kIn True.intro e (fun z=>nomatch z) h
 |@lst a xs ea=>
  cases(show u=Value.ref a from rx)
  obtain⟨_,_,n,_,h1⟩:=(show ObjOk X.prog X.w H s.heap a (.lst xs) from I.hok a _ ea)
  exact PySem.W.kia_one PySem.W.kitx_list I.kIn ⟨_,h1,rfl⟩ e (fun z=>nomatch z) h
 |@frz a ob xs ea=>
  cases(show u=Value.ref a from rx)
  obtain⟨_,_,_,n,_,h1⟩:=(show ObjOk X.prog X.w H s.heap a (.frz ob (.lst xs)) from I.hok a _ ea)
  exact PySem.W.kia_one PySem.W.kitx_list I.kIn ⟨_,h1,rfl⟩ e (fun z=>nomatch z) h
 |@tup a xs ea=>
  cases(show u=Value.ref a from rx)
  obtain⟨_,_,_,p⟩:=(show ObjOk X.prog X.w H s.heap a (.tup xs) from I.hok a _ ea)
  obtain⟨o,h1,h2,_⟩:=p
  exact PySem.W.kia_one PySem.W.kitx_tuple I.kIn ⟨o,h1,h2⟩ e (fun z=>nomatch z) h
 |@dK a kvs ea=>
  cases(show u=Value.ref a from rx)
  obtain⟨_,_,vs,_,p⟩:=(show ObjOk X.prog X.w H s.heap a (.dK kvs) from I.hok a _ ea)
  obtain⟨o,es,ep,h1,h2,_⟩:=p
  exact PySem.W.kia_one PySem.W.kitx_dict I.kIn ⟨o,h1,h2.1⟩ e (fun z=>nomatch z) h
 |@dT a kvs ea=>
  cases(show u=Value.ref a from rx)
  obtain⟨_,_,xs,_,o,es,ep,h1,h2,_⟩:=(show ObjOk X.prog X.w H s.heap a (.dT kvs) from I.hok a _ ea)
  exact PySem.W.kia_one PySem.W.kitx_dict I.kIn ⟨o,h1,h2.1⟩ e (fun z=>nomatch z) h
 |@ins a C dx fs ea cl ha hn htk hm=>
  cases(show u=Value.ref a from rx)
  obtain⟨mA,O,_⟩:=ins_get I.hok ea
  obtain⟨od,J,_⟩:=O.look
  exact PySem.W.kia_one (PySem.W.kitx_own (cl.get _) cl.hd ha hn htk hm) I.kIn J e (fun z=>nomatch z) h
end
end L2
namespace L2
open PySem PySem.Spec PyProof.Rows
structure Room(k:Nat)(A:Around):Prop where
 hd:A.handled=none
 dp:A.depth+3*k+5<recursionLimit
 un:A.units+16*k+200<cLine
 gd:A.guards=some []
theorem Room.mono{j k:Nat}{A:Around}(r:Room k A)(h:j≤k):Room j A:=⟨r.hd,by have:=r.dp;omega,by have:=r.un;omega,r.gd⟩
theorem Room.deeper{k:Nat}{A:Around}(r:Room (k+1) A)(env:Env):Room k (A.deeper env):=
 ⟨r.hd,by have:=r.dp;show A.depth+1+3*k+5<_;omega,by have:=r.un;show A.units+3+16*k+200<_;omega,r.gd⟩
theorem Room.depth{k:Nat}{A:Around}(r:Room k A):A.depth<recursionLimit:=by have:=r.dp;omega
def tNil:TA:=fun _ H Q=>Q [] H
def Vi(ta:TE)(tr:TA):TA:=fun σ H Q=>ta σ H fun x H1=>tr σ H1 fun xs H2=>Q (x::xs) H2
section
variable{X:Cx}{e:Expr}{es:List Expr}{te:TE}{t:TA}{pos:Pos}
theorem pa_nil:PA X [] tNil:=fun _ _ _ _ H Q I h=>Calls.spliced_nil ⟨[],H,I,.nil,h⟩
theorem Rh(ha:PE X e te)(hr:PA X es t)(hs:starEach (e::es) X.env=(false,eval e X.env)::starEach es X.env:=by rfl):PA X (e::es) (Vi te t):=by
 intro pos pins s σ H Q I h
 rw[hs]
 show wpAny _ _ (spliced ((false,eval e X.env)::backTo pos (starEach es X.env))) _ _ s
 refine Calls.spliced_cons (thn (ha pins s σ H _ I h) fun u s1 ⟨x,H1,I1,r1,q1⟩=>?_)
 exact thn (hr pos pins s1 σ H1 _ I1 q1) fun us s2 ⟨xs,H2,I2,r2,q2⟩=>⟨x::xs,H2,I2,.cons r1 r2,q2⟩

def tTup(t:TA):TE:=fun σ H Q=>t σ H fun xs H1=>xs.length≤sizeLine∧∀p,H1 p=none→Q (.ref p) (upd H1 p (.tup xs))
def tLst(t:TA):TE:=fun σ H Q=>t σ H fun xs H1=>xs.length≤sizeLine∧∀p,H1 p=none→Q (.ref p) (upd H1 p (.lst xs))
theorem T0{x1}(h:PA X es t):PE X (.Tuple es x1 pos) (tTup t):=by
 intro pins s σ H Q I hq
 refine wpAny_Tuple_spliced (thn (h pos pins s σ H _ I hq) fun us s1 ⟨xs,H1,I1,r,z,q⟩=>⟨by rw[←r.length];exact z,?_⟩)
 have hf:H1 s1.heap.objs.size=none:=I1.hok.fresh (Nat.le_refl _)
 refine⟨.ref s1.heap.objs.size,upd H1 s1.heap.objs.size (.tup xs),I1.laid (t':=s1.toks) (fun b u e=>Heap.get?_push_of_some _ e) (Nat.le_refl _) ?_,rfl,q _ hf⟩
 exact⟨z,us,r,⟨_,Heap.get?_push_size _ rfl,rfl,_,rfl⟩⟩
theorem T4(h:PA X es t):PE X (.List es pos) (tLst t):=by
 intro pins s σ H Q I hq
 refine wpAny_List_spliced (thn (h pos pins s σ H _ I hq) fun us s1 ⟨xs,H1,I1,r,z,q⟩=>⟨by rw[←r.length];exact z,?_⟩)
 have hf:H1 s1.heap.objs.size=none:=I1.hok.fresh (Nat.le_refl _)
 refine⟨.ref s1.heap.objs.size,upd H1 s1.heap.objs.size (.lst xs),I1.laid (t':=s1.toks) (fun b u e=>Heap.get?_push_of_some _ e) (Nat.le_refl _) ?_,rfl,q _ hf⟩
 exact⟨z,us,0,r,Heap.get?_push_size _ rfl⟩
end
abbrev Sp:=List V→Hp→VK→XK→Prop
abbrev CXT:=List Env→Hp→Shared→XK→Value→Shared→Prop

structure Env0(P:Program)(w:World)(K:PySem.W.Frag)(mg:Str→Option Value)(base:Heap)(A:Around)(outer:List Env)(s:Shared)(H:Hp):Prop where
 frames:A.frames=some outer
 mod:Mod K mg base
 bs:∀b o,base.get? b=some o→s.heap.get? b=some o∧H b=none
 bsz:base.objs.size≤s.heap.objs.size
 funs:s.heap.FunFrames base outer
 frf:∀b∈frs outer,H b=none
 hok:HOk P w H s.heap
 bare:AllBare s.gens
def CE(outer:List Env)(P:Program)(w:World)(H:Hp)(s:Shared)(Q:VK)(u:Value)(s':Shared):Prop:=
 ∃v H',s'.os=s.os∧AllBare s'.gens∧Un (frs outer) [] H H' s.heap s'.heap∧HOk P w H' s'.heap∧RelV v u∧Q v H'
def CR(CX:CXT)(outer:List Env)(P:Program)(w:World)(H:Hp)(s:Shared)(Q:VK)(E:XK)(r:Result)(s':Shared):Prop:=
 match r with
 |.ok (.ret u)=>CE outer P w H s Q u s'
 |.ok _=>False
 |.error e=>CX outer H s E e s'
structure FnOk(P:Program)(w:World)(K:PySem.W.Frag)(mg:Str→Option Value)(base:Heap)(CX:CXT)(k:Nat)(f:Addr)(fd:FuncData)(ps:List Str)(sp:Sp):Prop where
 len:∀vs H Q E,sp vs H Q E→vs.length=ps.length
 run:∀(A:Around) (outer:List Env) (s:Shared) (H:Hp) (args:Args) (us:List Value) (vs:List V) (Q:VK) (E:XK),Room k A→Env0 P w K mg base A outer s H→BindsTo s fd args (ps.zip us)→Vals vs us→sp vs H Q E→
  codeAny (model P w) A (.call (.ref f) args) (CR CX outer P w H s Q E) s
section
variable{X:Cx}{pins:List (Addr×Obj)}{σ:St}{H:Hp}{s s':Shared}
theorem Inv.env0(I:Inv X pins σ H s):Env0 X.prog X.w X.K X.mg X.base X.A X.stack s H:=
 ⟨I.ok.frames,I.ok.mod,I.bs,Nat.le_trans I.ok.bsz I.sz,I.stack,I.stkFree,I.hok,I.bare⟩
theorem Inv.after{Q:VK}{u:Value}(I:Inv X pins σ H s)(h:CE X.stack X.prog X.w H s Q u s'):EP X pins σ Q u s':=by
 obtain⟨v,H',os,bare,un,hok,r,q⟩:=h
 obtain⟨hh,g,d,t,os'⟩:=s'
 obtain rfl:os'=s.os:=os
 exact⟨v,H',I.call (h':=hh) (g':=g) (d':=d) (t':=t) (ch:=[]) un hok bare (fun b z=>absurd z (by simp)),r,q⟩
end
def Vj(sp:Sp)(dvs:List V)(E:XK)(t:TA):TE:=fun σ H Q=>t σ H fun vs H1=>sp (vs++dvs) H1 Q E
def Binds(K:PySem.W.Frag)(fd:FuncData)(ps:List Str)(ds:List Value):Prop:=
 ∀(s:Shared) (us:List Value),K.In s.heap→(us++ds).length=ps.length→BindsTo s fd ⟨us,[]⟩ (ps.zip (us++ds))
theorem Binds.all{K:W.Frag}{fd:FuncData}{ps:List Str}(h:∀us:List Value,us.length=ps.length→bindArgs fd ⟨us,[]⟩=pure (ps.zip us)):Binds K fd ps []:=fun s us _ hl=>by
 rw[List.append_nil] at hl ⊢
 exact .of_eq (h us hl)

def Hx(CX:CXT)(X:Cx)(E:XK):Prop:=∀(pins:List (Addr×Obj)) (σ:St) (H:Hp) (s:Shared) (e:Value) (s':Shared),Inv X pins σ H s→CX X.stack H s E e s'→X.xe e s'

section
variable{X:Cx}{CX:CXT}{k:Nat}{f C:Addr}{fd:FuncData}{ps:List Str}{sp:Sp}{dvs:List V}{ds:List Value}{E:XK}{x m:Str}{p pos apos:Pos}{e o:Expr}{es:List Expr}{ta:TE}{t:TA}
theorem Th{pins:List (Addr×Obj)}{σ:St}{H:Hp}{s:Shared}{Q:VK}{us:List Value}{vs:List V}(F:FnOk X.prog X.w X.K X.mg X.base CX k f fd ps sp)(hr:Room k X.A)(hb:Binds X.K fd ps ds)(hd:Vals dvs ds)(hx:Hx CX X E)(I:Inv X pins σ H s)(r:Vals vs us)(h:sp (vs++dvs) H Q E):wpAny (model X.prog X.w) X.A (call (.ref f) us) (EP X pins σ Q) X.xe s:=by
 have r2:Vals (vs++dvs) (us++ds):=r.append hd
 have hl:(us++ds).length=ps.length:=by rw[←r2.length];exact F.len _ _ _ _ h
 refine wpAny_call (codeAny_mono (F.run X.A X.stack s H ⟨us,[]⟩ (us++ds) (vs++dvs) Q E hr I.env0 (hb s us I.kIn hl) r2 h) fun r s' hq=>?_)
 cases r with
 |error e=>exact hx pins σ H s e s' I hq
 |ok fl=>
  cases fl with
  |ret u=>exact I.after hq
  |next=>exact False.elim hq
  |brk=>exact False.elim hq
  |cont=>exact False.elim hq

theorem Re(F:FnOk X.prog X.w X.K X.mg X.base CX k f fd ps sp)(hr:Room k X.A)(hg:Gl X x)(hm:X.mg x=some (.ref f))(hk:PySem.W.keepIn X.K (.ref f)=true)(hb:Binds X.K fd ps ds)(hd:Vals dvs ds)(hx:Hx CX X E)(ha:PA X (e::es) t)(hdb:(x == ("__debug__" : Str))=false:=by decide)(he:starEach (e::es) X.env=(false,eval e X.env)::starEach es X.env:=by rfl)(hpl:(backTo pos (starEach es X.env)).any (·.1)=false:=by rfl) :
  PE X (.Call (.Name x p) (e::es) [] pos) (Vj sp dvs E t):=by
 intro pins s σ H Q I h
 refine wpAny_Call_Name_kw (L5 I hg hm ?_ hdb)
 refine PySem.W.callWith_K (h₀:=X.base) I.ok.mod.kin hk (thn (ha pos pins s σ H _ I h) fun us s1 ⟨vs,H1,I1,r,q⟩=>⟨I1.kIn,?_⟩) he hpl
 exact Th F hr hb hd hx I1 r q
end
section
variable{X:Cx}{CX:CXT}{k:Nat}{f C:Addr}{fd:FuncData}{ps ks:List Str}{sp:Sp}{E:XK}{x m:Str}{p pos apos kpos:Pos}{e o:Expr}{es:List Expr}{kws:List Keyword}{te ta:TE}{t tk:TA}{nm:Option Str}
variable{g:List Value→List Value→List Value}{gV:List V→List V→List V}
end
structure FnScope(N P:List Str)(sc:Scope):Prop where
 kind:sc.kind=.function
 co:sc.isCoroutine=false
 gen:sc.isGenerator=false
 nd:N.Nodup
 pre:N.take P.length=P
 par:∀x∈P,sc.names.lookup x=some .local∨sc.names.lookup x=some .cell
 nofree:∀y∈sc.names,y.2≠.free

theorem Hh{kindOf:Str→Option NameKind}{x:Str}:∀{binds:List (Str×Value)} {m:Str→Option Value},(∀v,(x,v) ∉ binds)→bindL kindOf binds m x=m x
 |[],_,_=>rfl
 |(n,v)::r,m,h=>by
  unfold bindL
  rw[Hh fun w hw=>h w (List.mem_cons_of_mem _ hw)]
  split
  ·have:x≠n:=by rintro rfl;exact h v List.mem_cons_self
   simp[this]
  ·rfl
theorem Hj{kindOf:Str→Option NameKind}{x:Str}:∀{binds:List (Str×Value)} {m:Str→Option Value},(∀v,(x,v) ∉ binds)→bindC kindOf binds m x=m x
 |[],_,_=>rfl
 |(n,v)::r,m,h=>by
  unfold bindC
  rw[Hj fun w hw=>h w (List.mem_cons_of_mem _ hw)]
  split
  ·rfl
  ·have:x≠n:=by rintro rfl;exact h v List.mem_cons_self
   simp[this]
theorem Hi{kindOf:Str→Option NameKind}{x:Str}{v:Value}:∀{P:List Str} {vs:List Value} {i:Nat} {m:Str→Option Value},P.Nodup→P[i]? = some x→vs[i]? = some v→kindOf x=some .local→
  bindL kindOf (P.zip vs) m x=some v
 |[],_,_,_,_,h,_,_=>by simp at h
 |_::_,[],_,_,_,_,h,_=>by simp at h
 |p::P,w::vs,0,m,nd,h1,h2,hk=>by
  simp at h1 h2;subst h1;subst h2
  show bindL kindOf ((p,w)::P.zip vs) m p=_
  unfold bindL
  rw[Hh fun v hv=>(List.nodup_cons.mp nd).1 (List.of_mem_zip hv).1,if_pos hk]
  simp
 |p::P,w::vs,i+1,m,nd,h1,h2,hk=>by
  show bindL kindOf ((p,w)::P.zip vs) m x=_
  unfold bindL
  exact Hi (i:=i) (List.nodup_cons.mp nd).2 (by simpa using h1) (by simpa using h2) hk
theorem Hk{kindOf:Str→Option NameKind}{x:Str}{v:Value}:∀{P:List Str} {vs:List Value} {i:Nat} {m:Str→Option Value},P.Nodup→P[i]? = some x→vs[i]? = some v→kindOf x≠some .local→
  bindC kindOf (P.zip vs) m x=some v
 |[],_,_,_,_,h,_,_=>by simp at h
 |_::_,[],_,_,_,_,h,_=>by simp at h
 |p::P,w::vs,0,m,nd,h1,h2,hk=>by
  simp at h1 h2;subst h1;subst h2
  show bindC kindOf ((p,w)::P.zip vs) m p=_
  unfold bindC
  rw[Hj fun v hv=>(List.nodup_cons.mp nd).1 (List.of_mem_zip hv).1,if_neg hk]
  simp
 |p::P,w::vs,i+1,m,nd,h1,h2,hk=>by
  show bindC kindOf ((p,w)::P.zip vs) m x=_
  unfold bindC
  exact Hk (i:=i) (List.nodup_cons.mp nd).2 (by simpa using h1) (by simpa using h2) hk

def start(N:List Str)(vs:List V):St:=vs.map some++List.replicate (N.length-vs.length) none

def Kp(CX:CXT)(P:Program)(w:World)(K:PySem.W.Frag)(mg:Str→Option Value)(base:Heap)(N:List Str)(qual:Str)(scope:Scope)(f:Addr)(cd:Value)(A:Around)(outer:List Env)(s:Shared)(H:Hp)(E:XK):Cx where
 prog:=P
 w:=w
 K:=K
 mg:=mg
 base:=base
 A:=A.deeper (envOfC qual scope s.heap.objs.size f cd)
 N:=N
 s₀:=s
 H₀:=H
 env:=envOfC qual scope s.heap.objs.size f cd
 outer:=outer
 stack:=envOfC qual scope s.heap.objs.size f cd::outer
 ex:=[]
 calm:=true
 fn:=fun _=>true
 pn:=[]
 xe:=fun e s'=>wpAny (model P w) (A.deeper (envOfC qual scope s.heap.objs.size f cd)) (leaving (envOfC qual scope s.heap.objs.size f cd) e) (fun _ s''=>CX outer H s E e s'') (fun e' s''=>CX outer H s E e' s'') s'

theorem Jy{sc:Scope}{n:Nat}{x:Str}(h:sc.names.lookup x=some .cell):∃c,(cellsFrom n sc.names []).lookup x=some c:=by
 have q:=PySem.W.cellsFrom_some sc.names n [] (.inl h)
 exact Option.isSome_iff_exists.mp q

theorem Nn{CX:CXT}{P:Program}{w:World}{K:W.Frag}{mg:Str→Option Value}{base:Heap}{N ps:List Str}{qual:Str}{scope:Scope}{f:Addr}{cd:Value}{A:Around}{outer:List Env}{s s1:Shared}{H:Hp}{E:XK}{us:List Value}{vs:List V}(S:FnScope N ps scope)(hd:A.handled=none)(e0:Env0 P w K mg base A outer s H)(hl:vs.length=ps.length)(r:Vals vs us)(x:InCallC s s.heap.objs.size (bindL (envOfC qual scope s.heap.objs.size f cd).kindOf (ps.zip us) fun _=>none) (cellsFrom (s.heap.objs.size+1) scope.names []) (bindC (envOfC qual scope s.heap.objs.size f cd).kindOf (ps.zip us) fun _=>none) s1) :
  Inv (Kp CX P w K mg base N qual scope f cd A outer s H E) [] (start N vs) H s1:=by
 have hpl:ps.length≤N.length:=by have:=congrArg List.length S.pre;rw[List.length_take] at this;omega
 obtain⟨h1,tk,rfl,hk⟩:=x.done
 have noA:∀b:Addr,b ∉ (Kp CX P w K mg base N qual scope f cd A outer s H E).ex:=fun b z=>absurd (show b∈([]:List Addr) from z) (by simp)
 refine⟨⟨e0.mod,S.kind,rfl,rfl,Nat.le_refl _,fun y z c h1 h2=>?_,fun y hy=>?_,fun y c _ h=>?_,fun _=>hd,Around.frames_deeper e0.frames,.inr ⟨rfl,rfl⟩,fun b z=>absurd z (noA b),e0.bs,e0.bsz,fun b _ _=>noA b,fun b z=>absurd z (noA b),e0.funs,e0.frf⟩,
  rfl,e0.bare,Un.kept hk,⟨_,x.toInCall.ns,fun i y v h1 h2 h3=>?_⟩,fun y c h=>⟨_,x.cell y c h⟩,e0.hok.fresh (Nat.le_refl _),fun y c h=>?_,fun p hp=>absurd (show p∈([]:List (Addr×Obj)) from hp) (by simp),e0.hok.kept hk,?_⟩
 ·exact name_of_addr x.apart (PySem.mem_of_lookup h1) (PySem.mem_of_lookup h2)
 ·have hy:scope.names.lookup y=some .cell∨scope.names.lookup y=some .free:=hy
  rcases hy with hy|hy
  ·exact Jy hy
  ·exact absurd rfl (S.nofree _ (PySem.mem_of_lookup hy))
 ·exact Nat.le_of_lt (x.above y c (PySem.mem_of_lookup h))
 ·have hi:i<vs.length:=by
   unfold start at h2
   by_cases hi:i<vs.length
   ·exact hi
   ·rw[List.getElem?_append_right (by simpa using hi)] at h2
    rw[List.getElem?_replicate] at h2
    split at h2<;>cases h2
  have ha:vs[i]? = some v:=by
   unfold start at h2
   rw[List.getElem?_append_left (by simpa using hi),List.getElem?_map] at h2
   cases e:vs[i]? with
   |none=>rw[e] at h2;cases h2
   |some a=>rw[e] at h2;cases h2;rfl
  obtain⟨u,hu,rv⟩:=r.get ha
  have hp:ps[i]? = some y:=by
   rw[←S.pre,List.getElem?_take_of_lt (by omega)];exact h1
  have ndP:ps.Nodup:=by rw[←S.pre];exact S.nd.sublist (List.take_sublist _ _)
  refine⟨u,rv,?_⟩
  rcases S.par y (List.mem_of_getElem? hp) with k|k
  ·exact .inl ⟨k,Hi ndP hp hu k⟩
  ·obtain⟨c,e⟩:=Jy (n:=s.heap.objs.size+1) k
   refine .inr ⟨.inl k,c,e,?_⟩
   have q:=x.cell y c e
   rw[Hk ndP hp hu (by show scope.names.lookup y≠_;rw[k];decide)] at q
   exact q
 ·exact e0.hok.fresh (Nat.le_of_lt (x.above y c (PySem.mem_of_lookup h)))
 ·unfold start
  show _=N.length
  rw[List.length_append,List.length_map,List.length_replicate]
  omega

theorem V2{CX:CXT}{P:Program}{w:World}{K:W.Frag}{mg:Str→Option Value}{base:Heap}{k:Nat}{f:Addr}{name qual:Str}{params:Arguments}{body:List Stmt}{scope:Scope}{dV kV doc pm cdv ct oc:Value}{an od:Option Addr}{osl:Array (Option Value)}{N ps:List Str}{sp:Sp}(lk:K.lookup f=some ⟨oc,od,.func (PySem.W.fnOf name qual params body scope dV kV doc pm an cdv ct),osl⟩)(hcd:PySem.W.codeIn K cdv qual=true)(S:FnScope N ps scope)(len:∀vs H Q E,sp vs H Q E→vs.length=ps.length)(hbody:∀(A:Around) (outer:List Env) (s:Shared) (H:Hp) (vs:List V) (Q:VK) (E:XK),Room k (A.deeper (envOfC qual scope s.heap.objs.size f cdv))→sp vs H Q E→
   ∃t,PSs (Kp CX P w K mg base N qual scope f cdv A outer s H E) body t∧t { nx:=fun _ H'=>Q .non H',rt:=Q } (start N vs) H) :
  FnOk P w K mg base CX (k+1) f (PySem.W.fnOf name qual params body scope dV kV doc pm an cdv ct) ps sp:=by
 refine⟨len,fun A outer s H args us vs Q E hr e0 hb r hsp=>?_⟩
 have hl:=len _ _ _ _ hsp
 have KX:K.In s.heap:=e0.mod.kin.keeps fun b o e=>(e0.bs b o e).1
 have lim:s.heap.NoLimit:=e0.mod.nolimit.keeps fun b o e=>(e0.bs b o e).1
 have hkind:∀y∈ps.zip us,scope.names.lookup y.1=some .local∨(scope.names.lookup y.1=some .cell∧((cellsFrom (s.heap.objs.size+1) scope.names []).lookup y.1).isSome=true):=fun⟨n,v⟩ hy=>by
  rcases S.par n (List.of_mem_zip hy).1 with q|q
  ·exact .inl q
  ·exact .inr ⟨q,PySem.W.cellsFrom_some _ _ _ (.inl q)⟩
 refine codeAny_call_function hr.depth (KX _ _ lk) rfl S.co S.gen rfl (PySem.W.codeRec_of KX hcd) (hb _ _ _ _ ?_)
 refine wpAny_newFunctionEnv_cells S.kind hkind fun env he s1 x=>?_
 subst he
 refine⟨lim.keeps x.toInCall.keep,codeAny_func ?_⟩
 obtain⟨t,ht,hq⟩:=hbody A outer s H vs Q E (hr.deeper _) hsp
 have I:Inv (Kp CX P w K mg base N qual scope f cdv A outer s H E) [] (start N vs) H s1:=Nn S hr.hd e0 hl r x
 refine wpAny_mono (ht [] s1 (start N vs) H _ I hq) (fun fl s' hs=>?_) fun e s' hs=>hs
 have fin:∀{σ':St} {H':Hp} {v:V} {u:Value},Inv (Kp CX P w K mg base N qual scope f cdv A outer s H E) [] σ' H' s'→RelV v u→Q v H'→CE outer P w H s Q u s':=
  fun {σ' H' v u} J rv q=>⟨v,H',J.os,J.bare,J.base,J.hok,rv,q⟩
 cases fl with
 |ret u=>
  obtain⟨v,σ',H',J,rv,q⟩:=hs
  exact fin J rv q
 |next=>
  obtain⟨σ',H',J,q⟩:=hs
  exact fin (v:=V.non) (u:=Value.none) J rfl q
 |brk=>
  obtain⟨_,_,_,q⟩:=hs
  exact False.elim q
 |cont=>
  obtain⟨_,_,_,q⟩:=hs
  exact False.elim q
end L2
namespace L2
open PySem PySem.Spec PyProof.Rows
section
variable{X:Cx}{x:Str}{p pos:Pos}{e:Expr}{es:List Expr}{t:TA}{id T:String}{r:List V→Hp→VK→Prop}
def tCB(r:List V→Hp→VK→Prop)(t:TA):TE:=fun σ H Q=>t σ H fun vs H1=>r vs H1 Q
theorem Pn(hc:CallR X (.builtin id) r)(hg:Gl X x)(hm:X.mg x=none)(hv:bootBuiltins x=some (.builtin id))(ha:PA X (e::es) t)(hn:x≠"__name__":=by decide)(hdb:(x == ("__debug__" : Str))=false:=by decide)(he:starEach (e::es) X.env=(false,eval e X.env)::starEach es X.env:=by rfl)(hpl:(backTo pos (starEach es X.env)).any (·.1)=false:=by rfl):PE X (.Call (.Name x p) (e::es) [] pos) (tCB r t):=by
 intro pins s σ H Q I h
 refine wpAny_Call_Name_kw (Ht I hg hm hv ?_ hn hdb)
 exact PyProof.Rows.callWith_builtin1 (thn (ha pos pins s σ H _ I h) fun us s1 ⟨vs,H1,I1,r1,q1⟩=>hc pins s1 σ H1 vs us Q I1 r1 q1) he hpl
theorem M4(hc:CallR X (.type T) r)(hg:Gl X x)(hm:X.mg x=none)(hv:bootBuiltins x=some (.type T))(ha:PA X (e::es) t)(hn:x≠"__name__":=by decide)(hdb:(x == ("__debug__" : Str))=false:=by decide)(he:starEach (e::es) X.env=(false,eval e X.env)::starEach es X.env:=by rfl)(hpl:(backTo pos (starEach es X.env)).any (·.1)=false:=by rfl):PE X (.Call (.Name x p) (e::es) [] pos) (tCB r t):=by
 intro pins s σ H Q I h
 refine wpAny_Call_Name_kw (Ht I hg hm hv ?_ hn hdb)
 exact PyProof.Rows.callWith_type1 (thn (ha pos pins s σ H _ I h) fun us s1 ⟨vs,H1,I1,r1,q1⟩=>hc pins s1 σ H1 vs us Q I1 r1 q1) he hpl
end
end L2
namespace HT
open PySem PyProof.Rows
section
open PySem.SeqAt
open PySem.AutoSeq1 (wpAny_loadPart')
open PySem.MeetsSeq PySem.MeetsSeq2 PySem.MeetsSeq3
end
section
variable{prog:Program}{w:World}{A:Around}{E:Value→Shared→Prop}{s:Shared}
theorem cat_tup{t b:Addr}{vs ws:List Value}{Q:Value→Shared→Prop}(ht:IsTup s.heap t vs.toArray)(hb:IsTup s.heap b ws.toArray)(hv:vs≠[])(h1:ws=[]→Q (.ref t) s)(h2:ws≠[]→Q (.ref s.heap.objs.size) { s with heap:=s.heap.push { cls:=.type "tuple",data:=.seq (vs++ws).toArray } })(hsz:vs.length+ws.length≤sizeLine):wpAny (model prog w) A (binaryOp .Add (.ref t) (.ref b)) Q E s:=by
 obtain⟨⟨cls,dd,data,sl⟩,ho,hc,n,hd⟩:=id ht
 obtain⟨⟨cls2,dd2,data2,sl2⟩,ho2,hc2,n2,hd2⟩:=id hb
 simp only at hc hd hc2 hd2
 subst hc hd hc2 hd2
 have e:vs.toArray++ws.toArray=(vs++ws).toArray:=by simp
 by_cases hw:ws=[]
 ·exact concat_meets ⟨_,ho,rfl⟩ ⟨_,ho2,rfl⟩ noFill_tuple_add seq_tuple_add PySem.F.slot_tuple_add PySem.F.entry_tuple_add (PySem.F.args_tuple_add_2 _ _)
   (tuple_addW1 t b vs.toArray ws.toArray n n2 dd dd2 sl sl2 (by simpa using hv) (by simp[hw])) ⟨ho,ho2,h1 hw⟩
 ·refine concat_meets ⟨_,ho,rfl⟩ ⟨_,ho2,rfl⟩ noFill_tuple_add seq_tuple_add PySem.F.slot_tuple_add PySem.F.entry_tuple_add (PySem.F.args_tuple_add_2 _ _)
   (tuple_addW2 t b vs.toArray ws.toArray n n2 dd dd2 sl sl2 (by simpa using hv) (by simpa using hw) (by rw[List.size_toArray,List.size_toArray];exact hsz)) ⟨ho,ho2,?_⟩
  rw[e]
  exact h2 hw

def sIx(n d:Nat):Option Int→Nat
 |none=>d
 |some v=>if v<0 then (v+(n:Int)).toNat else min v.toNat n
end
end HT
namespace L2
open PySem PySem.Spec PyProof.Rows
abbrev TO:=St→Hp→(Option Int→Hp→Prop)→Prop
section
variable{X:Cx}{e:Expr}{te:TE}{lo hi:Option Expr}{tl th:TO}{pos p2:Pos}
def SlR(X:Cx)(r:V→Option Int→Option Int→Hp→VK→Prop):Prop:=
 ∀(pins:List (Addr×Obj)) (s:Shared) (σ:St) (H:Hp) (x:V) (v vl vu:Value) (lo hi:Option Int) (sl:Addr) (Q:VK),Inv X pins σ H s→RelV x v→s.heap.IsSliceOf sl vl vu .none→IsPart vl lo→IsPart vu hi→r x lo hi H Q→
  ∃T id,typeLookup (.type T) "__getitem__" = pure (some (.builtin id))∧s.TypeIs v T∧wpAny (model X.prog X.w) X.A (getItem v (.ref sl)) (EP X pins σ Q) X.xe s
def Qq(xs:List V)(lo hi:Option Int):List V:=(xs.drop (HT.sIx xs.length 0 lo)).take (HT.sIx xs.length xs.length hi-HT.sIx xs.length 0 lo)
theorem Kc(xs:List V)(lo hi:Option Int):(Qq xs lo hi).length≤xs.length:=by
 unfold Qq
 rw[List.length_take,List.length_drop]
 omega
def Vn(K:PySem.W.Frag):R2:=fun x y H Q=>∃a b xs ys,x=.ref a∧y=.ref b∧SqT K H a xs∧SqT K H b ys∧xs≠[]∧xs.length+ys.length≤sizeLine∧
 (ys=[]→Q (.ref a) H)∧(ys≠[]→∀p,H p=none→Q (.ref p) (upd H p (.tup (xs++ys))))
theorem Vals.nil_iff{xs:List V}{us:List Value}(r:Vals xs us):us=[]↔xs=[]:=by
 cases r with
 |nil=>simp
 |cons _ _=>simp
theorem Rj:OpR X (binaryOp .Add) (Vn X.K):=by
 intro pins s σ H x y v u Q I rx ry h
 obtain⟨a,b,xs,ys,rfl,rfl,ha,hb,hx,hz,q1,q2⟩:=h
 cases rx
 cases ry
 obtain⟨its,r1,p1,_⟩:=I.tuple ha
 obtain⟨its2,r2,p2,_⟩:=I.tuple hb
 refine HT.cat_tup p1 p2 (fun z=>hx (r1.nil_iff.mp z)) (fun z=>⟨.ref a,H,I,rfl,q1 (r2.nil_iff.mp z)⟩) (fun z=>?_) (by rw[←r1.length,←r2.length];exact hz)
 refine⟨.ref s.heap.objs.size,_,I.laid (t':=s.toks) (o:=.tup (xs++ys)) (fun b ob q=>Heap.get?_push_of_some _ q) (Nat.le_refl _) ?_,rfl,q2 (fun w=>z (r2.nil_iff.mpr w)) _ (I.hok.fresh (Nat.le_refl _))⟩
 exact⟨by rw[List.length_append];exact hz,_,r1.append r2,IsTup.new _ _⟩
end
end L2
namespace L2
open PySem PySem.Spec PyProof.Rows
def ixN(n:Nat)(i:Int):Option Nat:=if 0≤i then (if i<n then some i.toNat else none) else if -(n:Int)≤i then some (i+n).toNat else none
def atI{α:Type}(xs:List α)(i:Int):Option α:=(ixN xs.length i).bind fun j=>xs[j]?
theorem L6{n:Nat}{i:Int}{j:Nat}(h:ixN n i=some j):seqIndex? i n=some j∧j<n∧-(n:Int)≤i∧i<n:=by
 unfold ixN at h
 by_cases h0:0≤i
 ·rw[if_pos h0] at h
  by_cases h1:i<n
  ·rw[if_pos h1] at h
   have e:i.toNat=j:=Option.some.inj h
   exact⟨by rw[seqIndex_of h0 h1,e],by omega,by omega,h1⟩
  ·rw[if_neg h1] at h;cases h
 ·rw[if_neg h0] at h
  by_cases h1 : -(n:Int)≤i
  ·rw[if_pos h1] at h
   have e:(i+n).toNat=j:=Option.some.inj h
   exact⟨by rw[seqIndex_neg (by omega) h1,e],by omega,h1,by omega⟩
  ·rw[if_neg h1] at h;cases h
theorem Ic{α:Type}{xs:List α}{i:Int}{v:α}(h:atI xs i=some v):∃j,seqIndex? i xs.length=some j∧xs[j]? = some v∧j<xs.length∧-(xs.length:Int)≤i∧i<xs.length:=by
 unfold atI at h
 cases e:ixN xs.length i with
 |none=>rw[e] at h;cases h
 |some j=>
  rw[e] at h
  obtain⟨h1,h2,h3,h4⟩:=L6 e
  exact⟨j,h1,h,h2,h3,h4⟩
theorem Cd{α:Type}{xs:List α}{j:Nat}{v:α}(h:xs[j]? = some v):atI xs (j:Int)=some v:=by
 have hj:j<xs.length:=(List.getElem?_eq_some_iff.mp h).1
 have e:ixN xs.length (j:Int)=some j:=by
  unfold ixN
  rw[if_pos (by omega),if_pos (by omega)];simp
 unfold atI;rw[e];exact h
def Mj(b:Expr):Prop:=∀o i,subscripted b false o i=operate [o,i] (getItem o i)
def IxR(X:Cx)(r:R2):Prop:=
 ∀(value slice:Expr) (pins:List (Addr×Obj)) (s:Shared) (σ:St) (H:Hp) (x y:V) (v u:Value) (Q:VK),Inv X pins σ H s→RelV x v→RelV y u→r x y H Q→
  subscripted slice false v u=operate [v,u] (getItem v u)→wpAny (model X.prog X.w) X.A (subscriptTail value slice v u) (EP X pins σ Q) X.xe s
def MtR(X:Cx)(id:String)(r:V→List V→Hp→VK→Prop):Prop:=
 ∀(pins:List (Addr×Obj)) (s:Shared) (σ:St) (H:Hp) (x:V) (xs:List V) (v:Value) (us:List Value) (Q:VK),Inv X pins σ H s→RelV x v→Vals xs us→r x xs H Q→
  wpAny (model X.prog X.w) X.A (call (.builtin id) (v::us)) (EP X pins σ Q) X.xe s
section
variable{X:Cx}{a b:Expr}{ta tb:TE}{pos:Pos}
theorem IxR.or{r r':R2}(h:IxR X r)(h':IxR X r'):IxR X (fun x y H Q=>r x y H Q∨r' x y H Q):=by
 intro value slice pins s σ H x y v u Q I rx ry q hs
 rcases q with q|q
 ·exact h value slice pins s σ H x y v u Q I rx ry q hs
 ·exact h' value slice pins s σ H x y v u Q I rx ry q hs
theorem Vr{r:R2}(hr:IxR X r)(ha:PE X a ta)(hb:PE X b tb)(hs:Mj b):PE X (.Subscript a b pos) (tOp r ta tb):=by
 intro pins s σ H Q I h
 exact Subscript_ (S5 ha hb I h fun v u s2 x y H2 I2 rx ry q=>hr a b pins s2 σ H2 x y v u Q I2 rx ry q (hs _ _))

def U9(K:PySem.W.Frag):R2:=fun x y H Q=>∃p xs i v,x=.ref p∧y=.int i∧SqL K H p xs∧atI xs i=some v∧Q v H
def U7(K:PySem.W.Frag):R2:=fun x y H Q=>∃p xs i v,x=.ref p∧y=.int i∧SqT K H p xs∧atI xs i=some v∧Q v H
def U8:R2:=fun x y H Q=>∃z i c,x=.str z∧y=.int i∧z.length≤sizeLine∧atI z.cps.toList i=some c∧Q (.str ⟨#[c]⟩) H
theorem ix_list:IxR X (U9 X.K):=by
 intro value slice pins s σ H x y v u Q I rx ry h hs
 obtain⟨p,xs,i,z,rfl,rfl,hq,he,q⟩:=h
 cases rx
 obtain⟨t,rfl⟩:=ry
 obtain⟨its,r,pl,hz⟩:=I.list hq
 obtain⟨j,h1,h2,h3,h4,h5⟩:=Ic he
 obtain⟨w,ew,rw'⟩:=r.get h2
 have hl:=r.length
 have hn:=Em
 have fin:EP X pins σ Q w s:=⟨z,H,I,rw',q⟩
 by_cases h0:0≤i
 ·have hj:i.toNat=j:=by
   rw[seqIndex_of h0 h5] at h1
   exact Option.some.inj h1
  exact item_listR pl.isList h0 (by omega) (by rw[hj];simpa using ew) fin hs
 ·have hj:(i+(its.toArray.size:Int)).toNat=j:=by
   rw[seqIndex_neg (by omega) h4] at h1
   rw[List.size_toArray,←hl]
   exact Option.some.inj h1
  exact subscriptTail_builtinR (x:=w) pl.isList.typeIs slot_list_getitem.lookup
   (wpAny_getItem_list_neg (Q:=fun r s'=>r=w∧EP X pins σ Q r s') pl.isList (by omega) (by rw[List.size_toArray]<;>omega) (by omega) (by rw[hj];simpa using ew) ⟨rfl,fin⟩) hs
theorem ix_tup:IxR X (U7 X.K):=by
 intro value slice pins s σ H x y v u Q I rx ry h hs
 obtain⟨p,xs,i,z,rfl,rfl,hq,he,q⟩:=h
 cases rx
 obtain⟨t,rfl⟩:=ry
 obtain⟨its,r,pl,hz⟩:=I.tuple hq
 obtain⟨j,h1,h2,h3,h4,h5⟩:=Ic he
 obtain⟨w,ew,rw'⟩:=r.get h2
 have hl:=r.length
 have hn:=Em
 have fin:EP X pins σ Q w s:=⟨z,H,I,rw',q⟩
 exact subscriptTail_builtinR (x:=w) pl.typeIs slot_tuple_getitem.lookup
  (getItem_tuple (j:=j) (Q:=fun r s'=>r=w∧EP X pins σ Q r s') pl (by omega) (by omega) (by rw[List.size_toArray,←hl];exact h1) (by simpa using ew) ⟨rfl,fin⟩) hs
theorem Us:IxR X U8:=by
 intro value slice pins s σ H x y v u Q I rx ry h hs
 obtain⟨z,i,c,rfl,rfl,hz,he,q⟩:=h
 obtain⟨t,rfl⟩:=rx
 obtain⟨t',rfl⟩:=ry
 obtain⟨j,h1,h2,h3,h4,h5⟩:=Ic he
 have hl:z.cps.toList.length=z.length:=by simp[Str.length]
 rw[hl] at h1 h4 h5
 have hn:=Em
 exact tail_any (typeIs_str s z t) slot_str_getitem.lookup (getItem_str (c:=c) (by
  have e1:decide (i < -(2 ^ 63:Int))=false:=decide_eq_false (by omega)
  have e2:decide (i ≥ 2 ^ 63)=false:=decide_eq_false (by omega)
  rw[e1,e2,Bool.or_false]) (by rw[h1];simpa using h2) ⟨.str ⟨#[c]⟩,H,I.tok _,⟨_,rfl⟩,q⟩) hs
def rIx(K:PySem.W.Frag):R2:=fun x y H Q=>U9 K x y H Q∨U7 K x y H Q∨U8 x y H Q
theorem ix_seq:IxR X (rIx X.K):=ix_list.or (ix_tup.or Us)

theorem La(its:List Value)(n j:Nat)(u:Value):Obj.mapSeq (·.setIfInBounds j u) { cls:=.type "list",data:=.seq its.toArray n }={ cls:=.type "list",data:=.seq (its.set j u).toArray n }:=by
 simp[Obj.mapSeq]
theorem Inv.lst{pins:List (Addr×Obj)}{σ:St}{H:Hp}{s:Shared}{p:Addr}{xs:List V}(I:Inv X pins σ H s)(h:H p=some (.lst xs)) :
  ∃(its:List Value) (n:Nat),Vals xs its∧s.heap.get? p=some { cls:=.type "list",data:=.seq its.toArray n }∧xs.length≤sizeLine:=by
 obtain⟨z,its,n,r,e⟩:=I.hok p _ h
 exact⟨its,n,r,e,z⟩
theorem Inv.lstUpd{pins:List (Addr×Obj)}{σ:St}{H:Hp}{s:Shared}{p:Addr}{xs ys:List V}{its its':List Value}{n n':Nat}{f:Obj→Obj}(I:Inv X pins σ H s)(h:H p=some (.lst xs))(ho:s.heap.get? p=some { cls:=.type "list",data:=.seq its.toArray n })(hf:f { cls:=.type "list",data:=.seq its.toArray n }={ cls:=.type "list",data:=.seq its'.toArray n' })(r:Vals ys its')(hz:ys.length≤sizeLine)(t:Nat) :
  Inv X pins σ (upd H p (.lst ys)) { s with heap:=s.heap.update p f,toks:=t }:=by
 have e:(s.heap.update p f).get? p=some { cls:=.type "list",data:=.seq its'.toArray n' }:=by
  rw[Heap.get?_update_self f ho (by rw[hf]<;>rfl),hf]
 refine I.write (x:=p) (e:=p) (by rw[h];trivial) (.inl rfl) (fun b u hb q=>(Heap.get?_update_other _ _ (Ne.symm hb)).trans q) ⟨_,e⟩ ?_
 exact⟨hz,its',n',r,e⟩
def Vm:V→V→V→Hp→(Hp→Prop)→Prop:=fun o i v H Q=>∃p xs k j,o=.ref p∧i=.int k∧H p=some (.lst xs)∧ixN xs.length k=some j∧Q (upd H p (.lst (xs.set j v)))
theorem set_list:PSet X Vm:=by
 intro pins s σ H o i v ov iv u Q I ro ri rv h
 obtain⟨p,xs,k,j,rfl,rfl,hp,hj,q⟩:=h
 cases ro
 obtain⟨t,rfl⟩:=ri
 obtain⟨its,n,r,ho,hz⟩:=I.lst hp
 obtain⟨h1,h2,h3,h4⟩:=L6 hj
 have hl:=r.length
 have hn:=Em
 have I':Inv X pins σ (upd H p (.lst (xs.set j v))) { s with heap:=s.heap.update p (Obj.mapSeq (·.setIfInBounds j u)) }:=
  I.lstUpd hp ho (La its n j u) (r.set rv j) (by rw[List.length_set];exact hz) s.toks
 by_cases h0:0≤k
 ·have hk:k.toNat=j:=by
   rw[seqIndex_of h0 h4] at h1
   exact Option.some.inj h1
  exact PySem.W.ki_setAt ho h0 (by omega) (by rw[List.size_toArray,←hl];exact h4) (by rw[hk];exact⟨_,I',q⟩)
 ·have hk:(k+(its.toArray.size:Int)).toNat=j:=by
   rw[seqIndex_neg (by omega) h3] at h1
   rw[List.size_toArray,←hl]
   exact Option.some.inj h1
  exact PySem.W.ki_setBack ho (by omega) (by rw[List.size_toArray,←hl];exact h3) (by omega) (by rw[hk];exact⟨_,I',q⟩)

theorem Ih(lo hi:Option Int)(n:Nat):(sliceBounds lo hi none n).1=((HT.sIx n 0 lo:Nat):Int)∧(sliceBounds lo hi none n).2.1=((HT.sIx n n hi:Nat):Int)∧(sliceBounds lo hi none n).2.2=1:=by
 refine⟨?_,?_,rfl⟩
 ·cases lo with
  |none=>simp[sliceBounds,HT.sIx]
  |some i=>
   simp only[sliceBounds,HT.sIx,Option.getD_none,show(1:Int)>0 by decide,if_true]
   by_cases h:i<0
   ·simp only[h,if_true]<;>omega
   ·simp only[h,if_false]<;>omega
 ·cases hi with
  |none=>simp[sliceBounds,HT.sIx]
  |some i=>
   simp only[sliceBounds,HT.sIx,Option.getD_none,show(1:Int)>0 by decide,if_true]
   by_cases h:i<0
   ·simp only[h,if_true]<;>omega
   ·simp only[h,if_false]<;>omega
theorem F8(its:List Value)(lo hi:Option Int):slicePick its.toArray lo hi none=((its.drop (HT.sIx its.length 0 lo)).take (HT.sIx its.length its.length hi-HT.sIx its.length 0 lo)).toArray:=by
 obtain⟨h1,h2,h3⟩:=Ih lo hi its.toArray.size
 unfold slicePick
 rw[h1,h2,h3]
 simp only[sliceRange_one,pick_run,List.size_toArray]<;>rfl
def rSlL(K:PySem.W.Frag):V→Option Int→Option Int→Hp→VK→Prop:=fun x lo hi H Q=>∃a xs,x=.ref a∧SqL K H a xs∧∀p,H p=none→Q (.ref p) (upd H p (.lst (Qq xs lo hi)))
theorem V6:SlR X (rSlL X.K):=by
 intro pins s σ H x v vl vu lo hi sl Q I rx hs pl pu h
 obtain⟨a,xs,rfl,hx,q⟩:=h
 cases rx
 obtain⟨its,r,ht,hz⟩:=I.list hx
 have hlen:=r.length
 refine⟨"list",_,slot_list_getitem.lookup,ht.isList.typeIs,?_⟩
 refine wpAny_getItem_list_slice ht.isList hs pl pu .none (by simp) ?_ (by rw[List.size_toArray]<;>omega)
 rw[F8,←hlen]
 refine⟨.ref s.heap.objs.size,_,I.laid (t':=s.toks) (o:=.lst (Qq xs lo hi)) (fun b ob q=>Heap.get?_push_of_some _ q) (Nat.le_refl _) ?_,rfl,q _ (I.hok.fresh (Nat.le_refl _))⟩
 exact⟨Nat.le_trans (Kc xs lo hi) hz,_,0,(r.drop (HT.sIx xs.length 0 lo)).take (HT.sIx xs.length xs.length hi-HT.sIx xs.length 0 lo),Heap.get?_push_size _ rfl⟩

theorem call_tuple_of:CallR X (.type "tuple") (fun xs H Q=>∃p ys,xs=[.ref p]∧((SqL X.K H p ys∧∀l,H l=none→Q (.ref l) (upd H l (.tup ys)))∨(SqT X.K H p ys∧Q (.ref p) H))):=by
 intro pins s σ H xs us Q I r h
 obtain⟨p,ys,rfl,h⟩:=h
 obtain⟨u,rfl,rx⟩:=Fa r
 cases rx
 rcases h with ⟨hq,q⟩|⟨hq,q⟩
 ·obtain⟨its,r',pl,hz⟩:=I.list hq
  have hlen:=r'.length
  refine call_tuple_list pl.isList (fun h' kp=>?_) (by simp only[List.size_toArray]<;>omega)
  have I1:Inv X pins σ H { s with heap:=h' }:=I.kept (t':=s.toks) kp
  have I2:Inv X pins σ (upd H h'.objs.size (.tup ys)) { s with heap:=h'.push { cls:=.type "tuple",data:=.seq its.toArray } }:=
   I1.laid (t':=s.toks) (fun b o e=>Heap.get?_push_of_some _ e) (Nat.le_refl _) (show ObjOk X.prog X.w _ _ _ (.tup ys) from⟨hz,its,r',IsTup.new _ _⟩)
  exact⟨.ref h'.objs.size,_,I2,rfl,q _ (I1.hok.fresh (Nat.le_refl _))⟩
 ·obtain⟨its,r',pl,hz⟩:=I.tuple hq
  exact call_tuple_same pl ⟨.ref p,H,I,rfl,q⟩

def tyV(K:PySem.W.Frag)(T:String)(x:V)(H:Hp):Prop:=match x with
 |.str _=>T = "str"
 |.int _=>T = "int"
 |.ref p=>(T = "list"∧∃xs,SqL K H p xs)∨(T = "tuple"∧∃o,K.lookup p=some o∧o.cls=.type "tuple"∧o.dict=none)∨
   (T = "dict"∧((∃kvs,H p=some (.dK kvs))∨∃kvs,H p=some (.dT kvs)))∨(T = "set"∧∃S n,H p=some (.set S n))
 |_=>False
theorem Tb{pins:List (Addr×Obj)}{σ:St}{H:Hp}{s:Shared}{T:String}{x:V}{v:Value}(I:Inv X pins σ H s)(r:RelV x v)(ty:tyV X.K T x H) :
  s.TypeIs v T∧∀a,v=.ref a→∃ob,s.heap.get? a=some ob∧ob.dict=none:=by
 cases x with
 |str z=>
  obtain⟨t,rfl⟩:=r
  cases(show T = "str" from ty)
  exact⟨typeIs_str s z t,fun _ e=>nomatch e⟩
 |int i=>
  obtain⟨t,rfl⟩:=r
  cases(show T = "int" from ty)
  exact⟨typeIs_int s i t,fun _ e=>nomatch e⟩
 |ref p=>
  cases r
  rcases ty with ⟨rfl,xs,hq⟩|⟨rfl,o,hk,hc,hd⟩|⟨rfl,hk⟩|⟨rfl,S,n,hk⟩
  ·obtain⟨its,_,pl,_⟩:=I.list hq
   refine⟨pl.isList.typeIs,fun a e=>?_⟩
   cases e
   obtain⟨o,n,e,c,hd,_⟩:=pl
   exact⟨o,e,hd⟩
  ·refine⟨⟨o,I.kIn p o hk,hc⟩,fun a e=>?_⟩
   cases e
   exact⟨o,I.kIn _ o hk,hd⟩
  ·have z:∃o,s.heap.get? p=some o∧o.ExactDict:=by
    rcases hk with ⟨kvs,hk⟩|⟨kvs,hk⟩
    ·obtain⟨_,_,_,_,o,_,_,e,ex,_⟩:=I.hok p _ hk
     exact⟨o,e,ex⟩
    ·obtain⟨_,_,_,_,o,_,_,e,ex,_⟩:=I.hok p _ hk
     exact⟨o,e,ex⟩
   obtain⟨o,e,ex⟩:=z
   refine⟨⟨o,e,ex.1⟩,fun a e2=>?_⟩
   cases e2
   exact⟨o,e,ex.2.1⟩
  ·obtain⟨o,_,_,_,e,ex,_⟩:=I.hok p _ hk
   refine⟨⟨o,e,ex.1⟩,fun a e2=>?_⟩
   cases e2
   exact⟨o,e,ex.2.1⟩
 |_=>exact False.elim ty
def tBM(K:PySem.W.Frag)(T:String)(r:V→List V→Hp→VK→Prop)(to:TE)(t:TA):TE:=fun σ H Q=>to σ H fun x H1=>tyV K T x H1∧t σ H1 fun xs H2=>r x xs H2 Q
variable{o e:Expr}{es:List Expr}{to:TE}{t:TA}{name:Str}{apos cpos:Pos}{T id:String}{r:V→List V→Hp→VK→Prop}
theorem Vs(pa:PlainAttrs T)(slot:Slot T name id)(hty:typeOf (.builtin id)=pure (.type "method_descriptor"))(hm:MtR X id r)(ho:PE X o to)(ha:PA X (e::es) t)(hbase:attributeBase o name X.env (eval o X.env)=eval o X.env:=by rfl)(hfew:((backTo cpos (starEach (e::es) X.env)).all (fun x=>!x.1)&&(backToKw cpos (keywordEach [] X.env)).all (fun x=>x.1.isSome)
   && decide ((e::es).length+([]:List Keyword).length+(if ([]:List Keyword).isEmpty then 0 else 1)<30))=true:=by rfl)(hline:(apos.endLine == cpos.line)=true:=by rfl)(hs:starEach (e::es) X.env=(false,eval e X.env)::starEach es X.env:=by rfl)(hplain:(backTo cpos (starEach es X.env)).any (·.1)=false:=by rfl) :
  PE X (.Call (.Attribute o name apos) (e::es) [] cpos) (tBM X.K T r to t):=by
 intro pins s σ H Q I h
 refine wpAny_Call_method_late hbase hfew hline rfl (thn (ho pins s σ H _ I h) fun v s1 ⟨x,H1,I1,r1,ty,q1⟩=>?_)
 obtain⟨h1,h2⟩:=Tb I1 r1 ty
 refine⟨T,id,pa,slot,hty,h1,h2,?_⟩
 have hA:=ha cpos pins s1 σ H1 _ I1 q1
 rw[hs] at hA ⊢
 refine Calls.callWith_builtin (by show(false||(backTo cpos (starEach es X.env)).any (·.1))=false;rw[hplain]<;>rfl) (Calls.evalArgs_plain ?_)
 exact thn hA fun us s2 ⟨vs,H2,I2,r2,q2⟩=>hm pins s2 σ H2 x vs v us Q I2 r1 r2 q2
end
end L2
namespace L2
open PySem PySem.Spec PyProof.Rows
def MtM(X:Cx)(id:String)(r:V→List V→Hp→VK→Prop):Prop:=
 ∀(pins:List (Addr×Obj)) (s:Shared) (σ:St) (H:Hp) (x:V) (xs:List V) (v:Value) (us:List Value) (Q:VK),Inv X pins σ H s→RelV x v→Vals xs us→r x xs H Q→
  wpAny (model X.prog X.w) X.A (call (.builtin id) (v::us)) (EP X pins σ Q) X.xe s

theorem Vals.one:∀{x:V} {us:List Value},Vals [x] us→∃u,us=[u]∧RelV x u
 |_,_,.cons r .nil=>⟨_,rfl,r⟩
section
variable{X:Cx}{pins:List (Addr×Obj)}{σ:St}{H:Hp}{s:Shared}{l b:Addr}{xs ys zs:List V}
theorem Inv.lset{its its':List Value}{n:Nat}{f:Array Value→Array Value}{t':Nat}(I:Inv X pins σ H s)(hH:H l=some (.lst xs))(e:s.heap.get? l=some { cls:=.type "list",data:=.seq its.toArray n })(hf:f its.toArray=its'.toArray)(hv:Vals ys its')(hz:ys.length≤sizeLine) :
  Inv X pins σ (upd H l (.lst ys)) { s with heap:=s.heap.update l (Obj.mapSeq f),toks:=t' }:=by
 have q:=PySem.IsL.update e f
 rw[hf] at q
 refine I.write (x:=l) (e:=l) (by rw[hH];exact trivial) (.inl rfl) (fun b' u hb hu=>(Heap.get?_update_other s.heap (Obj.mapSeq f) (Ne.symm hb)).trans hu) ⟨_,q⟩ ?_
 exact⟨hz,its',_,hv,q⟩
theorem Inv.lnew{its:List Value}{t':Nat}(I:Inv X pins σ H s)(hv:Vals ys its)(hz:ys.length≤sizeLine) :
  Inv X pins σ (upd H s.heap.objs.size (.lst ys)) { s with heap:=s.heap.push { cls:=.type "list",data:=.seq its.toArray },toks:=t' }:=
 I.laid (fun _ _ q=>Heap.get?_push_of_some _ q) (Nat.le_refl _) ⟨hz,its,0,hv,Heap.get?_push_size _ rfl⟩
theorem Inv.fresh(I:Inv X pins σ H s):H s.heap.objs.size=none:=I.hok.fresh (Nat.le_refl _)
theorem Inv.lstM(I:Inv X pins σ H s)(hH:H l=some (.lst xs)):xs.length≤sizeLine∧∃(its:List Value) (n:Nat),Vals xs its∧xs.length=its.length∧s.heap.get? l=some { cls:=.type "list",data:=.seq its.toArray n }:=by
 obtain⟨z,its,n,r,e⟩:=I.hok l _ hH
 exact⟨z,its,n,r,r.length,e⟩

theorem Pw{n:Nat}(h:n≤sizeLine):Builtin.List.listTooLong n=false:=by
 unfold Builtin.List.listTooLong
 exact decide_eq_false (by omega)
end
section
variable{X:Cx}
def Q3:V→List V→Hp→VK→Prop:=fun x vs H Q=>∃l xs y,x=.ref l∧vs=[y]∧H l=some (.lst xs)∧xs.length<sizeLine∧Q .non (upd H l (.lst (xs++[y])))
theorem Gs:MtM X "list.append" Q3:=by
 intro pins s σ H x vs v us Q I rx rv h
 obtain⟨l,xs,y,rfl,rfl,hH,hz,q⟩:=h
 cases rx
 obtain⟨u,rfl,ru⟩:=rv.one
 obtain⟨z,its,n,r,hl,e⟩:=I.lstM hH
 refine call_meets F.slot_list_append ⟨_,e,rfl⟩ F.entry_list_append (F.args_list_append_2 _ _) (PySem.list_append l its.toArray n u (by rw[List.size_toArray];omega)) ⟨e,?_⟩
 refine⟨.non,_,I.lset (its':=its++[u]) hH e (by simp) (r.append (.cons ru .nil)) ?_,rfl,q⟩
 rw[List.length_append,List.length_singleton]
 omega

def Q2:V→List V→Hp→VK→Prop:=fun x vs H Q=>∃l b xs zs,x=.ref l∧vs=[.ref b]∧H l=some (.lst xs)∧H b=some (.lst zs)∧xs.length+zs.length≤sizeLine∧Q .non (upd H l (.lst (xs++zs)))
theorem U5:MtM X "list.extend" Q2:=by
 intro pins s σ H x vs v us Q I rx rv h
 obtain⟨l,b,xs,zs,rfl,rfl,hH,hB,hz,q⟩:=h
 cases rx
 obtain⟨u,rfl,ru⟩:=rv.one
 cases ru
 obtain⟨z,its,n,r,hl,e⟩:=I.lstM hH
 obtain⟨z2,its2,n2,r2,hl2,e2⟩:=I.lstM hB
 have hsz:its.toArray.size+its2.toArray.size≤sizeLine:=by rw[List.size_toArray,List.size_toArray];omega
 have hlong:¬(!its.toArray.isEmpty&&Builtin.List.listTooLong (its.toArray.size+its2.toArray.size))=true:=by
  rw[Pw hsz,Bool.and_false]
  exact Bool.false_ne_true
 refine call_meets F.slot_list_extend ⟨_,e,rfl⟩ F.entry_list_extend (F.args_list_extend_2 _ _)
  (AutoSeq1.list_extend_list_list_0 l its.toArray n b its2.toArray n2 hlong (by rw[List.size_toArray];omega) (by omega)) ⟨e,e2,?_⟩
 refine⟨.non,_,I.lset (its':=its++its2) hH e (by simp) (r.append r2) ?_,rfl,q⟩
 rw[List.length_append]
 omega

def rCat:R2:=fun x y H Q=>∃l b xs zs,x=.ref l∧y=.ref b∧H l=some (.lst xs)∧H b=some (.lst zs)∧xs.length+zs.length≤sizeLine∧∀p,H p=none→Q (.ref p) (upd H p (.lst (xs++zs)))
theorem Ua:OpR X (binaryOp .Add) rCat:=by
 intro pins s σ H x y v u Q I rx ry h
 obtain⟨l,b,xs,zs,rfl,rfl,hH,hB,hz,q⟩:=h
 cases rx
 cases ry
 obtain⟨z,its,n,r,hl,e⟩:=I.lstM hH
 obtain⟨z2,its2,n2,r2,hl2,e2⟩:=I.lstM hB
 refine PySem.P.add_list e e2 ?_ (by rw[List.size_toArray,List.size_toArray];omega)
 have ea:its.toArray++its2.toArray=(its++its2).toArray:=by simp
 rw[ea]
 exact⟨.ref _,_,I.lnew (t':=s.toks) (r.append r2) (by rw[List.length_append];omega),rfl,q _ I.fresh⟩
end
section
variable{prog:Program}{w:World}{A:Around}{E:Value→Shared→Prop}{s:Shared}
end
section
variable{X:Cx}
end
end L2
namespace L2
open PySem PySem.Spec PyProof.Rows
section
variable{κ:Type}[DecidableEq κ]
def Ci(kvs:List (κ×V))(k:κ):Option V:=(kvs.find? fun kv=>decide (kv.1=k)).map (·.2)
def Cj(kvs:List (κ×V))(k:κ)(v:V):List (κ×V):=
 if (kvs.any fun kv=>decide (kv.1=k))=true then kvs.map (fun kv=>if kv.1=k then (kv.1,v) else kv) else kvs++[(k,v)]
theorem Fj{p:κ×V}{r:List (κ×V)}{k:κ}(e:p.1=k):Ci (p::r) k=some p.2:=by simp[Ci,List.find?_cons,e]
theorem Fk{p:κ×V}{r:List (κ×V)}{k:κ}(e:¬p.1=k):Ci (p::r) k=Ci r k:=by simp[Ci,List.find?_cons,e]
theorem Ji(k:κ):∀kvs:List (κ×V),(kvs.any fun kv=>decide (kv.1=k))=(Ci kvs k).isSome
 |[]=>rfl
 |p::r=>by
  rw[List.any_cons]
  by_cases e:p.1=k
  ·simp only[Fj e,decide_eq_true e,Bool.true_or,Option.isSome_some]
  ·rw[Fk e,decide_eq_false e,Bool.false_or];exact Ji k r
theorem Cf(kvs:List (κ×V))(k:κ)(v:V):(Cj kvs k v).length≤kvs.length+1:=by
 unfold Cj
 split
 ·rw[List.length_map];omega
 ·rw[List.length_append,List.length_cons,List.length_nil];omega
theorem RelO.isSome_eq{o:Option V}{u:Option Value}(r:RelO o u):o.isSome=u.isSome:=by
 cases o with
 |none=>cases u with
  |none=>rfl
  |some _=>exact(show False from r).elim
 |some _=>cases u with
  |none=>exact(show False from r).elim
  |some _=>rfl
theorem KV.val{kvs:List (κ×V)}{vs:List (κ×Value)}(r:KV kvs vs)(k:κ):RelO (Ci kvs k) (valueAt vs k):=by
 unfold KV at r
 induction r with
 |nil=>exact True.intro
 |@cons p q ps qs h t ih=>
  obtain⟨h1,h2⟩:=h
  by_cases e:p.1=k
  ·have e':q.1=k:=h1.symm.trans e
   have b:valueAt (q::qs) k=some q.2:=by simp[valueAt,List.find?_cons,e']
   rw[Fj e,b];exact h2
  ·have e':¬q.1=k:=fun z=>e (h1.trans z)
   have b:valueAt (q::qs) k=valueAt qs k:=by simp[valueAt,List.find?_cons,e']
   rw[Fk e,b];exact ih
theorem KV.any{kvs:List (κ×V)}{vs:List (κ×Value)}(r:KV kvs vs)(k:κ):(kvs.any fun kv=>decide (kv.1=k))=vs.any fun kv=>decide (kv.1=k):=by
 unfold KV at r
 induction r with
 |nil=>rfl
 |cons h t ih=>rw[List.any_cons,List.any_cons,ih,h.1]
theorem KV.repl{kvs:List (κ×V)}{vs:List (κ×Value)}(r:KV kvs vs)(k:κ){y:V}{u:Value}(ry:RelV y u) :
  KV (kvs.map fun kv=>if kv.1=k then (kv.1,y) else kv) (vs.map fun kv=>if kv.1=k then (kv.1,u) else kv):=by
 unfold KV at r ⊢
 induction r with
 |nil=>exact .nil
 |@cons p q ps qs h t ih=>
  rw[List.map_cons,List.map_cons]
  refine .cons ?_ ih
  obtain⟨h1,h2⟩:=h
  by_cases e:p.1=k
  ·rw[if_pos e,if_pos (h1.symm.trans e)];exact⟨h1,ry⟩
  ·rw[if_neg e,if_neg (fun z=>e (h1.trans z))];exact⟨h1,h2⟩
theorem KV.put{kvs:List (κ×V)}{vs:List (κ×Value)}(r:KV kvs vs)(k:κ){y:V}{u:Value}(ry:RelV y u):KV (Cj kvs k y) (stored vs k u):=by
 unfold Cj stored
 rw[r.any k]
 by_cases e:(vs.any fun kv=>decide (kv.1=k))=true
 ·rw[if_pos e,if_pos e];exact r.repl k ry
 ·rw[if_neg e,if_neg e];exact Paired.snoc r ⟨rfl,ry⟩
theorem KV.length{kvs:List (κ×V)}{vs:List (κ×Value)}(r:KV kvs vs):kvs.length=vs.length:=Paired.length r
end
theorem Oe{P:Program}{w:World}{k:Key}{u:Value}(r:RelV (kV k) u):(Ax P w).is k u=true:=by
 cases k with
 |inl i=>obtain⟨t,e⟩:=(show ∃t,u=Value.int i t from r);subst e;exact J7 P w i t
 |inr x=>obtain⟨t,e⟩:=(show ∃t,u=Value.str x t from r);subst e;exact J6 P w x t
theorem Gz{P:Program}{w:World}:∀{ks:List Key} {us:List Value},Vals (ks.map kV) us→ItemsAre (Ax P w) ks us
 |[],_,r=>by rw[List.map_nil] at r;cases r;exact .nil
 |k::ks,_,r=>by
  rw[List.map_cons] at r
  cases r with
  |cons h t=>exact .cons (Oe h) (Gz t)

abbrev KT(H:Hp):List (List Key×V)→List (List Key×Addr×Value)→Prop:=Paired fun p q=>p.1=q.1∧H q.2.1=some (.tup (p.1.map kV))∧RelV p.2 q.2.2
theorem KT.val{H:Hp}{kvs:List (List Key×V)}{xs:List (List Key×Addr×Value)}(r:KT H kvs xs)(k:List Key):RelO (Ci kvs k) ((atKey xs k).map (·.2)):=by
 induction r with
 |nil=>exact True.intro
 |@cons p q ps qs h t ih=>
  obtain⟨h1,_,h2⟩:=h
  by_cases e:p.1=k
  ·have e':q.1=k:=h1.symm.trans e
   have b:atKey (q::qs) k=some q.2:=by simp[atKey,List.find?_cons,e']
   rw[Fj e,b];exact h2
  ·have e':¬q.1=k:=fun z=>e (h1.trans z)
   have b:atKey (q::qs) k=atKey qs k:=by simp[atKey,List.find?_cons,e']
   rw[Fk e,b];exact ih
theorem KT.repl{H:Hp}{kvs:List (List Key×V)}{xs:List (List Key×Addr×Value)}(r:KT H kvs xs)(k:List Key){y:V}{u:Value}(ry:RelV y u) :
  KT H (kvs.map fun kv=>if kv.1=k then (kv.1,y) else kv) (xs.map (putAt k u)):=by
 induction r with
 |nil=>exact .nil
 |@cons p q ps qs h t ih=>
  rw[List.map_cons,List.map_cons]
  refine .cons ?_ ih
  obtain⟨h1,h2,h3⟩:=h
  unfold putAt
  by_cases e:p.1=k
  ·rw[if_pos e,if_pos (h1.symm.trans e)];exact⟨h1,h2,ry⟩
  ·rw[if_neg e,if_neg (fun z=>e (h1.trans z))];exact⟨h1,h2,h3⟩
theorem KT.put{H:Hp}{kvs:List (List Key×V)}{xs:List (List Key×Addr×Value)}(r:KT H kvs xs)(k:List Key){b:Addr}{y:V}{u:Value}(hb:H b=some (.tup (k.map kV)))(ry:RelV y u) :
  KT H (Cj kvs k y) (storedH xs k b u):=by
 have e:(kvs.any fun kv=>decide (kv.1=k))=(atKey xs k).isSome:=by
  rw[Ji,(r.val k).isSome_eq,Option.isSome_map]
 unfold Cj storedH
 rw[e]
 by_cases q:(atKey xs k).isSome=true
 ·rw[if_pos q,if_pos q];exact r.repl k ry
 ·rw[if_neg q,if_neg q];exact Paired.snoc r ⟨rfl,hb,ry⟩
theorem KT.keeps{H H':Hp}{kvs:List (List Key×V)}{xs:List (List Key×Addr×Value)}(r:KT H kvs xs)(ht:∀b ys,H b=some (.tup ys)→H' b=some (.tup ys)):KT H' kvs xs:=
 Paired.mapP r fun _ _ z=>⟨z.1,ht _ _ z.2.1,z.2.2⟩

section
variable{P:Program}{w:World}{H:Hp}{h:Heap}{a:Addr}
theorem Sd{u:HO}(ok:HOk P w H h)(e:Rd H a u):ObjOk P w H h a u:=e.ok ok
theorem Ss{kvs:List (Key×V)}(ok:HOk P w H h)(e:Rd H a (.dK kvs)):kvs.length≤sizeLine∧(a == sysModules)=false∧∃vs,KV kvs vs∧h.DictOf (Ax P w) a vs:=
 show ObjOk P w H h a (.dK kvs) from Sd ok e
theorem Su{kvs:List (Key×V)}(ok:HOk P w H h)(e:H a=some (.dK kvs)):kvs.length≤sizeLine∧(a == sysModules)=false∧∃vs,KV kvs vs∧h.DictOf (Ax P w) a vs:=Ss ok (.inl e)
theorem Hu{ks:List Key}(ok:HOk P w H h)(e:H a=some (.tup (ks.map kV))):(tupleKind (Ax P w)).is h ks a:=by
 obtain⟨_,its,r,o,h1,h2,n,h3⟩:=(show ObjOk P w H h a (.tup (ks.map kV)) from ok a _ e)
 exact⟨o,its.toArray,n,h1,h2,h3,by simpa using Gz r⟩
theorem So{kvs:List (List Key×V)}(ok:HOk P w H h)(e:Rd H a (.dT kvs)):kvs.length≤sizeLine∧(a == sysModules)=false∧
  ∃xs,KT H kvs xs∧h.DictOfH (tupleKind (Ax P w)) a xs:=by
 obtain⟨z,y,xs,r,o,es,ep,h1,h2,h3,h4,h5⟩:=(show ObjOk P w H h a (.dT kvs) from Sd ok e)
 refine⟨z,y,xs,r,o,es,ep,h1,h2,h3,h4,fun x hx=>?_,h5⟩
 have all:∀{l:List (List Key×V)} {m:List (List Key×Addr×Value)},KT H l m→∀x∈m,(tupleKind (Ax P w)).is h x.1 x.2.1:=by
  intro l m q
  induction q with
  |nil=>intro x hx;exact nomatch hx
  |@cons p q ps qs hq t ih=>
   intro x hx
   rcases List.mem_cons.mp hx with e|hx
   ·subst e
    exact Hu ok (by rw[←hq.1];exact hq.2.1)
   ·exact ih x hx
 exact all r x hx
theorem Sr{kvs:List (List Key×V)}(ok:HOk P w H h)(e:H a=some (.dT kvs)):kvs.length≤sizeLine∧(a == sysModules)=false∧
  ∃xs,KT H kvs xs∧h.DictOfH (tupleKind (Ax P w)) a xs:=So ok (.inl e)
end
def DGet(H:Hp)(a:Addr)(y:V)(r:Option V):Prop:=
 (∃kvs k,Rd H a (.dK kvs)∧y=kV k∧r=Ci kvs k)∨∃kvs k b,Rd H a (.dT kvs)∧y=.ref b∧H b=some (.tup (k.map kV))∧r=Ci kvs k
def DPut(H:Hp)(a:Addr)(y v:V)(H':Hp):Prop:=
 (∃kvs k,H a=some (.dK kvs)∧y=kV k∧kvs.length<sizeLine∧H'=upd H a (.dK (Cj kvs k v)))∨
 ∃kvs k b,H a=some (.dT kvs)∧y=.ref b∧H b=some (.tup (k.map kV))∧kvs.length<sizeLine∧H'=upd H a (.dT (Cj kvs k v))
theorem DGet.k{H:Hp}{a:Addr}{kvs:List (Key×V)}{k:Key}(e:H a=some (.dK kvs)):DGet H a (kV k) (Ci kvs k):=.inl ⟨kvs,k,.inl e,rfl,rfl⟩
theorem DGet.t{H:Hp}{a b:Addr}{kvs:List (List Key×V)}{k:List Key}(e:H a=some (.dT kvs))(eb:H b=some (.tup (k.map kV))):DGet H a (.ref b) (Ci kvs k):=.inr ⟨kvs,k,b,.inl e,rfl,eb,rfl⟩
theorem DPut.k{H:Hp}{a:Addr}{kvs:List (Key×V)}{k:Key}{v:V}(e:H a=some (.dK kvs))(hl:kvs.length<sizeLine):DPut H a (kV k) v (upd H a (.dK (Cj kvs k v))):=.inl ⟨kvs,k,e,rfl,hl,rfl⟩
theorem DPut.t{H:Hp}{a b:Addr}{kvs:List (List Key×V)}{k:List Key}{v:V}(e:H a=some (.dT kvs))(eb:H b=some (.tup (k.map kV)))(hl:kvs.length<sizeLine) :
  DPut H a (.ref b) v (upd H a (.dT (Cj kvs k v))):=.inr ⟨kvs,k,b,e,rfl,eb,hl,rfl⟩


section
variable{X:Cx}{pins:List (Addr×Obj)}{σ:St}{H:Hp}{s:Shared}{a:Addr}{y v:V}{u r:Value}{o:Option V}{A:Around}{E:Value→Shared→Prop}
theorem Inv.big(I:Inv X pins σ H s):sysModules<s.heap.objs.size:=by
 have h:mainGlobals<s.heap.objs.size:=(I.mod.glob.keeps I.bk).lt
 exact Nat.lt_trans (by decide) h

theorem Rx{Q:Value→Shared→Prop}(hu:A.units+1<cLine)(I:Inv X pins σ H s)(g:DGet H a y o)(ry:RelV y u)(h:∀s',Inv X pins σ H s'→Q (.bool (!o.isSome)) s') :
  wpAny (model X.prog X.w) A (compareOp .NotIn u (.ref a)) Q E s:=by
 rcases g with ⟨kvs,k,e,ey,l⟩|⟨kvs,k,b,e,ey,eb,l⟩
 ·subst ey
  obtain⟨z,hd,vs,rel,dd⟩:=Ss I.hok e
  refine wpAny_notIn_of (Oe ry) hd dd.mapOf ?_
  rw[←(rel.val k).isSome_eq,←l]
  exact h _ (I.tok _)
 ·subst ey
  cases(show u=Value.ref b from ry)
  obtain⟨z,hd,xs,rel,dd⟩:=So I.hok e
  refine wpAny_notIn_heap (tupleKind_room_in1 hu) (Hu I.hok eb) hd dd ?_
  have q:=(rel.val k).isSome_eq
  rw[Option.isSome_map] at q
  rw[←q,←l]
  exact h _ (I.tok _)
theorem Ib{h':Heap}{t':Nat}{ob:HO}(I:Inv X pins σ H s)(mu:Mut (H a))(hs:Heap.SameBut a s.heap h')(he:∃q,h'.get? a=some q)(new:ObjOk X.prog X.w (upd H a ob) h' a ob) :
  Inv X pins σ (upd H a ob) { s with heap:=h',toks:=t' }:=
 I.write (x:=a) (e:=a) mu (.inl rfl) (fun b q hb z=>(hs.2 b hb).trans z) he new
theorem Ux{P:Program}{w:World}{H':Hp}{h':Heap}{kvs:List (Key×V)}{vs:List (Key×Value)}(z:kvs.length≤sizeLine)(hd:(a == sysModules)=false)(rel:KV kvs vs)(dd:h'.DictOf (Ax P w) a vs) :
  ObjOk P w H' h' a (.dK kvs):=⟨z,hd,vs,rel,dd⟩
theorem Nq{H':Hp}{Q:Unit→Shared→Prop}(hu:A.units+1<cLine)(I:Inv X pins σ H s)(g:DPut H a y v H')(ry:RelV y u)(rv:RelV v r)(h:∀s',Inv X pins σ H' s'→Q () s') :
  wpAny (model X.prog X.w) A (setItem (.ref a) u r) Q E s:=by
 rcases g with ⟨kvs,k,e,ey,l,eH⟩|⟨kvs,k,b,e,ey,eb,l,eH⟩
 ·subst ey eH
  obtain⟨z,hd,vs,rel,dd⟩:=Su I.hok e
  have hz:vs.length≤sizeLine:=by rw[←rel.length];exact z
  have hl:(Cj kvs k v).length≤sizeLine:=by have:=Cf kvs k v;omega
  refine wpAny_setItem_pairs (hsz:=hz) (Oe ry) dd fun h' dd' hs=>h _ ?_
  have he:∃q,h'.get? a=some q:=let ⟨q,_,_,hq,_⟩:=dd';⟨q,hq⟩
  exact Ib I (by rw[e];exact True.intro) hs he (Ux hl hd (rel.put k rv) dd')
 ·subst ey eH
  cases(show u=Value.ref b from ry)
  obtain⟨z,hd,xs,rel,dd⟩:=Sr I.hok e
  have hz:xs.length≤sizeLine:=by rw[←Paired.length rel];exact z
  have hl:(Cj kvs k v).length≤sizeLine:=by have:=Cf kvs k v;omega
  refine wpAny_setItem_heap (hsz:=hz) (tupleKind_room_in1 hu) (Hu I.hok eb) dd fun h' dd' hs=>h _ ?_
  obtain⟨q,es,ep,hq,h2,h3,h4,_,h5⟩:=dd'
  refine Ib I (by rw[e];exact True.intro) hs ⟨q,hq⟩ ⟨hl,hd,_,(rel.put k eb rv).keeps fun c ys ec=>?_,q,es,ep,hq,h2,h3,h4,h5⟩
  rw[Al (Lr ec e (fun z=>nomatch z))]
  exact ec
end
section
variable{X:Cx}{pins:List (Addr×Obj)}{σ:St}{H:Hp}{s:Shared}{a:Addr}{kvs:List (Key×V)}{k:Key}{u:Value}{A:Around}{E:Value→Shared→Prop}
end
section
variable{X:Cx}{o i e value:Expr}{pos pos' tpos:Pos}{td ty tv:TE}
end
theorem Jx{P:Program}{w:World}{H:Hp}(h:Heap)(hb:sysModules<h.objs.size):ObjOk P w H (h.push { cls:=.type "dict",data:=.dict #[] }) h.objs.size (.dT []):=
 ⟨Nat.zero_le _,beq_eq_false_iff_ne.mpr (Ne.symm (Nat.ne_of_lt hb)),[],.nil,_,#[],0,Heap.get?_push_size _ rfl,⟨rfl,rfl,rfl⟩,rfl,rfl,List.nodup_nil⟩
section
variable{X:Cx}{pos:Pos}
end
section
variable{X:Cx}{pins:List (Addr×Obj)}{σ:St}{H:Hp}{s:Shared}{a:Addr}{y d:V}{u r:Value}{o:Option V}{A:Around}{E:Value→Shared→Prop}
end
section
variable{X:Cx}{o e f:Expr}{apos cpos:Pos}{td ty tx:TE}
end
section
variable{X:Cx}{pins:List (Addr×Obj)}{σ:St}{H:Hp}{s:Shared}{a:Addr}{kvs:List (Key×V)}{A:Around}{E:Value→Shared→Prop}
end
section
variable{X:Cx}{pins:List (Addr×Obj)}{σ:St}{H:Hp}{s:Shared}{a:Addr}{y:V}{u:Value}{A:Around}{E:Value→Shared→Prop}
end
end L2
namespace Att
open PySem PySem.W PySem.Calls PyProof.Rows
theorem E5{P:Params}{h:Heap}:∀(ns:List Int) (vs:List Value),WellAll P h vs (ns.map WData.int)→IntsAre vs ns:=by
 intro ns
 induction ns with
 |nil=>
  intro vs w
  rw[List.map_nil] at w
  cases w
  exact .nil
 |cons n ns ih=>
  intro vs w
  rw[List.map_cons] at w
  cases w with
  |cons a b=>
   cases a
   exact .cons _ _ (ih _ b)

theorem My{l:OpenLaw}{n:Nat}(hn:l.most=some n){P:Params}{h:Heap}{args:List WData}{vals:List Value}(hpre:l.row.toRowW.claim.pre args=true)(hwl:WellAll P h vals args) :
  ∃a vs ns,vals=[Value.ref a]∧args=[WData.list (ns.map WData.int)]∧h.get? a=some { cls:=.type "list",data:=.seq vs.toArray }∧IntsAre vs ns∧ns.length≤n:=by
 have hsh:WShape.hasAll [] args [.list .int]=true:=(pre_splitW hpre).1
 have hc:l.pre.holds [] { args:=args }=true:=(pre_splitW hpre).2
 obtain⟨d,r,rfl,h1,h2⟩:=hasAllW_cons hsh
 obtain rfl:=hasAllW_nil h2
 obtain⟨xs,rfl,h3⟩:=hasW_list h1
 obtain⟨ns,rfl⟩:=items_int h3
 have hlen:ns.length≤n:=by
  unfold OpenLaw.pre at hc
  have h4:(WTm.not (.lt (.lit (.int (n:Int))) (.len (.arg 0)))).holds [] { args:=[.list (ns.map .int)] }=true:=by
   have h4:=(holds_andW hc).1
   rw[hn] at h4
   exact h4
  have h5:=condW_of h4 (w_not (w_lt w_lit (w_len_list (w_arg rfl))))
  rw[List.length_map] at h5
  refine Nat.le_of_not_lt fun q=>?_
  have q':(n:Int)<((ns.length:Nat):Int):=by omega
  first
   |(rw[decide_eq_true q'] at h5;exact absurd h5 (by decide))
   |(simp at h5;omega)
 cases hwl with
 |cons w1 w2=>
  cases w2
  cases w1 with
  |list ho hall=>exact⟨_,_,ns,rfl,rfl,ho,E5 ns _ hall,hlen⟩

theorem M2(l:OpenLaw)(args:List WData):l.row.toRowW.claim.post args (.bool true) args=true:=
 postW_of (r:=l.row.toRowW) (X:=(true == true))
  (show WShape.has [] (.bool true) .bool=true by first|rfl|decide|simp[WShape.has,WShape.arms,WShape.armsAll])
  (show(WTm.eq .res (.lit (.bool true))).value [] { args:=args,res:=some (.bool true),after:=args }=some (.bool (true == true)) from w_eq_bool (w_res rfl) w_lit) rfl

theorem attach_call{l:OpenLaw}{n:Nat}{q:Program}{loose:List Str}{XP:(Str→Option Value)→Heap→Prop}{YP:World→Heap→Prop}{d:DefRec}(hn:l.most=some n)(hdf:d.params.defaults=[])(call:∀(w:World) (s₀ s₁:Shared) (mg mb:Str→Option Value) (fa:Addr) (o:Obj) (pm cd doc:Value) (a:Addr) (vs:List Value) (ns:List Int),
   Ground q loose [] XP w s₀ mg mb s₁.heap→YP w s₁.heap→
   s₁.heap.get? fa=some o→o.data=.func (docDef d.name d.params d.body d.scope pm cd doc)→s₁.heap.CodeRec cd d.name→mg d.name=some (.ref fa)→
   s₁.heap.get? a=some { cls:=.type "list",data:=.seq vs.toArray }→IntsAre vs ns→ns.length≤n→s₁.gens=#[]→
   codeAny (model l.prog w) callerA (.call (.ref fa) ⟨[.ref a],[]⟩) (fun r s'=>r=.ok (.ret (.bool true))∧OldK s₁.heap s'.heap∧s'.os=s₁.os∧AllBare s'.gens) s₁) :
  WalkO q loose XP YP l.row.toRowW d [] (fun f vs=>PySem.call f vs):=by
 intro w s₀ s₁ mg mb G Y fa o pm cd doc dV kV ho hd hcd hD hmg hg args vals as hpre hlay hrd hwl hlo
 obtain rfl:dV=.none:=Dflts.none hD hdf
 obtain rfl:kV=.none:=Dflts.noKw hD
 obtain⟨a,vs,ns,rfl,rfl,hobj,hints,hlen⟩:=My hn hpre hwl
 refine enter_call (codeAny_mono (call w s₀ s₁ mg mb fa o pm cd doc a vs ns G Y ho (fd_plain hd) hcd hmg hobj hints hlen hg) fun r s' hq=>?_)
 obtain⟨rfl,h2,h3,h4⟩:=hq
 exact⟨.inl ⟨.bool true,.bool true,[],rfl,fun _=>rfl,.bool true,M2 l _,fun _=>⟨List.Pairwise.nil,fun _ hm=>(nomatch hm)⟩⟩,h2,h3,h4⟩

section
variable{prog:Program}{w:World}{A:Around}{E:Value→Shared→Prop}{s:Shared}{K:Frag}
end
end Att
namespace L2
open PySem PySem.Spec PyProof.Rows
theorem vals_ints:∀{vs:List Value} {ns:List Int},IntsAre vs ns→Vals (ns.map V.int) vs
 |_,_,.nil=>.nil
 |_,_,.cons n t h=>.cons ⟨t,rfl⟩ (vals_ints h)

def N7(H:Hp):Prop:=∀b,H b=none∨∃o xs,H b=some (.frz o (.lst xs))

theorem P3{P:Program}{w:World}{K:W.Frag}{mg mb:Str→Option Value}{CX:CXT}{k:Nat}{fa a:Addr}{fd:FuncData}{x:Str}{sp:Sp}{s₁:Shared}{vs:List Value}{ns:List Int}(KX:K.In s₁.heap)(hns:s₁.heap.Ns mainGlobals mg)(hb:s₁.heap.Ns builtinsNs mb)(hbb:∀x:Str,x≠"__name__"→mb x=bootBuiltins x)(hlim:s₁.heap.NoLimit)(hsm:∃mm,s₁.heap.Ns sysModules mm)(hbm:∃bm ob,mg "__builtins__" = some (.ref bm)∧bm≠builtinsNs∧s₁.heap.get? bm=some ob∧ob.cls=.type "module"∧ob.dict=some builtinsNs∧ob.data=.plain)(hg:s₁.gens=#[])(ha:s₁.heap.get? a=some { cls:=.type "list",data:=.seq vs.toArray })(hi:IntsAre vs ns)(hl:ns.length≤sizeLine)(hr:Room k callerA)(F:∀base:Heap,K.In base→base.Ns mainGlobals mg→FnOk P w K mg base CX k fa fd [x] sp)(hbind:∀(s:Shared) (u:Value),BindsTo s fd ⟨[u],[]⟩ [(x,u)])(hsp:∀H:Hp,N7 H→SqL K H a (ns.map V.int)→sp [.ref a] H (fun v _=>v=.bl true) fun _ _ _=>False)(hCX:∀H e s',CX [] H s₁ (fun _ _ _=>False) e s'→False) :
  codeAny (model P w) callerA (.call (.ref fa) ⟨[.ref a],[]⟩) (fun r s'=>r=.ok (.ret (.bool true))∧OldK s₁.heap s'.heap∧s'.os=s₁.os∧AllBare s'.gens) s₁:=by
 have rv:=vals_ints hi
 have lenV:=hi.length
 -- from an abstract heap in which nothing but the script may be tracked
 have core:∀H:Hp,N7 H→SqL K H a (ns.map V.int)→HOk P w H s₁.heap→(∀b,H b≠none→b=a)→(H a≠none→K.lookup a=none)→
   codeAny (model P w) callerA (.call (.ref fa) ⟨[.ref a],[]⟩) (fun r s'=>r=.ok (.ret (.bool true))∧OldK s₁.heap s'.heap∧s'.os=s₁.os∧AllBare s'.gens) s₁:=by
  intro H hO hS hok hA hK
  have base_of:∀{b:Addr} {o:Obj},s₁.heap.get? b=some o→H b=none→(Hn s₁.heap H).get? b=some o:=fun e n=>P7 e n
  have noA:∀{b:Addr} {o:Obj} {es:Array DictEntry} {ep:Nat},s₁.heap.get? b=some o→o.data=.dict es ep→H b=none:=fun {b o es ep} e d=>by
   cases q:H b with
   |none=>rfl
   |some u=>
    have e':b=a:=hA b (by rw[q];simp)
    subst e'
    rw[ha] at e;cases e
    have d':Data.seq vs.toArray _=Data.dict es ep:=d
    cases d'
  have nsK:∀{b:Addr} {m:Str→Option Value},s₁.heap.Ns b m→(Hn s₁.heap H).Ns b m:=fun {b m} ⟨o,es,ep,e,d,r⟩=>⟨o,es,ep,base_of e (noA e d),d,r⟩
  have hKb:K.In (Hn s₁.heap H):=fun b o e=>base_of (KX b o e) (by
   cases q:H b with
   |none=>rfl
   |some u=>
    have e':b=a:=hA b (by rw[q];simp)
    subst e'
    rw[hK (by rw[q];simp)] at e;cases e)
  have hM:Mod K mg (Hn s₁.heap H):=⟨hKb,nsK hns,let ⟨mm,h1⟩:=hsm;⟨mm,nsK h1⟩,(let ⟨bm,ob,b1,b2,b3,b4,b5⟩:=hbm;⟨bm,ob,b1,b2,base_of b3 (Classical.byContradiction fun q=>by have e':bm=a:=hA bm q;rw[e',ha] at b3;cases b3;exact absurd (Value.type.inj b4) (by decide)),b4,b5⟩),⟨mb,nsK hb,hbb⟩,let ⟨mc,h1,h2⟩:=hlim;⟨mc,nsK h1,h2⟩⟩
  have e0:Env0 P w K mg (Hn s₁.heap H) callerA [] s₁ H:=⟨rfl,hM,fun b o e=>Ro e,Nat.le_of_eq (No _ _),trivial,fun b hb=>absurd (show b∈([]:List Addr) from hb) (by simp),hok,.of_eq hg⟩
  refine codeAny_mono ((F _ hKb (nsK hns)).run callerA [] s₁ H ⟨[.ref a],[]⟩ [.ref a] [.ref a] _ _ hr e0 (hbind s₁ (.ref a)) (.cons rfl .nil) (hsp H hO hS)) fun r s' h=>?_
  cases r with
  |error e=>exact(hCX H e s' h).elim
  |ok fl=>
   cases fl with
   |next=>exact False.elim h
   |brk=>exact False.elim h
   |cont=>exact False.elim h
   |ret u=>
    obtain⟨v,H',os,bare,un,hok',r',q⟩:=h
    have q':v=.bl true:=q
    subst q'
    obtain rfl:u=Value.bool true:=r'
    refine⟨rfl,OldK.of_keep fun b o e=>?_,os,bare⟩
    cases q:H b with
    |none=>exact un.keep b o e q (by intro z;exact absurd (show b∈([]:List Addr) from z) (by simp)) (by simp)
    |some u=>
     rcases hO b with z|⟨ob,xs,z⟩
     ·rw[q] at z;cases z
     ·have z2:=un.frzs b ob _ z
      obtain⟨e1,_⟩:=hok b _ z
      obtain⟨e2,_⟩:=hok' b _ z2
      rw[e] at e1;cases e1
      exact e2
 cases hk:K.lookup a with
 |some o=>
  -- the script is one of the module's own objects
  have e:=KX a o hk
  rw[ha] at e
  cases e
  refine core (fun _=>none) (fun _=>.inl rfl) (.inr ⟨_,vs.toArray,_,hk,rfl,rfl,rfl,by rw[List.size_toArray,lenV];exact hl,by simpa using rv⟩) (fun b u z=>by have z':(none:Option HO)=some u:=z;cases z') (fun b z=>absurd rfl z) fun z=>absurd rfl z
 |none=>
  refine core (fun b=>if b=a then some (.frz { cls:=.type "list",data:=.seq vs.toArray } (.lst (ns.map V.int))) else none) (fun b=>?_) (.inl (.inr ⟨{ cls:=.type "list",data:=.seq vs.toArray },if_pos rfl⟩)) (fun b u z=>?_) (fun b z=>?_) fun _=>hk
  ·by_cases hb:b=a
   ·exact .inr ⟨_,_,if_pos hb⟩
   ·exact .inl (if_neg hb)
  ·by_cases hb:b=a
   ·have z':=(if_pos hb).symm.trans z
    cases z'
    subst hb
    exact⟨ha,by rw[List.length_map];exact hl,vs,_,rv,ha⟩
   ·have z':=(if_neg hb).symm.trans z
    cases z'
  ·by_cases hb:b=a
   ·exact hb
   ·exact absurd (if_neg hb) z
end L2
namespace L2
open PySem PySem.Spec PyProof.Rows
abbrev KOf{K:W.Frag}{h:Heap}(_:K.In h):PySem.W.Frag:=K

theorem Qs{l:PySem.W.OpenLaw}{n k:Nat}{q:Program}{loose:List Str}{XP:(Str→Option Value)→Heap→Prop}{YP:World→Heap→Prop}{d:DefRec}{K:Params→PySem.W.Frag}{CX:World→CXT}{sp:World→Sp}{x:Str}(hi:importsNone q=true)(hn:l.most=some n)(hn2:n≤sizeLine)(hdf:d.params.defaults=[])(hr:Room k callerA)(hY:∀(w:World) (h:Heap),YP w h→(K w.params).In h)(F:∀(w:World) (mg:Str→Option Value) (fa:Addr) (h:Heap),(K w.params).In h→h.Ns mainGlobals mg→mg d.name=some (.ref fa)→
   ∃fd:FuncData,(∀(s:Shared) (u:Value),BindsTo s fd ⟨[u],[]⟩ [(x,u)])∧
    ∀base:Heap,(K w.params).In base→base.Ns mainGlobals mg→FnOk l.prog w (K w.params) mg base (CX w) k fa fd [x] (sp w))(hsp:∀(w:World) (H:Hp) (a:Addr) (ns:List Int),ns.length≤n→N7 H→SqL (K w.params) H a (ns.map V.int)→sp w [.ref a] H (fun v _=>v=.bl true) fun _ _ _=>False)(hCX:∀(w:World) (H:Hp) (s:Shared) (e:Value) (s':Shared),CX w [] H s (fun _ _ _=>False) e s'→False) :
  PySem.W.WalkO q loose XP YP l.row.toRowW d [] (fun f vs=>PySem.call f vs):=by
 refine Att.attach_call hn hdf fun w s₀ s₁ mg mb fa o pm cd doc a vs ns G Y ho hd hcd hmg hobj hints hlen hg=>?_
 have KX:=hY w _ Y
 obtain⟨fd,hb,hF⟩:=F w mg fa _ KX G.T.g hmg
 exact P3 KX G.T.g G.T.b G.T.builtins G.T.nolimit (let ⟨mm,h1,_⟩:=(G.T.seer hi).mods;⟨mm,h1⟩) G.T.bmain hg hobj hints (Nat.le_trans hlen hn2) hr hF hb (fun H hO hS=>hsp w H a ns hlen hO hS) fun H e s'=>hCX w H s₁ e s'
theorem O4{l:PySem.W.OpenLaw}{n k:Nat}{q:Program}{loose:List Str}{XP:(Str→Option Value)→Heap→Prop}{YP:World→Heap→Prop}{d:DefRec}{K:Params→PySem.W.Frag}{CX:CXT}{sp:PySem.W.Frag→Sp}{x:Str}(hi:importsNone q=true)(hn:l.most=some n)(hn2:n≤sizeLine)(hdf:d.params.defaults=[])(hr:Room k callerA)(hY:∀(w:World) (h:Heap),YP w h→(K w.params).In h)(F:∀(w:World) (mg:Str→Option Value) (fa:Addr) (h:Heap),(K w.params).In h→h.Ns mainGlobals mg→mg d.name=some (.ref fa)→
   ∃fd:FuncData,(∀(s:Shared) (u:Value),BindsTo s fd ⟨[u],[]⟩ [(x,u)])∧
    ∀base:Heap,(K w.params).In base→base.Ns mainGlobals mg→FnOk l.prog w (K w.params) mg base CX k fa fd [x] (sp (K w.params)))(hsp:∀(K:PySem.W.Frag) (H:Hp) (a:Addr) (ns:List Int),ns.length≤n→N7 H→SqL K H a (ns.map V.int)→sp K [.ref a] H (fun v _=>v=.bl true) fun _ _ _=>False)(hCX:∀(H:Hp) (s:Shared) (e:Value) (s':Shared),CX [] H s (fun _ _ _=>False) e s'→False) :
  PySem.W.WalkO q loose XP YP l.row.toRowW d [] (fun f vs=>PySem.call f vs):=
 Qs (K:=K) (CX:=fun _=>CX) (sp:=fun w=>sp (K w.params)) hi hn hn2 hdf hr hY F (fun w H a ns h1 h2 h3=>hsp (K w.params) H a ns h1 h2 h3) fun _ H s e s'=>hCX H s e s'
end L2
namespace L2
open PySem PySem.Spec PyProof.Rows
def D7(s:Stmt):Arguments:=match s with
 |.FunctionDef _ a _ _ _ _ _ _ _ _=>a
 |_=>{ posonlyargs:=[],args:=[],vararg:=none,kwonlyargs:=[],kw_defaults:=[],kwarg:=none,defaults:=[] }
def C2(s:Stmt):List Stmt:=match s with
 |.FunctionDef _ _ b _ _ _ _ _ _ _=>b
 |_=>[]
def Ah(s:Stmt):Scope:=match s with
 |.FunctionDef _ _ _ _ _ _ sc _ _ _=>sc
 |_=>{ kind:=.function,names:=[],isGenerator:=false,isCoroutine:=false }

abbrev CX0:CXT:=fun _ _ _ _ _ _=>False
structure Fun(K:PySem.W.Frag)(x qual:Str)(st:Stmt)(f:Addr)(fd:FuncData):Prop where
 ex:∃(oc:Value) (od:Option Addr) (kV doc pm:Value) (an:Option Addr) (cdv ct:Value) (osl:Array (Option Value)),
  fd=PySem.W.fnOf x qual (D7 st) (C2 st) (Ah st) .none kV doc pm an cdv ct∧K.lookup f=some ⟨oc,od,.func fd,osl⟩∧PySem.W.codeIn K cdv qual=true
 kp:PySem.W.keepIn K (.ref f)=true
section
variable{P:Program}{w:World}{K:W.Frag}{mg:Str→Option Value}{base:Heap}
theorem Fun.ok{x qual:Str}{st:Stmt}{f:Addr}{fd:FuncData}{N ps:List Str}{k:Nat}{sp:Sp}(F:Fun K x qual st f fd)(S:FnScope N ps (Ah st))(len:∀vs H Q E,sp vs H Q E→vs.length=ps.length)(hbody:∀(cdv:Value) (A:Around) (outer:List Env) (s:Shared) (H:Hp) (vs:List V) (Q:VK) (E:XK),Room k (A.deeper (envOfC qual (Ah st) s.heap.objs.size f cdv))→sp vs H Q E→
   ∃t,PSs (Kp CX0 P w K mg base N qual (Ah st) f cdv A outer s H E).nox (C2 st) t∧t { nx:=fun _ H'=>Q .non H',rt:=Q } (start N vs) H):FnOk P w K mg base CX0 (k+1) f fd ps sp:=by
 obtain⟨oc,od,kV,doc,pm,an,cdv,ct,osl,rfl,lk,hcd⟩:=F.ex
 refine V2 lk hcd S len fun A outer s H vs Q E hr hsp=>?_
 obtain⟨t,h,q⟩:=hbody cdv A outer s H vs Q E hr hsp
 exact⟨t,h.nox,q⟩
theorem Fun.binds{x qual:Str}{st:Stmt}{f:Addr}{fd:FuncData}{ps:List Str}(F:Fun K x qual st f fd)(h:∀(kV doc pm:Value) (an:Option Addr) (cdv ct:Value) (us:List Value),us.length=ps.length→bindArgs (PySem.W.fnOf x qual (D7 st) (C2 st) (Ah st) .none kV doc pm an cdv ct) ⟨us,[]⟩=pure (ps.zip us)):Binds K fd ps []:=by
 obtain⟨oc,od,kV,doc,pm,an,cdv,ct,osl,rfl,lk,hcd⟩:=F.ex
 exact .all (h kV doc pm an cdv ct)
theorem Uw{x qual:Str}{st:Stmt}{f:Addr}{oc:Value}{od an:Option Addr}{osl:Array (Option Value)}{kV doc pm cdv ct:Value}(l:K.lookup f=some ⟨oc,od,.func (PySem.W.fnOf x qual (D7 st) (C2 st) (Ah st) .none kV doc pm an cdv ct),osl⟩)(c:PySem.W.codeIn K cdv qual=true)(k:PySem.W.keepIn K (.ref f)=true):Fun K x qual st f (PySem.W.fnOf x qual (D7 st) (C2 st) (Ah st) .none kV doc pm an cdv ct):=⟨⟨oc,od,kV,doc,pm,an,cdv,ct,osl,rfl,l,c⟩,k⟩
end
theorem Mw{n:Nat}(h:n≤1000):n<sizeLine:=Nat.lt_of_le_of_lt h (by decide)

section
variable{X:Cx}
end
def Same(H H':Hp):Prop:=∀b o,H b=some o→H' b=some o
theorem Same.trans{H H1 H2:Hp}(a:Same H H1)(b:Same H1 H2):Same H H2:=fun c o h=>b c o (a c o h)
theorem Same.free{H H':Hp}(e:Same H H'){l:Addr}(h:H' l=Option.none):H l=Option.none:=by
 cases q:H l with
 |none=>rfl
 |some o=>
  rw[e l o q] at h
  cases h
section
variable{X:Cx}
end
section
variable{κ:Type}[DecidableEq κ]
end
end L2
namespace D3
open PySem PySem.Spec
open PyProof.Rows hiding St
open L2 hiding St
inductive D where
 |non|bl (b:Bool)|int (i:Int)|str (x:Str)|tup (ds:List D)|ref (a:Addr)|ty (n:String)|lint (ns:List Int)
 deriving Inhabited

def RdI(K:PySem.W.Frag)(H:Hp)(a:Addr)(xs:List V):Prop:=(∃o,H a=some (.frz o (.lst xs)))∨
 ∃(o:Obj) (its:Array Value) (n:Nat),K.lookup a=some o∧o.cls=.type "list"∧o.dict=none∧o.data=.seq its n∧its.size≤sizeLine∧Vals xs its.toList
theorem RdI.sq{K:W.Frag}{H:Hp}{a:Addr}{xs:List V}(h:RdI K H a xs):SqL K H a xs:=h.elim (fun⟨o,e⟩=>.inl (.inr ⟨o,e⟩)) .inr
mutual
inductive DV (K:PySem.W.Frag) (H:Hp):D→V→Prop where
 |non:DV K H .non .non
 |bl (b:Bool):DV K H (.bl b) (.bl b)
 |int (i:Int):DV K H (.int i) (.int i)
 |str (x:Str):DV K H (.str x) (.str x)
 |ref (a:Addr):DV K H (.ref a) (.ref a)
 |ty (n:String):DV K H (.ty n) (.ty n)
 |lint {ns:List Int} {a:Addr} (e:RdI K H a (ns.map V.int)):DV K H (.lint ns) (.ref a)
 |tup {ds:List D} {a:Addr} {xs:List V} (e:H a=some (.tup xs)) (r:DVs K H ds xs):DV K H (.tup ds) (.ref a)
inductive DVs (K:PySem.W.Frag) (H:Hp):List D→List V→Prop where
 |nil:DVs K H [] []
 |cons {d:D} {v:V} {ds:List D} {vs:List V} (h:DV K H d v) (t:DVs K H ds vs):DVs K H (d::ds) (v::vs)
end
structure Ext(H H':Hp):Prop where
 tup:∀b xs,H b=some (.tup xs)→H' b=some (.tup xs)
 frz:∀b o u,H b=some (.frz o u)→H' b=some (.frz o u)
theorem Ext.refl(H:Hp):Ext H H:=⟨fun _ _ h=>h,fun _ _ _ h=>h⟩
theorem Ext.trans{H H1 H2:Hp}(a:Ext H H1)(b:Ext H1 H2):Ext H H2:=⟨fun c xs h=>b.tup c xs (a.tup c xs h),fun c o u h=>b.frz c o u (a.frz c o u h)⟩
theorem Ext.fresh{H:Hp}{p:Addr}{o:HO}(h:H p=none):Ext H (upd H p o):=⟨fun b xs e=>by
 rw[Al (Aw e h)];exact e,fun b ob u e=>by rw[Al (Aw e h)];exact e⟩
theorem Ext.write{H:Hp}{p:Addr}{o u:HO}(h:H p=some u)(n:∀xs,u≠.tup xs)(m:∀ob w,u≠.frz ob w):Ext H (upd H p o):=⟨fun b xs e=>by
 rw[Al (Lr e h fun z=>n xs z.symm)];exact e,fun b ob w e=>by rw[Al (Lr e h fun z=>m ob w z.symm)];exact e⟩
theorem RdI.ext{K:W.Frag}{H H':Hp}{a:Addr}{xs:List V}(h:RdI K H a xs)(x:Ext H H'):RdI K H' a xs:=h.elim (fun⟨o,e⟩=>.inl ⟨o,x.frz _ _ _ e⟩) .inr
section
variable{K:W.Frag}
mutual
theorem DV.ext{H H':Hp}(x:Ext H H'):∀{d:D} {v:V},DV K H d v→DV K H' d v
 |_,_,.non=>.non
 |_,_,.bl b=>.bl b
 |_,_,.int i=>.int i
 |_,_,.str s=>.str s
 |_,_,.ref a=>.ref a
 |_,_,.ty n=>.ty n
 |_,_,.lint e=>.lint (e.ext x)
 |_,_,.tup e r=>.tup (x.tup _ _ e) (DVs.ext x r)
theorem DVs.ext{H H':Hp}(x:Ext H H'):∀{ds:List D} {vs:List V},DVs K H ds vs→DVs K H' ds vs
 |_,_,.nil=>.nil
 |_,_,.cons h t=>.cons (DV.ext x h) (DVs.ext x t)
end
theorem DVs.length{H:Hp}:∀{ds:List D} {vs:List V},DVs K H ds vs→ds.length=vs.length
 |_,_,.nil=>rfl
 |_,_,.cons _ t=>congrArg (· + 1) t.length
theorem DVs.get{H:Hp}:∀{ds:List D} {vs:List V} {i:Nat} {d:D},DVs K H ds vs→ds[i]? = some d→∃v,vs[i]? = some v∧DV K H d v
 |_,_,_,_,.nil,e=>by simp at e
 |_,_,0,_,.cons h _,e=>by simp at e;subst e;exact⟨_,rfl,h⟩
 |_,_,i+1,d,.cons _ t,e=>by
  obtain⟨v,h1,h2⟩:=DVs.get (i:=i) (d:=d) t (by simpa using e)
  exact⟨v,by simpa using h1,h2⟩
theorem DVs.get'{H:Hp}:∀{ds:List D} {vs:List V} {i:Nat} {v:V},DVs K H ds vs→vs[i]? = some v→∃d,ds[i]? = some d∧DV K H d v
 |_,_,_,_,.nil,e=>by simp at e
 |_,_,0,_,.cons h _,e=>by simp at e;subst e;exact⟨_,rfl,h⟩
 |_,_,i+1,d,.cons _ t,e=>by
  obtain⟨v,h1,h2⟩:=DVs.get' (i:=i) (v:=d) t (by simpa using e)
  exact⟨v,by simpa using h1,h2⟩
theorem DVs.append{H:Hp}:∀{ds es:List D} {vs ws:List V},DVs K H ds vs→DVs K H es ws→DVs K H (ds++es) (vs++ws)
 |_,_,_,_,.nil,s=>s
 |_,_,_,_,.cons h t,s=>.cons h (t.append s)
theorem DVs.set{H:Hp}{d:D}{v:V}(r:DV K H d v):∀{ds:List D} {vs:List V} (i:Nat),DVs K H ds vs→DVs K H (ds.set i d) (vs.set i v)
 |_,_,_,.nil=>.nil
 |_,_,0,.cons _ t=>.cons r t
 |_,_,i+1,.cons h t=>.cons h (DVs.set r i t)
theorem DVs.ints{H:Hp}:∀{ns:List Int},DVs K H (ns.map D.int) (ns.map V.int)
 |[]=>.nil
 |_::_=>.cons (.int _) DVs.ints
theorem DVs.one{H:Hp}{d:D}{vs:List V}(r:DVs K H [d] vs):∃v,vs=[v]∧DV K H d v:=by
 cases r with|cons h t=>cases t;exact⟨_,rfl,h⟩
theorem DVs.two{H:Hp}{d e:D}{vs:List V}(r:DVs K H [d,e] vs):∃v w,vs=[v,w]∧DV K H d v∧DV K H e w:=by
 cases r with|cons h t=>cases t with|cons h' t'=>cases t';exact⟨_,_,rfl,h,h'⟩

end
inductive GO where
 |lst (ds:List D)
 |dct (kvs:List (List Key×D))
 |dkk (kvs:List (Key×D))
 /-- an instance of the class at C,its attributes -/
 |ins (C:Addr) (fs:List (Str×D))
 /-- the codes that were made within a def;q: how they are called -/
 |tbl (q:Str)
abbrev Gp:=Addr→Option GO
def Ae(G:Gp)(a:Addr)(o:GO):Gp:=fun b=>if b=a then some o else G b
theorem Aa{G:Gp}{a:Addr}{o:GO}:Ae G a o a=some o:=if_pos rfl
theorem Am{G:Gp}{a b:Addr}{o:GO}(h:b≠a):Ae G a o b=G b:=if_neg h
theorem A6{G:Gp}{a:Addr}{o u:GO}:Ae (Ae G a o) a u=Ae G a u:=by
 funext b;unfold Ae;split<;>rfl
theorem En{G:Gp}{a b:Addr}{o u:GO}(h:a≠b):Ae (Ae G a o) b u=Ae (Ae G b u) a o:=by
 funext c;unfold Ae
 by_cases h1:c=b
 ·by_cases h2:c=a
  ·exact absurd (h2.symm.trans h1) h
  ·simp[h1,Ne.symm h]
 ·by_cases h2:c=a<;>simp[h1,h2,h]
theorem Gk{G:Gp}{a:Addr}{o:GO}(h:G a=some o):Ae G a o=G:=by
 funext b;unfold Ae
 by_cases h1:b=a
 ·subst h1;rw[if_pos rfl,h]
 ·rw[if_neg h1]
theorem gne{G:Gp}{a b:Addr}{o:GO}(h:G a=some o)(h':G b=none):a≠b:=by
 intro e;subst e;rw[h] at h';cases h'

def U4(o:Obj)(q:Str):Prop:=∃vs t,o.data=.fields vs∧vs[1]? = some (.str q t)
def GOk(K:PySem.W.Frag)(H:Hp)(a:Addr):GO→Prop
 |.lst ds=>∃xs,H a=some (.lst xs)∧DVs K H ds xs
 |.dct kvs=>∃ks,H a=some (.dT ks)∧Paired (fun(p:List Key×D) (q:List Key×V)=>p.1=q.1∧DV K H p.2 q.2) kvs ks
 |.dkk kvs=>∃ks,H a=some (.dK ks)∧Paired (fun(p:Key×D) (q:Key×V)=>p.1=q.1∧DV K H p.2 q.2) kvs ks
 |.ins C fs=>∃dx ks,H a=some (.ins C dx ks)∧Paired (fun(p:Str×D) (q:Str×V)=>p.1=q.1∧DV K H p.2 q.2) fs ks
 |.tbl q=>∃ps,H a=some (.tbl ps)∧TriplesOk ps.toList∧∀pos cv,codeAmong pos ps.toList=some cv→∃c o u,cv=.ref c∧H c=some (.frz o u)∧U4 o q
def RelG(K:PySem.W.Frag)(H:Hp)(G:Gp):Prop:=∀a o,G a=some o→GOk K H a o

theorem GOk.upd{K:W.Frag}{H:Hp}{a p:Addr}{o:GO}{u:HO}(h:GOk K H a o)(x:Ext H (L2.upd H p u))(n:H p=none∨a≠p):GOk K (L2.upd H p u) a o:=by
 have ne:∀u,H a=some u→a≠p:=fun u e=>n.elim (fun z=>Aw e z) id
 cases o with
 |lst ds=>obtain⟨xs,e,r⟩:=h;exact⟨xs,by rw[Al (ne _ e)];exact e,r.ext x⟩
 |dct kvs=>obtain⟨ks,e,r⟩:=h;exact⟨ks,by rw[Al (ne _ e)];exact e,L2.Paired.mapP r fun _ _ z=>⟨z.1,z.2.ext x⟩⟩
 |dkk kvs=>obtain⟨ks,e,r⟩:=h;exact⟨ks,by rw[Al (ne _ e)];exact e,L2.Paired.mapP r fun _ _ z=>⟨z.1,z.2.ext x⟩⟩
 |ins C fs=>obtain⟨dx,ks,e,r⟩:=h;exact⟨dx,ks,by rw[Al (ne _ e)];exact e,L2.Paired.mapP r fun _ _ z=>⟨z.1,z.2.ext x⟩⟩
 |tbl q=>obtain⟨ps,e,t,r⟩:=h;exact⟨ps,by rw[Al (ne _ e)];exact e,t,fun pos cv h1=>let ⟨c,o,u,a1,a2,a3⟩:=r pos cv h1;⟨c,o,u,a1,x.frz _ _ _ a2,a3⟩⟩
theorem RelG.free{K:W.Frag}{H:Hp}{G:Gp}(r:RelG K H G){p:Addr}(h:H p=none):G p=none:=by
 cases q:G p with
 |none=>rfl
 |some o=>
  have z:=r p o q
  cases o with
  |lst ds=>obtain⟨_,e,_⟩:=z;rw[h] at e;cases e
  |dct ds=>obtain⟨_,e,_⟩:=z;rw[h] at e;cases e
  |dkk ds=>obtain⟨_,e,_⟩:=z;rw[h] at e;cases e
  |ins C fs=>obtain⟨_,_,e,_⟩:=z;rw[h] at e;cases e
  |tbl q=>obtain⟨_,e,_⟩:=z;rw[h] at e;cases e
theorem RelG.tup{K:W.Frag}{H:Hp}{G:Gp}(r:RelG K H G){p:Addr}{u:HO}(h:H p=none):RelG K (upd H p u) G:=fun a o e=>(r a o e).upd (Ext.fresh h) (.inl h)
theorem RelG.ext'{K:W.Frag}{H:Hp}{G G':Gp}(r:RelG K H G)(s:∀a o,G' a=some o→G a=some o):RelG K H G':=fun a o e=>r a o (s a o e)

abbrev DSt:=List (Option D)
abbrev St:=L2.St
def RelS(K:PySem.W.Frag)(H:Hp)(σD:DSt)(σ:St):Prop:=σD.length=σ.length∧∀(i:Nat) d,σD[i]? = some (some d)→∃v,σ[i]? = some (some v)∧DV K H d v
theorem RelS.ext{K:W.Frag}{H H':Hp}{σD:DSt}{σ:St}(r:RelS K H σD σ)(x:Ext H H'):RelS K H' σD σ:=⟨r.1,fun i d e=>let ⟨v,h1,h2⟩:=r.2 i d e;⟨v,h1,h2.ext x⟩⟩
theorem RelS.set{K:W.Frag}{H:Hp}{σD:DSt}{σ:St}(r:RelS K H σD σ){d:D}{v:V}(h:DV K H d v)(i:Nat):RelS K H (σD.set i (some d)) (σ.set i (some v)):=by
 refine⟨by rw[List.length_set,List.length_set];exact r.1,fun j e q=>?_⟩
 by_cases hj:i=j
 ·subst hj
  rw[List.getElem?_set] at q ⊢
  rw[if_pos rfl] at q ⊢
  have hl:=r.1
  split at q
  ·rename_i hi
   cases q
   exact⟨v,by rw[if_pos (by omega)],h⟩
  ·cases q
 ·rw[List.getElem?_set_ne hj] at q ⊢
  exact r.2 j e q

abbrev DK:=D→Gp→Prop
abbrev DTE:=DSt→Gp→DK→Prop
abbrev DTT:=DSt→Gp→(Bool→Gp→Prop)→Prop
abbrev DTA:=DSt→Gp→(List D→Gp→Prop)→Prop
structure DEnds where
 nx:DSt→Gp→Prop
 rt:DK
 bk:DSt→Gp→Prop:=fun _ _=>False
 ct:DSt→Gp→Prop:=fun _ _=>False
abbrev DTS:=DEnds→DSt→Gp→Prop

def Fwd(K:PySem.W.Frag)(H:Hp)(G':Gp)(Q:Hp→Prop):Prop:=∀H',Ext H H'→RelG K H' G'→Q H'
theorem Fwd.go{K:W.Frag}{H H1:Hp}{G':Gp}{Q:Hp→Prop}(f:Fwd K H G' Q)(x:Ext H H1):Fwd K H1 G' Q:=fun H' y r=>f H' (x.trans y) r

def Cm(K:PySem.W.Frag)(t:DTE):TE:=fun σ H Q=>∃σD G Q',RelS K H σD σ∧RelG K H G∧t σD G Q'∧∀d G',Q' d G'→Fwd K H G' fun H'=>∀v,DV K H' d v→Q v H'
def Gd(K:PySem.W.Frag)(t:DTT):TT:=fun σ H Q=>∃σD G Q',RelS K H σD σ∧RelG K H G∧t σD G Q'∧∀b G',Q' b G'→Fwd K H G' fun H'=>Q b H'
def Sl(K:PySem.W.Frag)(t:DTA):TA:=fun σ H Q=>∃σD G Q',RelS K H σD σ∧RelG K H G∧t σD G Q'∧∀ds G',Q' ds G'→Fwd K H G' fun H'=>∀vs,DVs K H' ds vs→Q vs H'
structure DEnds.Reach(K:PySem.W.Frag)(H:Hp)(D:DEnds)(E:Ends):Prop where
 nx:∀σD G',D.nx σD G'→Fwd K H G' fun H'=>∀σ,RelS K H' σD σ→E.nx σ H'
 rt:∀d G',D.rt d G'→Fwd K H G' fun H'=>∀v,DV K H' d v→E.rt v H'
 bk:∀σD G',D.bk σD G'→Fwd K H G' fun H'=>∀σ,RelS K H' σD σ→E.bk σ H'
 ct:∀σD G',D.ct σD G'→Fwd K H G' fun H'=>∀σ,RelS K H' σD σ→E.ct σ H'
theorem DEnds.Reach.go{K:W.Frag}{H H1:Hp}{D:DEnds}{E:Ends}(r:D.Reach K H E)(x:Ext H H1):D.Reach K H1 E:=
 ⟨fun σ G h=>(r.nx σ G h).go x,fun d G h=>(r.rt d G h).go x,fun σ G h=>(r.bk σ G h).go x,fun σ G h=>(r.ct σ G h).go x⟩
def Fd(K:PySem.W.Frag)(t:DTS):TS:=fun E σ H=>∃σD G D,RelS K H σD σ∧RelG K H G∧t D σD G∧D.Reach K H E

def QE(X:Cx)(e:Expr)(t:DTE):Prop:=PE X e (Cm X.K t)
def QT(X:Cx)(e:Expr)(t:DTT):Prop:=PT X e (Gd X.K t)
def QW(X:Cx)(e:Expr)(t:DTT):Prop:=PW X e (Gd X.K t)
def QA(X:Cx)(es:List Expr)(t:DTA):Prop:=PA X es (Sl X.K t)
def QS(X:Cx)(s:Stmt)(t:DTS):Prop:=PS X s (Fd X.K t)
def QSs(X:Cx)(s:List Stmt)(t:DTS):Prop:=PSs X s (Fd X.K t)

theorem _root_.L2.PE.imp{X:Cx}{e:Expr}{t t':TE}(h:PE X e t)(f:∀σ H Q,t' σ H Q→t σ H Q):PE X e t':=fun pins s σ H Q I q=>h pins s σ H Q I (f σ H Q q)
theorem _root_.L2.PT.imp{X:Cx}{e:Expr}{t t':TT}(h:PT X e t)(f:∀σ H Q,t' σ H Q→t σ H Q):PT X e t':=fun pins s σ H Q I q=>h pins s σ H Q I (f σ H Q q)
theorem _root_.L2.PW.imp{X:Cx}{e:Expr}{t t':TT}(h:PW X e t)(f:∀σ H Q,t' σ H Q→t σ H Q):PW X e t':=fun w pins s σ H Q I q=>h w pins s σ H Q I (f σ H Q q)
theorem _root_.L2.PA.imp{X:Cx}{e:List Expr}{t t':TA}(h:PA X e t)(f:∀σ H Q,t' σ H Q→t σ H Q):PA X e t':=fun p pins s σ H Q I q=>h p pins s σ H Q I (f σ H Q q)
theorem _root_.L2.PS.imp{X:Cx}{e:Stmt}{t t':TS}(h:PS X e t)(f:∀D σ H,t' D σ H→t D σ H):PS X e t':=fun pins s σ H D I q=>h pins s σ H D I (f D σ H q)
theorem _root_.L2.PSs.imp{X:Cx}{e:List Stmt}{t t':TS}(h:PSs X e t)(f:∀D σ H,t' D σ H→t D σ H):PSs X e t':=fun pins s σ H D I q=>h pins s σ H D I (f D σ H q)

section
variable{X:Cx}{a b c e:Expr}{ta tb tc te:DTE}{pos:Pos}
def Au(i:Nat):DTE:=fun σ G Q=>∃d,σ[i]? = some (some d)∧Q d G
def nC(d:D):DTE:=fun _ G Q=>Q d G
theorem Se{i:Nat}{x:Str}(hN:X.N[i]? = some x:=by rfl)(hv:Vis X.env.scope x:=by first|exact Or.inl rfl|exact Or.inr (Or.inl rfl)|exact Or.inr (Or.inr rfl))(hd:(x == ("__debug__" : Str))=false:=by decide)(hcd:(x == ("__classdict__" : Str))=false:=by decide):QE X (.Name x pos) (Au i):=(Tz hN hv hd hcd).imp fun σ H Q ⟨σD,G,Q',rs,rg,⟨d,e,q⟩,cl⟩=>by
 obtain⟨v,e1,r⟩:=rs.2 i d e
 exact⟨v,e1,cl d G q H (Ext.refl H) rg v r⟩
theorem Jc{v:V}{d:D}(h:PE X e (tC v))(r:∀H,DV X.K H d v):QE X e (nC d):=h.imp fun σ H Q ⟨σD,G,Q',rs,rg,q,cl⟩=>cl d G q H (Ext.refl H) rg v (r H)
theorem Ad{i j pos}:QE X (.Constant (.int i) j pos) (nC (.int i)):=Jc T5 fun _=>.int i
theorem q_bl{b j pos}:QE X (.Constant (.bool b) j pos) (nC (.bl b)):=Jc Vt fun _=>.bl b
theorem Vo{j pos}:QE X (.Constant .none j pos) (nC .non):=Jc T3 fun _=>.non
theorem Tl{x:Str}{i:Int}{t:Tok}(hm:X.mg x=some (.int i t))(hg:Gl X x:=by rfl)(hd:(x == ("__debug__" : Str))=false:=by decide):QE X (.Name x pos) (nC (.int i)):=Jc (v:=.int i) (Rb hg hm ⟨t,rfl⟩ hd) fun _=>.int i
theorem q_globty{x:Str}{n:String}(hm:X.mg x=none)(hv:bootBuiltins x=some (.type n))(hg:Gl X x:=by rfl)(hn:x≠"__name__":=by decide)(hd:(x == ("__debug__" : Str))=false:=by decide):QE X (.Name x pos) (nC (.ty n)):=
 Jc (v:=.ty n) (Rf hg hm hv rfl hn hd) fun _=>.ty n

abbrev DR2:=D→D→Gp→DK→Prop
def Ge(K:PySem.W.Frag)(r:DR2):R2:=fun x y H Q=>∃dx dy G Q',DV K H dx x∧DV K H dy y∧RelG K H G∧r dx dy G Q'∧∀d G',Q' d G'→Fwd K H G' fun H'=>∀v,DV K H' d v→Q v H'
def QOp(X:Cx)(f:Value→Value→Sem Value)(r:DR2):Prop:=OpR X f (Ge X.K r)
theorem _root_.L2.OpR.imp{f:Value→Value→Sem Value}{r r':R2}(h:OpR X f r)(g:∀x y H Q,r' x y H Q→r x y H Q):OpR X f r':=fun pins s σ H x y v u Q I rx ry q=>h pins s σ H x y v u Q I rx ry (g x y H Q q)
def nOp(r:DR2)(ta tb:DTE):DTE:=fun σ G Q=>ta σ G fun x G1=>tb σ G1 fun y G2=>r x y G2 Q
theorem E8{K:W.Frag}{r:DR2}{σ:St}{H:Hp}{Q:VK}(h:Cm K (nOp r ta tb) σ H Q):tOp (Ge K r) (Cm K ta) (Cm K tb) σ H Q:=by
 obtain⟨σD,G,Q',rs,rg,h,cl⟩:=h
 refine⟨σD,G,_,rs,rg,h,fun x G1 h1 H1 x1 rg1 v1 d1=>?_⟩
 refine⟨σD,G1,_,rs.ext x1,rg1,h1,fun y G2 h2 H2 x2 rg2 v2 d2=>?_⟩
 exact⟨x,y,G2,Q',d1.ext x2,d2,rg2,h2,fun d G' q=>(cl d G' q).go (x1.trans x2)⟩
theorem Az{op:Operator}{r:DR2}(ho:QOp X (binaryOp op) r)(ha:QE X a ta)(hb:QE X b tb):QE X (.BinOp a op b pos) (nOp r ta tb):=(Vq ho ha hb).imp fun _ _ _ h=>E8 h
def dI(C:Int→Int→Prop)(g:Int→Int→D):DR2:=fun x y G Q=>∃i,x=.int i∧∃j,y=.int j∧C i j∧Q (g i j) G
def dI0(g:Int→Int→D):DR2:=fun x y G Q=>∃i,x=.int i∧∃j,y=.int j∧Q (g i j) G
theorem N9{f:Value→Value→Sem Value}{C:Int→Int→Prop}{g:Int→Int→V}{g':Int→Int→D}(h:OpR X f (rI C g))(e:∀H i j,DV X.K H (g' i j) (g i j)):QOp X f (dI C g'):=L2.OpR.imp h fun x y H Q ⟨dx,dy,G,Q',hx,hy,rg,⟨i,ei,j,ej,c,q⟩,cl⟩=>by
 subst ei ej
 cases hx;cases hy
 exact⟨i,j,rfl,rfl,c,cl _ G q H (Ext.refl H) rg _ (e H i j)⟩
theorem Hr{f:Value→Value→Sem Value}{g:Int→Int→V}{g':Int→Int→D}(h:OpR X f (rI0 g))(e:∀H i j,DV X.K H (g' i j) (g i j)):QOp X f (dI0 g'):=L2.OpR.imp h fun x y H Q ⟨dx,dy,G,Q',hx,hy,rg,⟨i,ei,j,ej,q⟩,cl⟩=>by
 subst ei ej
 cases hx;cases hy
 exact⟨i,j,rfl,rfl,cl _ G q H (Ext.refl H) rg _ (e H i j)⟩
theorem Fc:QOp X (binaryOp .Sub) (dI0 fun i j=>.int (i-j)):=Hr T7 fun _ _ _=>.int _
theorem D4:QOp X (binaryOp .Mult) (dI CMul fun i j=>.int (i*j)):=N9 T8 fun _ _ _=>.int _
theorem Oy:QOp X (binaryOp .FloorDiv) (dI Kq fun i j=>.int (i / j)):=N9 Ri fun _ _ _=>.int _
theorem Ds:QOp X (binaryOp .Mod) (dI (fun _ j=>0<j) fun i j=>.int (i % j)):=N9 T9 fun _ _ _=>.int _
theorem Qm:QOp X (compareOp .Lt) (dI0 fun i j=>.bl (decide (i<j))):=Hr Vv fun _ _ _=>.bl _
theorem o_le:QOp X (compareOp .LtE) (dI0 fun i j=>.bl (decide (i≤j))):=Hr Vw fun _ _ _=>.bl _
theorem Vb:QOp X (compareOp .Gt) (dI0 fun i j=>.bl (decide (j<i))):=Hr Vx fun _ _ _=>.bl _
end
end D3
namespace D3
open PySem PySem.Spec
open PyProof.Rows hiding St
open L2 hiding St
section
variable{K:W.Frag}
theorem RelG.lst{H:Hp}{G:Gp}(r:RelG K H G){p:Addr}{ds:List D}{xs:List V}(hp:H p=none)(rv:DVs K H ds xs):RelG K (upd H p (.lst xs)) (Ae G p (.lst ds)):=fun a o e=>by
 by_cases h:a=p
 ·subst h
  rw[Aa] at e;cases e
  exact⟨xs,A4,rv.ext (Ext.fresh hp)⟩
 ·rw[Am h] at e
  exact(r a o e).upd (Ext.fresh hp) (.inl hp)
theorem Dk{H:Hp}{p:Addr}{xs:List V}{o:HO}(h:H p=some (.lst xs)):Ext H (upd H p o):=Ext.write h (fun _ z=>nomatch z) fun _ _ z=>nomatch z
theorem RelG.lstw{H:Hp}{G:Gp}(r:RelG K H G){p:Addr}{ds:List D}{xs ys:List V}(hp:H p=some (.lst ys))(rv:DVs K H ds xs):RelG K (upd H p (.lst xs)) (Ae G p (.lst ds)):=fun a o e=>by
 by_cases h:a=p
 ·subst h
  rw[Aa] at e;cases e
  exact⟨xs,A4,rv.ext (Dk hp)⟩
 ·rw[Am h] at e
  exact(r a o e).upd (Dk hp) (.inr h)
end
section
variable{X:Cx}{a b c e:Expr}{ta tb tc te:DTE}{pos:Pos}
def B6(t:DTE):DTT:=fun σ G Q=>t σ G fun x G'=>∃k,x=.bl k∧Q k G'
theorem Gw{K:W.Frag}{t:DTE}{σ:St}{H:Hp}{Q:Bool→Hp→Prop}(h:Gd K (B6 t) σ H Q):Cm K t σ H fun x H'=>∃k,x=.bl k∧Q k H':=by
 obtain⟨σD,G,Q',rs,rg,h,cl⟩:=h
 refine⟨σD,G,_,rs,rg,h,fun d G' ⟨k,ek,q⟩ H' x r v dv=>?_⟩
 subst ek;cases dv
 exact⟨k,rfl,cl k G' q H' x r⟩
theorem Sg{op:CmpOp}{r:DR2}(ho:QOp X (compareOp op) r)(ha:QE X a ta)(hb:QE X b tb)(hm:behindInMarks op b=false):QE X (.Compare a [op] [b] pos) (nOp r ta tb):=(Rc ho ha hb hm).imp fun _ _ _ h=>E8 h
theorem B7{op:CmpOp}{r:DR2}(ho:QOp X (compareOp op) r)(ha:QE X a ta)(hb:QE X b tb)(hm:behindInMarks op b=false):QT X (.Compare a [op] [b] pos) (B6 (nOp r ta tb)):=
 (Q7 ho ha hb hm).imp fun _ _ _ h=>E8 (Gw h)
def C9(r r':DR2)(ta tb tc:DTE):DTE:=fun σ G Q=>ta σ G fun x G1=>tb σ G1 fun y G2=>r x y G2 fun z G3=>∃k,z=.bl k∧
 (if k=true then tc σ G3 fun w' G4=>r' y w' G4 Q else Q (.bl false) G3)
theorem Fy{K:W.Frag}{r r':DR2}{σ:St}{H:Hp}{Q:VK}(h:Cm K (C9 r r' ta tb tc) σ H Q):Ks (Ge K r) (Ge K r') (Cm K ta) (Cm K tb) (Cm K tc) σ H Q:=by
 obtain⟨σD,G,Q',rs,rg,h,cl⟩:=h
 refine⟨σD,G,_,rs,rg,h,fun x G1 h1 H1 x1 rg1 v1 d1=>?_⟩
 refine⟨σD,G1,_,rs.ext x1,rg1,h1,fun y G2 h2 H2 x2 rg2 v2 d2=>?_⟩
 refine⟨x,y,G2,_,d1.ext x2,d2,rg2,h2,fun z G3 h3 H3 x3 rg3 v3 d3=>?_⟩
 obtain⟨k,ek,h3⟩:=h3
 subst ek;cases d3
 refine⟨k,rfl,?_⟩
 cases k with
 |true=>
  rw[if_pos rfl] at h3 ⊢
  refine⟨σD,G3,_,rs.ext (x1.trans (x2.trans x3)),rg3,h3,fun w4 G4 h4 H4 x4 rg4 v4 d4=>?_⟩
  exact⟨y,w4,G4,Q',d2.ext (x3.trans x4),d4,rg4,h4,fun d G' q=>(cl d G' q).go (x1.trans (x2.trans (x3.trans x4)))⟩
 |false=>
  rw[if_neg Bool.false_ne_true] at h3 ⊢
  exact cl _ G3 h3 H3 (x1.trans (x2.trans x3)) rg3 _ (.bl false)
theorem Q5{op op':CmpOp}{r r':DR2}(ho:QOp X (compareOp op) r)(ho':QOp X (compareOp op') r')(ha:QE X a ta)(hb:QE X b tb)(hc:QE X c tc)(hm:lastMarks [op,op'] [b,c]=false:=by with_unfolding_all rfl):QE X (.Compare a [op,op'] [b,c] pos) (C9 r r' ta tb tc):=(Pm ho ho' ha hb hc hm).imp fun _ _ _ h=>Fy h
theorem qt_chain{op op':CmpOp}{r r':DR2}(ho:QOp X (compareOp op) r)(ho':QOp X (compareOp op') r')(ha:QE X a ta)(hb:QE X b tb)(hc:QE X c tc)(hm:lastMarks [op,op'] [b,c]=false:=by with_unfolding_all rfl):QT X (.Compare a [op,op'] [b,c] pos) (B6 (C9 r r' ta tb tc)):=(Pg ho ho' ha hb hc hm).imp fun _ _ _ h=>Fy (Gw h)

def eqS:D→D→Option Bool
 |.int i,.int j=>some (decide (i=j))
 |.bl i,.bl j=>some (decide (i=j))
 |.str i,.str j=>some (decide (i=j))
 |.non,.non=>some true
 |.non,.int _=>some false|.int _,.non=>some false|.non,.bl _=>some false|.bl _,.non=>some false|.non,.str _=>some false|.str _,.non=>some false
 |.int _,.str _=>some false|.str _,.int _=>some false|.bl _,.str _=>some false|.str _,.bl _=>some false
 |_,_=>none
theorem Jv{H:Hp}{K:W.Frag}{x y:D}{v u:V}{k:Bool}(h:eqS x y=some k)(hx:DV K H x v)(hy:DV K H y u):Sx v u=true∧decide (v=u)=k:=by
 cases hx<;>cases hy<;>simp only[eqS,Option.some.injEq,reduceCtorEq] at h<;>subst h<;>refine⟨rfl,?_⟩<;>simp
def dEq:DR2:=fun x y G Q=>∃k,eqS x y=some k∧Q (.bl k) G
def dNe:DR2:=fun x y G Q=>∃k,eqS x y=some k∧Q (.bl (!k)) G
theorem Qn:QOp X (compareOp .Eq) dEq:=L2.OpR.imp Vy fun x y H Q ⟨dx,dy,G,Q',hx,hy,rg,⟨k,ek,q⟩,cl⟩=>by
 obtain⟨h1,h2⟩:=Jv ek hx hy
 refine⟨h1,?_⟩
 rw[h2]
 exact cl _ G q H (Ext.refl H) rg _ (.bl k)
theorem Ql:QOp X (compareOp .NotEq) dNe:=L2.OpR.imp Vu fun x y H Q ⟨dx,dy,G,Q',hx,hy,rg,⟨k,ek,q⟩,cl⟩=>by
 obtain⟨h1,h2⟩:=Jv ek hx hy
 refine⟨h1,?_⟩
 rw[h2]
 exact cl _ G q H (Ext.refl H) rg _ (.bl (!k))
variable{t u:DTT}{Cg:List Expr}
def Qp(t u:DTT):DTT:=fun σ G Q=>t σ G fun c G1=>if c=true then u σ G1 Q else Q false G1
def nOr(t u:DTT):DTT:=fun σ G Q=>t σ G fun c G1=>if c=true then Q true G1 else u σ G1 Q
def Ja(t:DTT):DTT:=fun σ G Q=>t σ G fun c G1=>Q (!c) G1
theorem Hz(ha:QT X a t):QW X (.BoolOp .And [a] pos) t:=Q6 ha
theorem qw_or1(ha:QT X a t):QW X (.BoolOp .Or [a] pos) t:=Tm ha
theorem Kv(ha:QT X a t)(hb:QW X (.BoolOp .And (b::Cg) pos) u):QW X (.BoolOp .And (a::b::Cg) pos) (Qp t u):=(To ha hb).imp fun σ H Q ⟨σD,G,Q',rs,rg,h,cl⟩=>by
 refine⟨σD,G,_,rs,rg,h,fun k G1 h1 H1 x1 rg1=>?_⟩
 cases k with
 |true=>rw[if_pos rfl] at h1 ⊢;exact⟨σD,G1,Q',rs.ext x1,rg1,h1,fun b G' q=>(cl b G' q).go x1⟩
 |false=>rw[if_neg Bool.false_ne_true] at h1 ⊢;exact cl _ G1 h1 H1 x1 rg1
theorem Lq(ha:QT X a t)(hb:QW X (.BoolOp .Or (b::Cg) pos) u):QW X (.BoolOp .Or (a::b::Cg) pos) (nOr t u):=(Vp ha hb).imp fun σ H Q ⟨σD,G,Q',rs,rg,h,cl⟩=>by
 refine⟨σD,G,_,rs,rg,h,fun k G1 h1 H1 x1 rg1=>?_⟩
 cases k with
 |true=>rw[if_pos rfl] at h1 ⊢;exact cl _ G1 h1 H1 x1 rg1
 |false=>rw[if_neg Bool.false_ne_true] at h1 ⊢;exact⟨σD,G1,Q',rs.ext x1,rg1,h1,fun b G' q=>(cl b G' q).go x1⟩
theorem Fb(h:QW X e t):QT X e t:=h.pt
theorem qt_not(ha:QT X a t):QT X (.UnaryOp .Not a pos) (Ja t):=(Tp ha).imp fun σ H Q ⟨σD,G,Q',rs,rg,h,cl⟩=>
 ⟨σD,G,_,rs,rg,h,fun k G1 h1 H1 x1 rg1=>cl _ G1 h1 H1 x1 rg1⟩
def Oc(ta tb:DTE):DTE:=fun σ G Q=>ta σ G fun x G1=>∃c,x=.bl c∧if c=true then tb σ G1 Q else Q (.bl false) G1
def Sj(ta:DTE):DTE:=fun σ G Q=>ta σ G fun x G1=>∃c,x=.bl c∧Q (.bl (!c)) G1
theorem Sf{op}(h:QE X a ta):QE X (.BoolOp op [a] pos) ta:=T1 h
theorem q_and(ha:QE X a ta)(hb:QE X (.BoolOp .And (b::Cg) pos) tb):QE X (.BoolOp .And (a::b::Cg) pos) (Oc ta tb):=(T6 ha hb).imp fun σ H Q ⟨σD,G,Q',rs,rg,h,cl⟩=>by
 refine⟨σD,G,_,rs,rg,h,fun d G1 ⟨k,ek,h1⟩ H1 x1 rg1 v dv=>?_⟩
 subst ek;cases dv
 refine⟨k,rfl,?_⟩
 cases k with
 |true=>rw[if_pos rfl] at h1 ⊢;exact⟨σD,G1,Q',rs.ext x1,rg1,h1,fun b G' q=>(cl b G' q).go x1⟩
 |false=>rw[if_neg Bool.false_ne_true] at h1 ⊢;exact cl _ G1 h1 H1 x1 rg1 _ (.bl false)
theorem q_not(ha:QE X a ta):QE X (.UnaryOp .Not a pos) (Sj ta):=(T2 ha).imp fun σ H Q ⟨σD,G,Q',rs,rg,h,cl⟩=>by
 refine⟨σD,G,_,rs,rg,h,fun d G1 ⟨k,ek,h1⟩ H1 x1 rg1 v dv=>?_⟩
 subst ek;cases dv
 exact⟨k,rfl,cl _ G1 h1 H1 x1 rg1 _ (.bl _)⟩
def Ml(G:Gp):D→Option Bool
 |.non=>some false
 |.bl b=>some b
 |.int i=>some (i != 0)
 |.str y=>if y.length≤sizeLine then some ((y.length:Int) != 0) else none
 |.tup ds=>some (!ds.isEmpty)
 |.lint ns=>some (!ns.isEmpty)
 |.ref a=>match G a with
  |some (.lst ds)=>some (!ds.isEmpty)
  |some (.dkk kvs)=>some (!kvs.isEmpty)
  |_=>none
 |_=>none
theorem isE{K:W.Frag}{H:Hp}{ds:List D}{vs:List V}(r:DVs K H ds vs):ds.isEmpty=vs.isEmpty:=by cases r<;>rfl
theorem Qw{K:W.Frag}{H:Hp}{G:Gp}{d:D}{v:V}{k:Bool}(rg:RelG K H G)(h:Ml G d=some k)(r:DV K H d v):S8 K v H k:=by
 cases r with
 |non=>cases h;rfl
 |bl b=>cases h;rfl
 |int i=>cases h;rfl
 |str y=>
  simp only[Ml] at h
  split at h
  ·rename_i hy;cases h;exact⟨hy,rfl⟩
  ·cases h
 |tup e r=>
  cases h
  exact .inr (.inl ⟨_,.inl (.inl e),by rw[isE r]⟩)
 |@lint ns a e=>
  cases h
  exact .inl ⟨_,e.sq,by cases ns<;>rfl⟩
 |ref a=>
  simp only[Ml] at h
  split at h
  ·rename_i ds q
   obtain⟨xs,e,r⟩:=rg a _ q
   cases h
   exact .inl ⟨xs,.inl (.inl e),by rw[isE r]⟩
  ·rename_i kvs q
   obtain⟨xs,e,r⟩:=rg a _ q
   cases h
   exact .inr (.inr ⟨xs,e,by cases r<;>rfl⟩)
  ·cases h
 |ty n=>cases h
def F7(t:DTE):DTT:=fun σ G Q=>t σ G fun x G'=>∃k,Ml G' x=some k∧Q k G'
theorem qt_tru(ha:QE X a ta)(he:∀whole,isTrue a X.env whole=(do let v ←whole;standAt a.pos;holding [v] (truthy v)):=by intro _;rfl):QT X a (F7 ta):=(Pf ha he).imp fun σ H Q ⟨σD,G,Q',rs,rg,h,cl⟩=>by
 refine⟨σD,G,_,rs,rg,h,fun d G1 ⟨k,ek,h1⟩ H1 x1 rg1 v dv=>?_⟩
 exact⟨k,Qw rg1 ek dv,cl _ G1 h1 H1 x1 rg1⟩

variable{es:List Expr}{tA:DTA}
def A0:DTA:=fun _ G Q=>Q [] G
def Ak(ta:DTE)(tr:DTA):DTA:=fun σ G Q=>ta σ G fun x G1=>tr σ G1 fun xs G2=>Q (x::xs) G2
theorem qa_nil:QA X [] A0:=pa_nil.imp fun σ H Q ⟨σD,G,Q',rs,rg,h,cl⟩=>cl _ G h H (Ext.refl H) rg _ .nil
theorem Ly(ha:QE X e te)(hr:QA X es tA)(hs:starEach (e::es) X.env=(false,eval e X.env)::starEach es X.env:=by rfl):QA X (e::es) (Ak te tA):=(Rh ha hr hs).imp fun σ H Q ⟨σD,G,Q',rs,rg,h,cl⟩=>by
 refine⟨σD,G,_,rs,rg,h,fun x G1 h1 H1 x1 rg1 v1 d1=>?_⟩
 refine⟨σD,G1,_,rs.ext x1,rg1,h1,fun ys G2 h2 H2 x2 rg2 v2 d2=>?_⟩
 exact cl _ G2 h2 H2 (x1.trans x2) rg2 _ (.cons (d1.ext x2) d2)
def Mm(t:DTA):DTE:=fun σ G Q=>t σ G fun xs G1=>xs.length≤sizeLine∧Q (.tup xs) G1
def Ei(t:DTA):DTE:=fun σ G Q=>t σ G fun xs G1=>xs.length≤sizeLine∧∀p,G1 p=none→Q (.ref p) (Ae G1 p (.lst xs))
theorem C7{x1}(h:QA X es tA):QE X (.Tuple es x1 pos) (Mm tA):=(T0 h).imp fun σ H Q ⟨σD,G,Q',rs,rg,h,cl⟩=>by
 refine⟨σD,G,_,rs,rg,h,fun ds G1 ⟨hl,q⟩ H1 x1 rg1 vs dv=>⟨by rw[←dv.length];exact hl,fun p hp=>?_⟩⟩
 exact cl _ G1 q _ (x1.trans (Ext.fresh hp)) (rg1.tup hp) _ (.tup A4 (dv.ext (Ext.fresh hp)))
theorem B0(h:QA X es tA):QE X (.List es pos) (Ei tA):=(T4 h).imp fun σ H Q ⟨σD,G,Q',rs,rg,h,cl⟩=>by
 refine⟨σD,G,_,rs,rg,h,fun ds G1 ⟨hl,q⟩ H1 x1 rg1 vs dv=>⟨by rw[←dv.length];exact hl,fun p hp=>?_⟩⟩
 exact cl _ _ (q p (rg1.free hp)) _ (x1.trans (Ext.fresh hp)) (rg1.lst hp dv) _ (.ref p)

def Dt(G:Gp)(x:D)(i:Int):Option D:=match x with
 |.tup ds=>atI ds i
 |.lint ns=>atI (ns.map D.int) i
 |.ref a=>match G a with
  |some (.lst ds)=>atI ds i
  |_=>none
 |_=>none
theorem Id{K:W.Frag}{H:Hp}{ds:List D}{vs:List V}{i:Int}{d:D}(r:DVs K H ds vs)(h:atI ds i=some d):∃v,atI vs i=some v∧DV K H d v:=by
 unfold atI at h ⊢
 rw[←r.length]
 cases e:ixN ds.length i with
 |none=>rw[e] at h;cases h
 |some j=>rw[e] at h;exact r.get h
def dIx:DR2:=fun x y G Q=>∃i,y=.int i∧∃d,Dt G x i=some d∧Q d G
theorem _root_.L2.IxR.imp{r r':R2}(h:IxR X r)(g:∀x y H Q,r' x y H Q→r x y H Q):IxR X r':=fun va sl pins s σ H x y v u Q I rx ry q hs=>h va sl pins s σ H x y v u Q I rx ry (g x y H Q q) hs
theorem o_ix:IxR X (Ge X.K dIx):=ix_seq.imp fun x y H Q ⟨dx,dy,G,Q',hx,hy,rg,⟨i,ei,d,ed,q⟩,cl⟩=>by
 subst ei;cases hy
 cases hx with
 |@tup ds a xs e r=>
  obtain⟨v,ev,dv⟩:=Id r (show atI ds i=some d from ed)
  exact .inr (.inl ⟨a,xs,i,v,rfl,rfl,.inl (.inl e),ev,cl _ G q H (Ext.refl H) rg _ dv⟩)
 |@lint ns a e=>
  obtain⟨v,ev,dv⟩:=Id (K:=X.K) (H:=H) DVs.ints (show atI (ns.map D.int) i=some d from ed)
  exact .inl ⟨a,_,i,v,rfl,rfl,e.sq,ev,cl _ G q H (Ext.refl H) rg _ dv⟩
 |ref a=>
  simp only[Dt] at ed
  split at ed
  ·rename_i ds g
   obtain⟨xs,e,r⟩:=rg a _ g
   obtain⟨v,ev,dv⟩:=Id r ed
   exact .inl ⟨a,xs,i,v,rfl,rfl,.inl (.inl e),ev,cl _ G q H (Ext.refl H) rg _ dv⟩
  ·cases ed
 |_=>cases ed
theorem Bp(ha:QE X a ta)(hb:QE X b tb)(hs:Mj b:=by intro _ _;rfl):QE X (.Subscript a b pos) (nOp dIx ta tb):=(Vr o_ix ha hb hs).imp fun _ _ _ h=>E8 h
end
end D3
namespace D3
open PySem PySem.Spec
open PyProof.Rows hiding St
open L2 hiding St
section
variable{X:Cx}{a b c e:Expr}{ta tb tc te:DTE}{pos:Pos}{st:Stmt}{Cg body orelse:List Stmt}{t u:DTS}
def B1:DTS:=fun D σ G=>D.nx σ G
def Bw(t u:DTS):DTS:=fun D σ G=>t { D with nx:=u D } σ G
theorem qss_nil:QSs X [] B1:=pss_nil.imp fun E σ H ⟨σD,G,D,rs,rg,h,cl⟩=>cl.nx σD G h H (Ext.refl H) rg σ rs
theorem Pz{K:W.Frag}{E:Ends}{σ:St}{H:Hp}(h:Fd K (Bw t u) E σ H):U6 (Fd K t) (Fd K u) E σ H:=by
 obtain⟨σD,G,D,rs,rg,h,cl⟩:=h
 refine⟨σD,G,_,rs,rg,h,⟨fun σ1 G1 h1 H1 x1 rg1 σ' rs1=>⟨σ1,G1,D,rs1,rg1,h1,cl.go x1⟩,cl.rt,cl.bk,cl.ct⟩⟩
theorem qss_cons(h1:QS X st t)(h2:QSs X Cg u):QSs X (st::Cg) (Bw t u):=(Ph h1 h2).imp fun _ _ _ h=>Pz h
theorem qss_one(h1:QS X st t):QSs X [st] t:=Q8 h1
def Je(te:DTE):DTS:=fun D σ G=>te σ G fun _ G1=>D.nx σ G1
theorem Dg(he:QE X e te)(hs:swapsWith e none pos.line X.env=pure false:=by rfl):QS X (.Expr e pos) (Je te):=(Q9 he hs).imp fun E σ H ⟨σD,G,D,rs,rg,h,cl⟩=>
 ⟨σD,G,_,rs,rg,h,fun d G1 h1 H1 x1 rg1 v dv=>cl.nx σD G1 h1 H1 x1 rg1 σ (rs.ext x1)⟩
def B3(te:DTE):DTS:=fun D σ G=>te σ G D.rt
theorem qs_ret(he:QE X e te):QS X (.Return (some e) pos) (B3 te):=(Tr he).imp fun E σ H ⟨σD,G,D,rs,rg,h,cl⟩=>⟨σD,G,_,rs,rg,h,cl.rt⟩
def Dx(c:DTT)(t u:DTS):DTS:=fun D σ G=>c σ G fun b G1=>if b=true then t D σ G1 else u D σ G1
theorem qs_if{tc:DTT}(hc:QT X c tc)(ha:QSs X body t)(hb:QSs X orelse u):QS X (.If c body orelse pos) (Dx tc t u):=(Si hc ha hb).imp fun E σ H ⟨σD,G,D,rs,rg,h,cl⟩=>by
 refine⟨σD,G,_,rs,rg,h,fun k G1 h1 H1 x1 rg1=>?_⟩
 cases k with
 |true=>rw[if_pos rfl] at h1 ⊢;exact⟨σD,G1,D,rs.ext x1,rg1,h1,cl.go x1⟩
 |false=>rw[if_neg Bool.false_ne_true] at h1 ⊢;exact⟨σD,G1,D,rs.ext x1,rg1,h1,cl.go x1⟩
def Uh:DTS:=fun _ _ _=>False
theorem Fl:QS X st Uh:=ps_never.imp fun E σ H ⟨σD,G,D,rs,rg,h,cl⟩=>h
abbrev DTG:=D→DSt→Gp→(DSt→Gp→Prop)→Prop
abbrev Jb:=List D→DSt→Gp→(DSt→Gp→Prop)→Prop
def Jf(K:PySem.W.Frag)(t:DTG):TG:=fun v σ H Q=>∃d σD G Q',DV K H d v∧RelS K H σD σ∧RelG K H G∧t d σD G Q'∧∀σD' G',Q' σD' G'→Fwd K H G' fun H'=>∀σ',RelS K H' σD' σ'→Q σ' H'
def Uj(K:PySem.W.Frag)(t:Jb):TGs:=fun vs σ H Q=>∃ds σD G Q',DVs K H ds vs∧RelS K H σD σ∧RelG K H G∧t ds σD G Q'∧∀σD' G',Q' σD' G'→Fwd K H G' fun H'=>∀σ',RelS K H' σD' σ'→Q σ' H'
def QG(X:Cx)(e:Expr)(g:DTG):Prop:=PG X e (Jf X.K g)
def QGs(X:Cx)(es:List Expr)(g:Jb):Prop:=PGs X es (Uj X.K g)
theorem _root_.L2.PG.imp{X:Cx}{e:Expr}{t t':TG}(h:PG X e t)(f:∀v σ H Q,t' v σ H Q→t v σ H Q):PG X e t':=fun pins s σ H v u Q I r q=>h pins s σ H v u Q I r (f v σ H Q q)
theorem _root_.L2.PGs.imp{X:Cx}{e:List Expr}{t t':TGs}(h:PGs X e t)(f:∀v σ H Q,t' v σ H Q→t v σ H Q):PGs X e t':=fun pins s σ H v u Q I r q=>h pins s σ H v u Q I r (f v σ H Q q)
def A5(i:Nat):DTG:=fun d σ G Q=>Q (σ.set i (some d)) G
theorem qg_name{i:Nat}{x:Str}(hN:X.N.Nodup)(hi:X.N[i]? = some x:=by rfl)(hx:Loc X.env.scope x:=by first|exact Or.inl rfl|exact Or.inr rfl)(hf:X.fn x=true∨X.env.scope.names.lookup x=some .local:=by first|exact .inl rfl|exact .inr rfl|assumption):QG X (.Name x pos) (A5 i):=
 (Ra hN hi hx hf).imp fun v σ H Q ⟨d,σD,G,Q',dv,rs,rg,h,cl⟩=>cl _ G h H (Ext.refl H) rg _ (rs.set dv i)
def Mp:Jb:=fun ds σ G Q=>ds=[]∧Q σ G
def Gc(t:DTG)(u:Jb):Jb:=fun ds σ G Q=>∃v r,ds=v::r∧t v σ G fun σ' G'=>u r σ' G' Q
theorem D5:QGs X [] Mp:=pgs_nil.imp fun v σ H Q ⟨d,σD,G,Q',dv,rs,rg,⟨e,h⟩,cl⟩=>by
 subst e;cases dv
 exact⟨rfl,cl _ G h H (Ext.refl H) rg _ rs⟩
theorem Bg{es:List Expr}{t:DTG}{u:Jb}(h1:QG X e t)(h2:QGs X es u)(hs:(assignEach (e::es) X.env).map (·.2)=assign e X.env::(assignEach es X.env).map (·.2):=by rfl):QGs X (e::es) (Gc t u):=(Pj h1 h2 hs).imp fun v σ H Q ⟨d,σD,G,Q',dv,rs,rg,⟨d1,r,e,h⟩,cl⟩=>by
 subst e
 cases dv with
 |@cons _ v1 _ vs h1 t1=>
  refine⟨v1,vs,rfl,d1,σD,G,_,h1,rs,rg,h,fun σ1 G1 q1 H1 x1 rg1 σ' rs1=>?_⟩
  exact⟨r,σ1,G1,Q',t1.ext x1,rs1,rg1,q1,fun σ2 G2 q=>(cl σ2 G2 q).go x1⟩
def Mo(n:Nat)(t:Jb):DTG:=fun d σ G Q=>∃ds,d=.tup ds∧ds.length=n∧t ds σ G Q
theorem Ff{es:List Expr}{k:Nat}{t:Jb}{n:Nat}(hc:X.calm=true)(h:QGs X es t)(hn:(assignEach es X.env).length=n:=by rfl)(hst:(assignEach es X.env).findIdx? (·.1)=none:=by rfl):QG X (.Tuple es k pos) (Mo n t):=(Tv hc h hn hst).imp fun v σ H Q ⟨d,σD,G,Q',dv,rs,rg,⟨ds,e,hl,h⟩,cl⟩=>by
 subst e
 cases dv with
 |@tup _ a xs e r=>exact⟨a,xs,rfl,.inl (.inl e),by rw[←r.length];exact hl,ds,σD,G,Q',r,rs,rg,h,cl⟩
abbrev Gi:=D→D→D→Gp→(Gp→Prop)→Prop
def Rq(K:PySem.W.Frag)(t:Gi):N6:=fun o i v H Q=>∃d1 d2 d3 G Q',DV K H d1 o∧DV K H d2 i∧DV K H d3 v∧RelG K H G∧t d1 d2 d3 G Q'∧∀G',Q' G'→Fwd K H G' Q
def S9(X:Cx)(t:Gi):Prop:=PSet X (Rq X.K t)
theorem _root_.L2.PSet.imp{X:Cx}{t t':N6}(h:PSet X t)(f:∀o i v H Q,t' o i v H Q→t o i v H Q):PSet X t':=fun pins s σ H o i v ov iv u Q I r1 r2 r3 q=>h pins s σ H o i v ov iv u Q I r1 r2 r3 (f o i v H Q q)
def Oh:Gi:=fun o i v G Q=>∃p,o=.ref p∧∃k,i=.int k∧∃ds,G p=some (.lst ds)∧∃j,ixN ds.length k=some j∧Q (Ae G p (.lst (ds.set j v)))
theorem Ku:S9 X Oh:=set_list.imp fun o i v H Q ⟨d1,d2,d3,G,Q',h1,h2,h3,rg,⟨p,e1,k,e2,ds,eg,j,ej,q⟩,cl⟩=>by
 subst e1 e2
 cases h1;cases h2
 obtain⟨xs,ex,r⟩:=rg p _ eg
 exact⟨p,xs,k,j,rfl,rfl,ex,by rw[←r.length];exact ej,cl _ q _ (Dk ex) (rg.lstw ex (r.set h3 j))⟩
def N5(to ti:DTE)(t:Gi):DTG:=fun v σ G Q=>to σ G fun o G1=>ti σ G1 fun i G2=>t o i v G2 fun G3=>Q σ G3
theorem Fh{o i:Expr}{to ti:DTE}{t:Gi}(ho:QE X o to)(hi:QE X i ti)(hs:S9 X t)(ha:∀v,assign (.Subscript o i pos) X.env v=(do
   let ov ←holding [v] (eval o X.env)
   let iv ←holding [v,ov] (eval i X.env)
   standAt pos
   holding [v,ov,iv] (setItem ov iv v)
   release [v,ov,iv] []):=by intro _;rfl):QG X (.Subscript o i pos) (N5 to ti t):=(Tw ho hi hs ha).imp fun v σ H Q ⟨d,σD,G,Q',dv,rs,rg,h,cl⟩=>by
 refine⟨σD,G,_,rs,rg,h,fun x G1 h1 H1 x1 rg1 v1 d1=>?_⟩
 refine⟨σD,G1,_,rs.ext x1,rg1,h1,fun y G2 h2 H2 x2 rg2 v2 d2=>?_⟩
 exact⟨x,y,d,G2,_,d1.ext x2,d2,dv.ext (x1.trans x2),rg2,h2,fun G3 q H3 x3 rg3=>cl σD G3 q H3 (x1.trans (x2.trans x3)) rg3 σ (rs.ext (x1.trans (x2.trans x3)))⟩
def B5(te:DTE)(g:DTG):DTS:=fun D σ G=>te σ G fun x G1=>g x σ G1 D.nx
theorem P0{K:W.Frag}{g:DTG}{E:Ends}{σ:St}{H:Hp}(h:Fd K (B5 te g) E σ H):Sw (Cm K te) (Jf K g) E σ H:=by
 obtain⟨σD,G,D,rs,rg,h,cl⟩:=h
 refine⟨σD,G,_,rs,rg,h,fun d G1 h1 H1 x1 rg1 v dv=>?_⟩
 exact⟨d,σD,G1,_,dv,rs.ext x1,rg1,h1,fun σ2 G2 q=>(cl.go x1).nx σ2 G2 q⟩
theorem C0{tg:Expr}{g:DTG}(he:QE X e te)(hg:QG X tg g)(hs:swapsWithSole [tg] e pos.line X.env=pure false:=by rfl)(hw:swappedStores [tg] e X.env=pure none:=by rfl)(h1:(assignEach [tg] X.env).map (·.2)=[assign tg X.env]:=by rfl):QS X (.Assign [tg] e pos) (B5 te g):=(Tu he hg hs hw h1).imp fun _ _ _ h=>P0 h
theorem Av{i:Nat}{x:Str}{pos':Pos}(hN:X.N.Nodup)(he:QE X e te)(hi:X.N[i]? = some x:=by rfl)(hx:Loc X.env.scope x:=by first|exact Or.inl rfl|exact Or.inr rfl)(hs:swapsWith e (some (.Name x pos')) pos.line X.env=pure false:=by rfl)(hf:X.fn x=true∨X.env.scope.names.lookup x=some .local:=by first|exact .inl rfl|exact .inr rfl|assumption) :
  QS X (.Assign [.Name x pos'] e pos) (B5 te (A5 i)):=(Tq hN hi hx he hs hf).imp fun E σ H ⟨σD,G,D,rs,rg,h,cl⟩=>
 ⟨σD,G,_,rs,rg,h,fun d G1 h1 H1 x1 rg1 v dv=>cl.nx _ G1 h1 H1 x1 rg1 _ ((rs.ext x1).set dv i)⟩
def S0(i j:Nat)(ta:DTA):DTS:=fun D σ G=>ta σ G fun vs G1=>∃v w,vs=[v,w]∧D.nx ((σ.set i (some v)).set j (some w)) G1
theorem Kw{i j:Nat}{x y:Str}{tA:DTA}{px py pt:Pos}{kt k2 pt2}(hc:X.calm=true)(hN:X.N.Nodup)(ha:QA X [a,b] tA)(hi:X.N[i]? = some x:=by rfl)(hj:X.N[j]? = some y:=by rfl)(hij:i≠j:=by decide)(hx:X.env.scope.names.lookup x=some .local:=by rfl)(hy:X.env.scope.names.lookup y=some .local:=by rfl)(hw:swappedStores [.Tuple [.Name x px,.Name y py] kt pt] (.Tuple [a,b] k2 pt2) X.env=pure (some [x,y]):=by rfl)(hs:swapsWithSole [.Tuple [.Name x px,.Name y py] kt pt] (.Tuple [a,b] k2 pt2) pos.line X.env=pure false:=by rfl) :
  QS X (.Assign [.Tuple [.Name x px,.Name y py] kt pt] (.Tuple [a,b] k2 pt2) pos) (S0 i j tA):=(Ts hc hN hi hj hij hx hy ha hw hs).imp fun E σ H ⟨σD,G,D,rs,rg,h,cl⟩=>by
 refine⟨σD,G,_,rs,rg,h,fun ds G1 ⟨d1,d2,e,h1⟩ H1 x1 rg1 vs dv=>?_⟩
 subst e
 obtain⟨v,w,rfl,r1,r2⟩:=dv.two
 exact⟨v,w,rfl,cl.nx _ G1 h1 H1 x1 rg1 _ (((rs.ext x1).set r1 i).set r2 j)⟩
def Vc(i:Nat)(te:DTE)(r:DR2):DTS:=fun D σ G=>∃x,σ[i]? = some (some x)∧te σ G fun y G1=>r x y G1 fun z G2=>D.nx (σ.set i (some z)) G2
def QIp(X:Cx)(op:Operator)(r:DR2):Prop:=PIp X op (Ge X.K r)
theorem Uu{op:Operator}{f:Int→Int→Int}(h:PIp X op (ipI f)):QIp X op (dI0 fun i j=>.int (f i j)):=fun pins s σ H x y v u Q I rx ry ⟨dx,dy,G,Q',hx,hy,rg,⟨i,ei,j,ej,q⟩,cl⟩=>by
 subst ei ej;cases hx;cases hy
 exact h pins s σ H _ _ v u Q I rx ry ⟨i,j,rfl,rfl,cl _ G q H (Ext.refl H) rg _ (.int _)⟩
theorem Uv:QIp X .Sub (dI0 fun i j=>.int (i-j)):=Uu Ut
theorem Tj{i:Nat}{x:Str}{op:Operator}{r:DR2}{pos':Pos}(hN:X.N.Nodup)(ho:QIp X op r)(he:QE X e te)(hi:X.N[i]? = some x:=by rfl)(hx:Loc X.env.scope x:=by first|exact Or.inl rfl|exact Or.inr rfl)(hf:X.fn x=true∨X.env.scope.names.lookup x=some .local:=by first|exact .inl rfl|exact .inr rfl|assumption) :
  QS X (.AugAssign (.Name x pos') op e pos) (Vc i te r):=(Tt hN hi hx he ho hf).imp fun E σ H ⟨σD,G,D,rs,rg,⟨d,ed,h⟩,cl⟩=>by
 obtain⟨v,ev,dv⟩:=rs.2 i d ed
 refine⟨v,ev,σD,G,_,rs,rg,h,fun y G1 h1 H1 x1 rg1 v1 d1=>?_⟩
 exact⟨d,y,G1,_,dv.ext x1,d1,rg1,h1,fun z G2 q H2 x2 rg2 v2 d2=>cl.nx _ G2 q H2 (x1.trans x2) rg2 _ ((rs.ext (x1.trans x2)).set d2 i)⟩

def Sub(G G':Gp):Prop:=∀a o,G a=some o→G' a=some o
theorem Sub.refl(G:Gp):Sub G G:=fun _ _ h=>h
theorem Sub.trans{G G1 G2:Gp}(a:Sub G G1)(b:Sub G1 G2):Sub G G2:=fun c o h=>b c o (a c o h)
theorem Sub.new{G:Gp}{p:Addr}{o:GO}(h:G p=none):Sub G (Ae G p o):=fun a u e=>by rw[Am (gne e h)];exact e
theorem Sub.upd{G G':Gp}(s:Sub G G')(a:Addr)(o:GO):Sub (Ae G a o) (Ae G' a o):=fun b u e=>by
 by_cases h:b=a
 ·subst h;rw[Aa] at e ⊢;exact e
 ·rw[Am h] at e ⊢;exact s b u e
theorem Sub.none{G G':Gp}(s:Sub G G'){p:Addr}(h:G' p=Option.none):G p=Option.none:=by
 cases e:G p with
 |none=>rfl
 |some o=>rw[s p o e] at h;cases h
theorem Sub.skip{G G':Gp}(s:Sub G G'){p:Addr}{o:GO}(h:G' p=Option.none):Sub G (Ae G' p o):=s.trans (Sub.new h)
def Fs(P:DSt→Gp→Prop)(σ:DSt)(G:Gp):Prop:=∃G',Sub G' G∧P σ G'
theorem Fs.of{P:DSt→Gp→Prop}{σ:DSt}{G:Gp}(h:P σ G):Fs P σ G:=⟨G,Sub.refl G,h⟩
def Ug(c:DTT)(tb:DTS):DTS:=fun D σ G=>∃W:Nat→DSt→Gp→Prop,(∃m,W m σ G)∧∀m σ G,W m σ G→
 c σ G fun b G1=>if b=true then ∃N:DSt→Gp→Prop,(∀σ' G',N σ' G'→∃m',m'<m∧W m' σ' G')∧tb { D with nx:=Fs N,ct:=Fs N,bk:=D.nx } σ G1 else D.nx σ G1
theorem Pd{tc:DTT}{tb:DTS}(hp:PassesOwn (model X.prog X.w) X.A X.env X.xe)(hc:QT X c tc)(hb:QSs X body tb):QS X (.While c body [] pos) (Ug tc tb):=(Pi hp hc hb).imp fun E σ H ⟨σD,G,D,rs,rg,⟨W,⟨m0,w0⟩,turn⟩,cl⟩=>by
 refine⟨fun m σ' H'=>∃σD' G',RelS X.K H' σD' σ'∧RelG X.K H' G'∧Ext H H'∧W m σD' G',⟨m0,σD,G,rs,rg,Ext.refl H,w0⟩,?_⟩
 rintro m σ1 H1 ⟨σD1,G1,rs1,rg1,x1,w1⟩
 refine⟨σD1,G1,_,rs1,rg1,turn m σD1 G1 w1,fun k G2 h2 H2 x2 rg2=>?_⟩
 cases k with
 |true=>
  rw[if_pos rfl] at h2 ⊢
  obtain⟨N,hN,h2⟩:=h2
  refine⟨fun σ' H'=>∃σD' G',RelS X.K H' σD' σ'∧RelG X.K H' G'∧Ext H H'∧N σD' G',fun σ' H' ⟨σD',G',r1,r2,r3,n⟩=>?_,?_⟩
  ·obtain⟨m',hm,w'⟩:=hN σD' G' n
   exact⟨m',hm,σD',G',r1,r2,r3,w'⟩
  ·have xx:=x1.trans x2
   exact⟨σD1,G2,_,rs1.ext x2,rg2,h2,⟨fun s3 G3 ⟨G4,sb,n⟩ H3 x3 rg3 σ3 rs3=>⟨s3,G4,rs3,rg3.ext' sb,xx.trans x3,n⟩,(cl.go xx).rt,(cl.go xx).nx,fun s3 G3 ⟨G4,sb,n⟩ H3 x3 rg3 σ3 rs3=>⟨s3,G4,rs3,rg3.ext' sb,xx.trans x3,n⟩⟩⟩
 |false=>
  rw[if_neg Bool.false_ne_true] at h2 ⊢
  exact cl.nx _ G2 h2 H2 (x1.trans x2) rg2 _ (rs1.ext x2)

def Bf(G:Gp):D→Option (List D)
 |.tup ds=>some ds
 |.lint ns=>some (ns.map .int)
 |.ref a=>match G a with
  |some (.lst ds)=>some ds
  |_=>none
 |_=>none
def iSeq(K:PySem.W.Frag)(tl:TE):TI:=fun σ H R=>tl σ H fun x H1=>∃a,x=.ref a∧(((∃xs,SqL K H1 a xs)∧R (Itl K a) H1)∨((∃xs,SqT K H1 a xs)∧R (Itt K a) H1))
theorem Ow{tg l:Expr}{tl:TE}(hl:PE X l tl):PI X tg l (iSeq X.K tl):=by
 intro pins s σ H R I h
 refine thn (hl pins s σ H _ I h) fun v s1 ⟨x,H1,I1,r1,q1⟩=>?_
 obtain⟨a,e,q1⟩:=q1
 subst e
 cases r1
 have fin:∀(b:Addr),b∈[s1.heap.objs.size]→E3 X pins H1 b:=fun b hb=>by
  have e:b=s1.heap.objs.size:=by simpa using hb
  subst e
  exact I1.fpOk (Nat.le_refl _) (I1.hok.fresh (Nat.le_refl _))
 rcases q1 with ⟨⟨xs,hq⟩,q⟩|⟨⟨xs,hq⟩,q⟩
 ·obtain⟨its,rv,p,hz⟩:=I1.list hq
  refine wpAny_pyIter_list p.isList ?_
  exact⟨s1.heap.objs.size,[s1.heap.objs.size],_,_,H1,rfl,I1.kept (t':=s1.toks) fun b o e=>Heap.get?_push_of_some _ e,Mq a _,⟨_,Heap.get?_push_size _ rfl,rfl,rfl⟩,fin,q⟩
 ·obtain⟨its,rv,p,hz⟩:=I1.tuple hq
  refine wpAny_pyIter_tuple (show s1.heap.IsTuple a its.toArray from p) ?_
  exact⟨s1.heap.objs.size,[s1.heap.objs.size],_,_,H1,rfl,I1.kept (t':=s1.toks) fun b o e=>Heap.get?_push_of_some _ e,K3 a _,⟨_,Heap.get?_push_size _ rfl,rfl,rfl⟩,fin,q⟩
structure Items(K:PySem.W.Frag)(J:It)(G:Gp)(H:Hp)(ds:List D):Prop where
 go:∀i,i<ds.length→J.go i H
 yl:∀i x H',i<ds.length→J.yld i H x H'→H'=H∧∃d,ds[i]? = some d∧DV K H d x
 st:J.stop ds.length H
theorem Gy{K:W.Frag}{H:Hp}{G:Gp}{a:Addr}{ds:List D}{xs:List V}(e:SqL K H a xs)(r:DVs K H ds xs):Items K (Itl K a) G H ds:=by
 refine⟨fun i hi=>?_,fun i x H' hi y=>?_,⟨xs,e,by rw[←r.length];exact Nat.le_refl _⟩⟩
 ·rw[r.length] at hi
  exact⟨xs,xs[i],e,by simp[hi]⟩
 ·obtain⟨e1,e2⟩:=y
  exact⟨e1,r.get' (e2 xs e)⟩
theorem Nj{K:W.Frag}{H:Hp}{G:Gp}{a:Addr}{ds:List D}{xs:List V}(e:H a=some (.tup xs))(r:DVs K H ds xs):Items K (Itt K a) G H ds:=by
 refine⟨fun i hi=>?_,fun i x H' hi y=>?_,⟨xs,.inl (.inl e),by rw[←r.length];exact Nat.le_refl _⟩⟩
 ·rw[r.length] at hi
  exact⟨xs,xs[i],.inl (.inl e),by simp[hi]⟩
 ·obtain⟨e1,e2⟩:=y
  exact⟨e1,r.get' (e2 xs (.inl (.inl e)))⟩
end
end D3
namespace D3
open PySem PySem.Spec
open PyProof.Rows hiding St
open L2 hiding St
section
variable{X:Cx}{a b c e:Expr}{ta tb tc te:DTE}{pos:Pos}{st:Stmt}{Cg body orelse:List Stmt}{t u:DTS}
def jOf(K:PySem.W.Frag)(d:D)(a:Addr):It:=match d with
 |.tup _=>Itt K a
 |_=>Itl K a
theorem Fo{K:W.Frag}{H:Hp}{G:Gp}{d:D}{ds:List D}{a:Addr}(rg:RelG K H G)(h:Bf G d=some ds)(dv:DV K H d (.ref a)):Items K (jOf K d a) G H ds:=by
 cases dv with
 |tup e r=>cases h;exact Nj e r
 |lint e=>cases h;exact Gy e.sq DVs.ints
 |ref=>
  simp only[Bf] at h
  split at h
  ·rename_i ds' q
   cases h
   obtain⟨xs,e,r⟩:=rg a _ q
   exact Gy (.inl (.inl e)) r
  ·cases h
theorem Ju{K:W.Frag}{H:Hp}{G:Gp}{d:D}{ds:List D}{v:V}(h:Bf G d=some ds)(dv:DV K H d v):∃a,v=.ref a:=by
 cases dv<;>first|exact⟨_,rfl⟩|cases h
def N8(ds:List D)(same:Gp→Prop)(g:DTG)(tb:DTS)(D:DEnds)(σ:DSt)(G:Gp):Prop:=∃P:Nat→DSt→Gp→Prop,P 0 σ G∧(∀i σ G,i≤ds.length→P i σ G→same G)∧
 (∀i x σ G,ds[i]? = some x→P i σ G→g x σ G fun σ2 G2=>tb { D with nx:=Fs (P (i+1)),ct:=Fs (P (i+1)),bk:=D.nx } σ2 G2)∧∀σ G,P ds.length σ G→D.nx σ G
theorem Gv{K:W.Frag}{J:It}{ds:List D}{same:Gp→Prop}{g:DTG}{tb:DTS}{D:DEnds}{E:Ends}{σD:DSt}{σ:St}{G:Gp}{H:Hp}(rs:RelS K H σD σ)(rg:RelG K H G)(cl:D.Reach K H E)(hJ:∀H' G',Ext H H'→RelG K H' G'→same G'→Items K J G' H' ds)(h:N8 ds same g tb D σD G) :
  ∃W:Nat→Nat→St→Hp→Prop,(∃m,W 0 m σ H)∧∀i m σ H,W i m σ H→
   (J.stop i H∧E.nx σ H)∨(J.go i H∧∃N:St→Hp→Prop,(∀σ' H',N σ' H'→∃m',m'<m∧W (i+1) m' σ' H')∧∀x H',J.yld i H x H'→Jf K g x σ H' fun σ2 H2=>Fd K tb { E with nx:=N,ct:=N,bk:=E.nx } σ2 H2):=by
 obtain⟨P,p0,keep,step,fin⟩:=h
 refine⟨fun i m σ' H'=>m=ds.length-i∧i≤ds.length∧∃σD' G',RelS K H' σD' σ'∧RelG K H' G'∧Ext H H'∧P i σD' G',⟨ds.length,rfl,Nat.zero_le _,σD,G,rs,rg,Ext.refl H,p0⟩,?_⟩
 rintro i m σ1 H1 ⟨rfl,hi,σD1,G1,rs1,rg1,x1,p1⟩
 have I:=hJ H1 G1 x1 rg1 (keep i σD1 G1 hi p1)
 by_cases hlt:i<ds.length
 ·refine .inr ⟨I.go i hlt,fun σ' H'=>∃σD' G',RelS K H' σD' σ'∧RelG K H' G'∧Ext H H'∧P (i+1) σD' G',fun σ' H' ⟨s2,G2,r1,r2,r3,p⟩=>⟨ds.length-(i+1),by omega,rfl,hlt,s2,G2,r1,r2,r3,p⟩,fun x H' y=>?_⟩
  obtain⟨e,d,ed,dv⟩:=I.yl i x H' hlt y
  subst e
  refine⟨d,σD1,G1,_,dv,rs1,rg1,step i d σD1 G1 ed p1,fun σ2 G2 h2 H2 x2 rg2 σ' rs2=>?_⟩
  have xx:=x1.trans x2
  exact⟨σ2,G2,_,rs2,rg2,h2,⟨fun s3 G3 ⟨G4,sb,n⟩ H3 x3 rg3 σ3 rs3=>⟨s3,G4,rs3,rg3.ext' sb,xx.trans x3,n⟩,(cl.go xx).rt,(cl.go xx).nx,fun s3 G3 ⟨G4,sb,n⟩ H3 x3 rg3 σ3 rs3=>⟨s3,G4,rs3,rg3.ext' sb,xx.trans x3,n⟩⟩⟩
 ·have e:i=ds.length:=by omega
  subst e
  exact .inl ⟨I.st,cl.nx _ G1 (fin σD1 G1 p1) H1 x1 rg1 _ rs1⟩
def Mn(te:DTE)(g:DTG)(tb:DTS):DTS:=fun D σ G=>te σ G fun d G1=>∃ds,Bf G1 d=some ds∧N8 ds (fun G'=>Bf G' d=some ds) g tb D σ G1
theorem Fe{tg iter:Expr}{g:DTG}{tb:DTS}(hp:PassesOwn (model X.prog X.w) X.A X.env X.xe)(hc:X.calm=true)(hi:QE X iter te)(hg:QG X tg g)(hb:QSs X body tb)(hs:∀x,foldedSetIterable iter X.env x=pure x:=by intro _;rfl):QS X (.For tg iter body [] pos) (Mn te g tb):=(Ov hp hc (Ow hi) hg hb hs).imp fun E σ H ⟨σD,G,D,rs,rg,h,cl⟩=>by
 refine⟨σD,G,_,rs,rg,h,fun d G1 ⟨ds,ei,L⟩ H1 x1 rg1 v dv=>?_⟩
 obtain⟨a,rfl⟩:=Ju ei dv
 refine⟨a,rfl,?_⟩
 have lp:=Gv (J:=jOf X.K d a) (rs.ext x1) rg1 (cl.go x1) (fun H' G' x' rg' s'=>Fo rg' s' (dv.ext x')) L
 have I0:=Fo rg1 ei dv
 cases dv with
 |tup e r=>exact .inr ⟨⟨_,.inl (.inl e)⟩,lp⟩
 |lint e=>exact .inl ⟨⟨_,e.sq⟩,lp⟩
 |ref=>
  simp only[Bf] at ei
  split at ei
  ·rename_i ds' q
   obtain⟨xs,e,r⟩:=rg1 a _ q
   exact .inl ⟨⟨_,.inl (.inl e)⟩,lp⟩
  ·cases ei
def Mk(n:Nat):List D:=(List.range n).map fun i=>D.int (i:Nat)
theorem Dd(n:Nat):(Mk n).length=n:=by simp[Mk]
theorem Jj{n i:Nat}(h:i<n):(Mk n)[i]? = some (.int (i:Nat)):=by simp[Mk,h]
def Ey(tA:DTA)(g:DTG)(tb:DTS):DTS:=fun D σ G=>tA σ G fun ds G1=>∃j,ds=[.int j]∧(-(2 ^ 62)≤j∧j<2 ^ 62)∧N8 (Mk j.toNat) (fun _=>True) g tb D σ G1
theorem C1{tg:Expr}{g:DTG}{tb:DTS}{tA:DTA}{p p2:Pos}(hp:PassesOwn (model X.prog X.w) X.A X.env X.xe)(hc:X.calm=true)(hm:X.mg "range" = none)(ha:QA X [a] tA)(hg:QG X tg g)(hb:QSs X body tb)(hgl:Gl X "range":=by rfl)(hst:starEach [a] X.env=[(false,eval a X.env)]:=by rfl)(hs:∀x,foldedSetIterable (.Call (.Name "range" p) [a] [] p2) X.env x=pure x:=by intro _;rfl) :
  QS X (.For tg (.Call (.Name "range" p) [a] [] p2) body [] pos) (Ey tA g tb):=(Ov hp hc (M3 hgl hm ha hst) hg hb hs).imp fun E σ H ⟨σD,G,D,rs,rg,h,cl⟩=>by
 refine⟨σD,G,_,rs,rg,h,fun ds G1 ⟨j,ej,⟨j1,j2⟩,L⟩ H1 x1 rg1 vs dv=>?_⟩
 subst ej
 obtain⟨v,rfl,r⟩:=dv.one
 cases r
 refine⟨j,rfl,j1,j2,Gv (J:=Itr 0 j.toNat) (rs.ext x1) rg1 (cl.go x1) (fun H' G' x' rg' _=>?_) L⟩
 refine⟨fun i hi=>by rw[Dd] at hi;exact hi,fun i x H2 hi y=>?_,by show j.toNat≤_;rw[Dd];exact Nat.le_refl _⟩
 rw[Dd] at hi
 obtain⟨e1,e2⟩:=y
 refine⟨e1,_,Jj hi,?_⟩
 rw[e2,Int.zero_add]
 exact .int _

abbrev DX:=Value→Gp→Prop
abbrev DSp:=List D→Gp→DK→DX→Prop
def Od(K:PySem.W.Frag)(E:DX):XK:=fun c _ H'=>∃G',RelG K H' G'∧E c G'
def Ap(K:PySem.W.Frag)(sp:DSp):Sp:=fun vs H Q E=>∃ds G Q' E',DVs K H ds vs∧RelG K H G∧sp ds G Q' E'∧(∀d G',Q' d G'→Fwd K H G' fun H'=>∀v,DV K H' d v→Q v H')∧∀c G',E' c G'→Fwd K H G' fun H'=>∀ad,E c ad H'
structure Def(P:Program)(w:World)(K:PySem.W.Frag)(mg:Str→Option Value)(base:Heap)(CX:CXT)(k:Nat)(x:Str)(ps:List Str)(sp:DSp):Prop where
 ex:∃f fd,FnOk P w K mg base CX k f fd ps (Ap K sp)∧mg x=some (.ref f)∧PySem.W.keepIn K (.ref f)=true∧Binds K fd ps []
def Bd(sp:DSp)(E:DX)(t:DTA):DTE:=fun σ G Q=>t σ G fun ds G1=>sp ds G1 Q E
abbrev noX:DX:=fun _ _=>False
theorem q_call{CX:CXT}{k:Nat}{x:Str}{ps:List Str}{sp:DSp}{E:DX}{es:List Expr}{p:Pos}{tA:DTA}(F:Def X.prog X.w X.K X.mg X.base CX k x ps sp)(hr:Room k X.A)(hx:Hx CX X (Od X.K E))(ha:QA X (e::es) tA)(hg:Gl X x:=by rfl)(hdb:(x == ("__debug__" : Str))=false:=by decide)(he:starEach (e::es) X.env=(false,eval e X.env)::starEach es X.env:=by rfl)(hpl:(backTo pos (starEach es X.env)).any (·.1)=false:=by rfl) :
  QE X (.Call (.Name x p) (e::es) [] pos) (Bd sp E tA):=by
 obtain⟨f,fd,F,hm,hk,hb⟩:=F.ex
 refine(Re (ds:=[]) (dvs:=[]) F hr hg hm hk hb .nil hx ha hdb he hpl).imp fun σ H Q ⟨σD,G,Q',rs,rg,h,cl⟩=>?_
 refine⟨σD,G,_,rs,rg,h,fun ds G1 h1 H1 x1 rg1 vs dv=>?_⟩
 show Ap X.K sp (vs++[]) H1 Q (Od X.K E)
 rw[List.append_nil]
 exact⟨ds,G1,Q',E,dv,rg1,h1,fun d G' q=>(cl d G' q).go x1,fun c G' q H2 x2 rg2 ad=>⟨G',rg2,q⟩⟩
theorem passN{E:DX}:Hx CX0 X (Od X.K E):=fun _ _ _ _ _ _ _ h=>h.elim

def As(N:List Str)(ds:List D):DSt:=ds.map some++List.replicate (N.length-ds.length) none
def Fq(Q:DK)(d:D)(G:Gp):Prop:=∃G',Sub G' G∧Q d G'
theorem Fq.of{Q:DK}{d:D}{G:Gp}(h:Q d G):Fq Q d G:=⟨G,Sub.refl G,h⟩
theorem Mu{K:W.Frag}{H:Hp}{N:List Str}{ds:List D}{vs:List V}(r:DVs K H ds vs):RelS K H (As N ds) (L2.start N vs):=by
 have hl:=r.length
 refine⟨by simp[As,L2.start,hl],fun i d e=>?_⟩
 unfold As at e
 unfold L2.start
 by_cases hi:i<ds.length
 ·rw[List.getElem?_append_left (by simpa using hi),List.getElem?_map] at e
  rw[List.getElem?_append_left (by simpa[←hl] using hi),List.getElem?_map]
  cases q:ds[i]? with
  |none=>rw[q] at e;cases e
  |some d'=>
   rw[q] at e;cases e
   obtain⟨v,ev,dv⟩:=r.get q
   exact⟨v,by rw[ev];rfl,dv⟩
 ·rw[List.getElem?_append_right (by simpa using hi),List.getElem?_replicate] at e
  split at e<;>cases e
section
variable{P:Program}{w:World}{K:W.Frag}{mg:Str→Option Value}{base:Heap}
theorem okD{x qual:Str}{st:Stmt}{f:Addr}{fd:FuncData}{N ps:List Str}{k:Nat}{sp:DSp}(F:Fun K x qual st f fd)(S:FnScope N ps (Ah st))(len:∀ds G Q E,sp ds G Q E→ds.length=ps.length)(hbody:∀(cdv:Value) (A:Around) (outer:List Env) (s:Shared) (H:Hp) (XE:XK) (ds:List D) (G:Gp) (Q:DK) (E:DX),Room k (A.deeper (envOfC qual (Ah st) s.heap.objs.size f cdv))→sp ds G Q E→
   ∃t,QSs (Kp CX0 P w K mg base N qual (Ah st) f cdv A outer s H XE).nox (C2 st) t∧t { nx:=fun _ G'=>Fq Q .non G',rt:=Fq Q } (As N ds) G):FnOk P w K mg base CX0 (k+1) f fd ps (Ap K sp):=by
 refine F.ok S (fun vs H Q E ⟨ds,G,Q',E',dv,rg,h,_⟩=>by rw[←dv.length];exact len ds G Q' E' h) fun cdv A outer s H vs Q E hr ⟨ds,G,Q',E',dv,rg,h,cl,_⟩=>?_
 obtain⟨t,ht,hq⟩:=hbody cdv A outer s H E ds G Q' E' hr h
 refine⟨_,ht,As N ds,G,_,Mu dv,rg,hq,⟨fun σD G1 ⟨G2,sb,q⟩ H1 x1 rg1 σ rs=>cl _ G2 q H1 x1 (rg1.ext' sb) _ .non,fun d G1 ⟨G2,sb,q⟩ H1 x1 rg1 v dv=>cl _ G2 q H1 x1 (rg1.ext' sb) _ dv,fun _ _ z=>z.elim,fun _ _ z=>z.elim⟩⟩
end
abbrev DRC:=List D→Gp→DK→Prop
def Sk(K:PySem.W.Frag)(r:DRC):List V→Hp→VK→Prop:=fun xs H Q=>∃ds G Q',DVs K H ds xs∧RelG K H G∧r ds G Q'∧∀d G',Q' d G'→Fwd K H G' fun H'=>∀v,DV K H' d v→Q v H'
def QC(X:Cx)(f:Value)(r:DRC):Prop:=CallR X f (Sk X.K r)
theorem _root_.L2.CallR.imp{f:Value}{r r':List V→Hp→VK→Prop}(h:CallR X f r)(g:∀xs H Q,r' xs H Q→r xs H Q):CallR X f r':=fun pins s σ H xs us Q I rx q=>h pins s σ H xs us Q I rx (g xs H Q q)
def nCB(r:DRC)(t:DTA):DTE:=fun σ G Q=>t σ G fun vs G1=>r vs G1 Q
theorem L4{K:W.Frag}{r:DRC}{tA:DTA}{σ:St}{H:Hp}{Q:VK}(h:Cm K (nCB r tA) σ H Q):tCB (Sk K r) (Sl K tA) σ H Q:=by
 obtain⟨σD,G,Q',rs,rg,h,cl⟩:=h
 exact⟨σD,G,_,rs,rg,h,fun ds G1 h1 H1 x1 rg1 vs dv=>⟨ds,G1,Q',dv,rg1,h1,fun d G' q=>(cl d G' q).go x1⟩⟩
theorem q_callB{x:Str}{id:String}{r:DRC}{es:List Expr}{p:Pos}{tA:DTA}(hc:QC X (.builtin id) r)(hm:X.mg x=none)(hv:bootBuiltins x=some (.builtin id))(ha:QA X (e::es) tA)(hg:Gl X x:=by rfl)(hn:x≠"__name__":=by decide)(hdb:(x == ("__debug__" : Str))=false:=by decide)(he:starEach (e::es) X.env=(false,eval e X.env)::starEach es X.env:=by rfl)(hpl:(backTo pos (starEach es X.env)).any (·.1)=false:=by rfl):QE X (.Call (.Name x p) (e::es) [] pos) (nCB r tA):=(Pn hc hg hm hv ha hn hdb he hpl).imp fun _ _ _ h=>L4 h
theorem Cp{x:Str}{T:String}{r:DRC}{es:List Expr}{p:Pos}{tA:DTA}(hc:QC X (.type T) r)(hm:X.mg x=none)(hv:bootBuiltins x=some (.type T))(ha:QA X (e::es) tA)(hg:Gl X x:=by rfl)(hn:x≠"__name__":=by decide)(hdb:(x == ("__debug__" : Str))=false:=by decide)(he:starEach (e::es) X.env=(false,eval e X.env)::starEach es X.env:=by rfl)(hpl:(backTo pos (starEach es X.env)).any (·.1)=false:=by rfl):QE X (.Call (.Name x p) (e::es) [] pos) (nCB r tA):=(M4 hc hg hm hv ha hn hdb he hpl).imp fun _ _ _ h=>L4 h
theorem Sv:QC X (.builtin "abs") (fun ds G Q=>∃i,ds=[.int i]∧Q (.int (if i<0 then -i else i)) G):=call_abs.imp fun xs H Q ⟨ds,G,Q',dv,rg,⟨i,e,q⟩,cl⟩=>by
 subst e
 obtain⟨v,rfl,r⟩:=dv.one
 cases r
 exact⟨i,rfl,cl _ G q H (Ext.refl H) rg _ (.int _)⟩
theorem U0(hc:X.calm=true):QC X (.builtin "max") (fun ds G Q=>∃i j,ds=[.int i,.int j]∧Q (.int (if j>i then j else i)) G):=(Nw hc).imp fun xs H Q ⟨ds,G,Q',dv,rg,⟨i,j,e,q⟩,cl⟩=>by
 subst e
 obtain⟨v,w,rfl,r,r'⟩:=dv.two
 cases r;cases r'
 exact⟨i,j,rfl,cl _ G q H (Ext.refl H) rg _ (.int _)⟩
theorem Uz(hc:X.calm=true):QC X (.builtin "min") (fun ds G Q=>∃i j,ds=[.int i,.int j]∧Q (.int (if j<i then j else i)) G):=(Nv hc).imp fun xs H Q ⟨ds,G,Q',dv,rg,⟨i,j,e,q⟩,cl⟩=>by
 subst e
 obtain⟨v,w,rfl,r,r'⟩:=dv.two
 cases r;cases r'
 exact⟨i,j,rfl,cl _ G q H (Ext.refl H) rg _ (.int _)⟩
theorem Qd:QC X (.builtin "divmod") (fun ds G Q=>∃i j,ds=[.int i,.int j]∧Kq i j∧Q (.tup [.int (i / j),.int (i % j)]) G):=call_divmod.imp fun xs H Q ⟨ds,G,Q',dv,rg,⟨i,j,e,hc,q⟩,cl⟩=>by
 subst e
 obtain⟨v,w,rfl,r,r'⟩:=dv.two
 cases r;cases r'
 refine⟨i,j,rfl,hc,fun p hp=>?_⟩
 exact cl _ G q _ (Ext.fresh hp) (rg.tup hp) _ (.tup A4 (.cons (.int _) (.cons (.int _) .nil)))
def Hm(G:Gp):D→Option Nat
 |.tup ds=>some ds.length
 |.lint ns=>some ns.length
 |.str y=>if y.length≤sizeLine then some y.length else none
 |.ref a=>match G a with
  |some (.lst ds)=>some ds.length
  |_=>none
 |_=>none
theorem c_len:QC X (.builtin "len") (fun ds G Q=>∃d,ds=[d]∧∃n,Hm G d=some n∧Q (.int (n:Nat)) G):=call_len.imp fun xs H Q ⟨ds,G,Q',dv,rg,⟨d,e,n,en,q⟩,cl⟩=>by
 subst e
 obtain⟨v,rfl,r⟩:=dv.one
 refine⟨v,n,rfl,?_,cl _ G q H (Ext.refl H) rg _ (.int _)⟩
 cases r with
 |tup e r=>cases en;exact .inr ⟨_,.inl (.inl e),r.length⟩
 |@lint ns a e=>cases en;exact .inl ⟨_,e.sq,by simp⟩
 |str y=>
  simp only[Hm] at en
  split at en
  ·rename_i hy;cases en;exact⟨hy,rfl⟩
  ·cases en
 |ref a=>
  simp only[Hm] at en
  split at en
  ·rename_i ds g
   cases en
   obtain⟨xs,e,r⟩:=rg a _ g
   exact .inl ⟨xs,.inl (.inl e),r.length⟩
  ·cases en
 |_=>cases en
theorem D8:QC X (.type "tuple") (fun ds G Q=>∃d,ds=[d]∧∃es,Bf G d=some es∧Q (.tup es) G):=call_tuple_of.imp fun xs H Q ⟨ds,G,Q',dv,rg,⟨d,e,es,en,q⟩,cl⟩=>by
 subst e
 obtain⟨v,rfl,r⟩:=dv.one
 cases r with
 |tup e r=>cases en;exact⟨_,_,rfl,.inr ⟨.inl (.inl e),cl _ G q H (Ext.refl H) rg _ (.tup e r)⟩⟩
 |@lint ns a e=>cases en;exact⟨_,_,rfl,.inl ⟨e.sq,fun p hp=>cl _ G q _ (Ext.fresh hp) (rg.tup hp) _ (.tup A4 DVs.ints)⟩⟩
 |ref a=>
  simp only[Bf] at en
  split at en
  ·rename_i ds g
   cases en
   obtain⟨xs,e,r⟩:=rg a _ g
   exact⟨a,xs,rfl,.inl ⟨.inl (.inl e),fun p hp=>cl _ G q _ (Ext.fresh hp) (rg.tup hp) _ (.tup A4 (r.ext (Ext.fresh hp)))⟩⟩
  ·cases en
 |_=>cases en
def Qo(to:DTE)(ta:DTE):DTE:=fun σ G Q=>to σ G fun x G1=>∃p,x=.ref p∧(∃ds,G1 p=some (.lst ds))∧ta σ G1 fun y G2=>∃ds,G2 p=some (.lst ds)∧ds.length<sizeLine∧Q .non (Ae G2 p (.lst (ds++[y])))
theorem Oa{o:Expr}{to:DTE}{apos cpos:Pos}(ho:QE X o to)(ha:QE X e ta)(hbase:attributeBase o "append" X.env (eval o X.env)=eval o X.env:=by rfl)(hfew:((backTo cpos (starEach [e] X.env)).all (fun x=>!x.1)&&(backToKw cpos (keywordEach [] X.env)).all (fun x=>x.1.isSome)
   && decide (([e]:List Expr).length+([]:List Keyword).length+(if ([]:List Keyword).isEmpty then 0 else 1)<30))=true:=by rfl)(hline:(apos.endLine == cpos.line)=true:=by rfl)(hs:starEach [e] X.env=(false,eval e X.env)::starEach [] X.env:=by rfl)(hplain:(backTo cpos (starEach [] X.env)).any (·.1)=false:=by rfl) :
  QE X (.Call (.Attribute o "append" apos) [e] [] cpos) (Qo to ta):=
 (Vs PySem.F.plainAttrs_list PySem.F.slot_list_append PySem.F.type_list_append Gs ho (Ly ha qa_nil hs) hbase hfew hline hs hplain).imp fun σ H Q ⟨σD,G,Q',rs,rg,h,cl⟩=>by
 refine⟨σD,G,_,rs,rg,h,fun d G1 ⟨p,ep,⟨ds,eg⟩,h1⟩ H1 x1 rg1 v dv=>?_⟩
 subst ep;cases dv
 obtain⟨xs,ex,r⟩:=rg1 p _ eg
 refine⟨.inl ⟨rfl,xs,.inl (.inl ex)⟩,σD,G1,fun ds' G2=>∃y,ds'=[y]∧∃ds,G2 p=some (.lst ds)∧ds.length<sizeLine∧Q' .non (Ae G2 p (.lst (ds++[y]))),rs.ext x1,rg1,?_,?_⟩
 ·show ta σD G1 fun x G1=>A0 σD G1 fun xs G2=>_
  exact cast (by congr 1;funext y G2;simp[A0]) h1
 ·rintro ds' G2 ⟨y,rfl,ds2,eg2,hl,q⟩ H2 x2 rg2 vs dvs
  obtain⟨v,rfl,dv⟩:=dvs.one
  obtain⟨xs2,ex2,r2⟩:=rg2 p _ eg2
  exact⟨p,xs2,v,rfl,rfl,ex2,by rw[←r2.length];exact hl,cl _ _ q _ ((x1.trans x2).trans (Dk ex2)) (rg2.lstw ex2 (r2.append (.cons dv .nil))) _ .non⟩
end
end D3
namespace D3
open PySem PySem.Spec
open PyProof.Rows hiding St
open L2 hiding St
theorem Bj{n:Nat}{g:DTG}{tb:DTS}{D:DEnds}{σ:DSt}{G:Gp}(P:Nat→DSt→Gp→Prop)(h0:P 0 σ G)(hs:∀i σ G,i<n→P i σ G→g (.int (i:Nat)) σ G fun σ2 G2=>tb { D with nx:=Fs (P (i+1)),ct:=Fs (P (i+1)),bk:=D.nx } σ2 G2)(hd:∀σ G,P n σ G→D.nx σ G):N8 (Mk n) (fun _=>True) g tb D σ G:=by
 refine⟨P,h0,fun _ _ _ _ _=>trivial,fun i x σ G hx p=>?_,fun σ G p=>hd σ G (by rw[Dd] at p;exact p)⟩
 have hi:i<n:=by
  have:=(List.getElem?_eq_some_iff.mp hx).1
  rw[Dd] at this;exact this
 rw[Jj hi] at hx
 cases hx
 exact hs i σ G hi p
theorem q_globx{X:Cx}{x:Str}{i:Int}{pos:Pos}(hm:∃t,X.mg x=some (.int i t))(hg:Gl X x:=by rfl)(hd:(x == ("__debug__" : Str))=false:=by decide):QE X (.Name x pos) (nC (.int i)):=
 let ⟨_,h⟩:=hm;Tl h hg hd
theorem it0{P:Prop}[Decidable P]{A B:Prop}(h:P)(a:A):if P then A else B:=by rw[if_pos h];exact a
theorem it1{P:Prop}[Decidable P]{A B:Prop}(h:¬P)(b:B):if P then A else B:=by rw[if_neg h];exact b
theorem exI{p:Int→Prop}{j:Int}:(∃i,D.int j=D.int i∧p i)↔p j:=⟨fun⟨i,e,h⟩=>by cases e;exact h,fun h=>⟨j,rfl,h⟩⟩
theorem exB{p:Bool→Prop}{j:Bool}:(∃i,D.bl j=D.bl i∧p i)↔p j:=⟨fun⟨i,e,h⟩=>by cases e;exact h,fun h=>⟨j,rfl,h⟩⟩
theorem exR{p:Addr→Prop}{j:Addr}:(∃i,D.ref j=D.ref i∧p i)↔p j:=⟨fun⟨i,e,h⟩=>by cases e;exact h,fun h=>⟨j,rfl,h⟩⟩
theorem exT{p:List D→Prop}{j:List D}:(∃i,D.tup j=D.tup i∧p i)↔p j:=⟨fun⟨i,e,h⟩=>by cases e;exact h,fun h=>⟨j,rfl,h⟩⟩
theorem exS{α:Type}{p:α→Prop}{j:α}:(∃i,some j=some i∧p i)↔p j:=⟨fun⟨i,e,h⟩=>by cases e;exact h,fun h=>⟨j,rfl,h⟩⟩
theorem exSS{α:Type}{p:α→Prop}{j:α}:(∃i,some (some j)=some (some i)∧p i)↔p j:=⟨fun⟨i,e,h⟩=>by cases e;exact h,fun h=>⟨j,rfl,h⟩⟩
theorem ex1{p:D→Prop}{j:D}:(∃i,[j]=[i]∧p i)↔p j:=⟨fun⟨i,e,h⟩=>by cases e;exact h,fun h=>⟨j,rfl,h⟩⟩
theorem ex1I{p:Int→Prop}{j:Int}:(∃i,[D.int j]=[D.int i]∧p i)↔p j:=⟨fun⟨i,e,h⟩=>by cases e;exact h,fun h=>⟨j,rfl,h⟩⟩
theorem ex2{p:D→D→Prop}{j k:D}:(∃x y,[j,k]=[x,y]∧p x y)↔p j k:=⟨fun⟨_,_,e,h⟩=>by cases e;exact h,fun h=>⟨j,k,rfl,h⟩⟩
theorem ex2I{p:Int→Int→Prop}{j k:Int}:(∃x y,[D.int j,D.int k]=[D.int x,D.int y]∧p x y)↔p j k:=⟨fun⟨_,_,e,h⟩=>by cases e;exact h,fun h=>⟨j,k,rfl,h⟩⟩
theorem Cv{ds:List D}{same:Gp→Prop}{g:DTG}{tb:DTS}{D:DEnds}{σ:DSt}{G:Gp}(P:Nat→DSt→Gp→Prop)(h0:P 0 σ G)(hk:∀i σ G,i≤ds.length→P i σ G→same G)(hs:∀i x σ G,ds[i]? = some x→P i σ G→g x σ G fun σ2 G2=>tb { D with nx:=Fs (P (i+1)),ct:=Fs (P (i+1)),bk:=D.nx } σ2 G2)(hd:∀σ G,P ds.length σ G→D.nx σ G):N8 ds same g tb D σ G:=⟨P,h0,hk,hs,hd⟩
theorem exCons{p:D→List D→Prop}{j:D}{r:List D}:(∃x y,j::r=x::y∧p x y)↔p j r:=⟨fun⟨_,_,e,h⟩=>by cases e;exact h,fun h=>⟨j,r,rfl,h⟩⟩
theorem S6{α:Type}{x:α}{r:List α}:atI (x::r) 0=some x:=Cd (j:=0) rfl
theorem atI1{α:Type}{x y:α}{r:List α}:atI (x::y::r) 1=some y:=Cd (j:=1) rfl
theorem Ed{G:Gp}{ds:List D}{i:Int}:Dt G (.tup ds) i=atI ds i:=rfl
theorem Nl{G:Gp}{ns:List Int}{i:Int}:Dt G (.lint ns) i=atI (ns.map D.int) i:=rfl
theorem By{G:Gp}{a:Addr}{ds:List D}{i:Int}(h:G a=some (.lst ds)):Dt G (.ref a) i=atI ds i:=by simp only[Dt,h]
theorem E9{G:Gp}{ds:List D}:Hm G (.tup ds)=some ds.length:=rfl
theorem Jq{G:Gp}{ns:List Int}:Hm G (.lint ns)=some ns.length:=rfl
theorem Ai{G:Gp}{a:Addr}{ds:List D}(h:G a=some (.lst ds)):Bf G (.ref a)=some ds:=by simp only[Bf,h]
theorem Js{G:Gp}{ds:List D}:Bf G (.tup ds)=some ds:=rfl
theorem ix0{n:Nat}:ixN (n+1) 0=some 0:=by unfold ixN;rw[if_pos (by omega),if_pos (by omega)];rfl
theorem ix1{n:Nat}:ixN (n+2) 1=some 1:=by unfold ixN;rw[if_pos (by omega),if_pos (by omega)];rfl
def S1(c:DTT)(t u:DTS):DTS:=fun D σ G=>∃M:DSt→Gp→Prop,(c σ G fun b G1=>if b=true then t { D with nx:=Fs M } σ G1 else u { D with nx:=Fs M } σ G1)∧∀σ' G',M σ' G'→D.nx σ' G'
theorem Ou{X:Cx}{c:Expr}{body orelse:List Stmt}{pos:Pos}{tc:DTT}{t u:DTS}(hc:QT X c tc)(ha:QSs X body t)(hb:QSs X orelse u):QS X (.If c body orelse pos) (S1 tc t u):=(Si hc ha hb).imp fun E σ H ⟨σD,G,D,rs,rg,⟨M,h,hM⟩,cl⟩=>by
 refine⟨σD,G,_,rs,rg,h,fun k G1 h1 H1 x1 rg1=>?_⟩
 have cl':DEnds.Reach X.K H1 { D with nx:=Fs M } E:=⟨fun s2 G2 ⟨G3,sb,m⟩ H2 x2 rg2=>(cl.go x1).nx s2 G3 (hM s2 G3 m) H2 x2 (rg2.ext' sb),(cl.go x1).rt,(cl.go x1).bk,(cl.go x1).ct⟩
 dsimp only at h1 ⊢
 cases k with
 |true=>rw[if_pos rfl] at h1 ⊢;exact⟨σD,G1,_,rs.ext x1,rg1,h1,cl'⟩
 |false=>rw[if_neg Bool.false_ne_true] at h1 ⊢;exact⟨σD,G1,_,rs.ext x1,rg1,h1,cl'⟩
theorem U2{α:Type}{xs:List α}{k:Nat}{x:α}(h:xs[k]? = some x):atI xs (k:Int)=some x:=Cd h
theorem szl{n:Nat}(h:n≤1000):n≤sizeLine:=Nat.le_of_lt (Mw h)
theorem sz2:2≤sizeLine:=szl (by decide)
theorem O0{G:Gp}{a:Addr}{o:GO}(h:G a=some o):∃G0,G=Ae G0 a o:=⟨G,(Gk h).symm⟩
theorem D6{G:Gp}{a p:Addr}{o:GO}(h:Ae G a o p=none):a≠p∧G p=none:=by
 by_cases e:p=a
 ·subst e;rw[Aa] at h;cases h
 ·exact⟨Ne.symm e,by rw[Am e] at h;exact h⟩
end D3
namespace D3
open PySem PySem.Spec
open PyProof.Rows hiding St
open L2 hiding St
def Sy(T:List Str)(σ:St):St:=List.replicate T.length none++σ

def Hv(ifs:List Expr)(env:Env):Sem Bool:=forIn ifs true fun c r=>if r=true then do let ok ←isTrue c env (eval c env);pure (ForInStep.yield ok) else pure (ForInStep.yield r)
def PF(X:Cx)(ifs:List Expr)(t:TT):Prop:=
 ∀(pins:List (Addr×Obj)) (s:Shared) (σ:St) (H:Hp) (Q:Bool→Hp→Prop),Inv X pins σ H s→t σ H Q→wpAny (model X.prog X.w) X.A (Hv ifs X.env) (TP X pins σ Q) X.xe s
theorem Ty{X:Cx}:PF X [] (fun _ H Q=>Q true H):=fun pins s σ H Q I h=>by
 unfold Hv
 rw[List.forIn_nil]
 exact wpAny_pure ⟨H,I,h⟩
theorem Tx{X:Cx}{c:Expr}{t:TT}(h:PT X c t):PF X [c] t:=fun pins s σ H Q I q=>by
 unfold Hv
 rw[List.forIn_cons]
 refine wpAny_bind ?_
 rw[if_pos rfl]
 refine wpAny_bind (thn (h pins s σ H Q I q) fun b s1 hb=>wpAny_pure ?_)
 show wpAny _ _ (forIn [] b _) _ _ s1
 rw[List.forIn_nil]
 exact wpAny_pure hb

def Bx(cells:List (Str×Addr)):List (Str×NameKind)→List (Str×Addr)→List (Str×Addr)
 |[],cs=>cs
 |(n,k)::r,cs=>if (k == .free)=true then match cells.lookup n with
   |some c=>Bx cells r ((n,c)::cs)
   |none=>Bx cells r cs
  else Bx cells r cs
theorem R0{env:Env}:∀(names:List (Str×NameKind)) (cs:List (Str×Addr)),(names.all fun y=>!(y.2 == .free)||(env.cells.lookup y.1).isSome)=true→
  (forIn names cs fun(x:Str×NameKind) (r:List (Str×Addr))=>(if (x.2 == NameKind.free)=true then do let __do_lift ←cellOf env x.1;pure (ForInStep.yield ((x.1,__do_lift)::r)) else pure (ForInStep.yield r):Sem (ForInStep (List (Str×Addr)))))=pure (Bx env.cells names cs):=by
 intro names
 induction names with
 |nil=>intro cs _;rw[List.forIn_nil];rfl
 |cons y r ih=>
  intro cs h
  obtain⟨n,k⟩:=y
  rw[List.all_cons,Bool.and_eq_true] at h
  rw[List.forIn_cons]
  by_cases hk:(k == NameKind.free)=true
  ·have hs:(env.cells.lookup n).isSome=true:=by
    have h1:=h.1
    simp only[hk,Bool.not_true,Bool.false_or] at h1
    exact h1
   obtain⟨c,hc⟩:=Option.isSome_iff_exists.mp hs
   simp only[hk,if_true,Bx,hc,cellOf]
   exact ih _ h.2
  ·simp only[hk,Bx]
   exact ih _ h.2
theorem Dr{cells:List (Str×Addr)}:∀(names:List (Str×NameKind)) (cs:List (Str×Addr)),(∀x c,cs.lookup x=some c→cells.lookup x=some c)→∀x c,(Bx cells names cs).lookup x=some c→cells.lookup x=some c
 |[],cs,h,x,c,e=>h x c e
 |(n,k)::r,cs,h,x,c,e=>by
  unfold Bx at e
  split at e
  ·split at e
   ·rename_i c' hc
    refine Dr r _ (fun y d z=>?_) x c e
    by_cases hy:y=n
    ·subst hy
     rw[List.lookup_cons_self] at z
     cases z
     exact hc
    ·rw[List.lookup_cons,beq_false_of_ne hy] at z
     exact h y d z
   ·exact Dr r _ h x c e
  ·exact Dr r _ h x c e
theorem Et{cells:List (Str×Addr)}:∀(names:List (Str×NameKind)) (cs:List (Str×Addr)) (x:Str),(names.all fun y=>!(y.2 == .free)||(cells.lookup y.1).isSome)=true→((x,NameKind.free)∈names∨∃c,cs.lookup x=some c)→∃c,(Bx cells names cs).lookup x=some c
 |[],cs,x,_,h=>h.elim (fun z=>nomatch z) id
 |(n,k)::r,cs,x,ha,h=>by
  rw[List.all_cons,Bool.and_eq_true] at ha
  unfold Bx
  by_cases hk:(k == NameKind.free)=true
  ·have hs:(cells.lookup n).isSome=true:=by
    have h1:=ha.1
    simp only[hk,Bool.not_true,Bool.false_or] at h1
    exact h1
   obtain⟨c,hc⟩:=Option.isSome_iff_exists.mp hs
   rw[if_pos hk,hc]
   refine Et r _ x ha.2 ?_
   by_cases hx:x=n
   ·subst hx;exact .inr ⟨c,List.lookup_cons_self⟩
   ·rcases h with h|⟨d,h⟩
    ·rcases List.mem_cons.mp h with z|z
     ·cases z;exact absurd rfl hx
     ·exact .inl z
    ·exact .inr ⟨d,by rw[List.lookup_cons,beq_false_of_ne hx];exact h⟩
  ·rw[if_neg hk]
   refine Et r _ x ha.2 (h.imp (fun z=>?_) id)
   rcases List.mem_cons.mp z with z|z
   ·cases z;exact absurd rfl hk
   ·exact z
def Fg(P:Gp→Prop)(G:Gp):Prop:=∃G',Sub G' G∧P G'
theorem Fg.of{P:Gp→Prop}{G:Gp}(h:P G):Fg P G:=⟨G,Sub.refl G,h⟩
def V4(n:Nat)(σ σ2:DSt):Prop:=∃pre,pre.length=n∧σ2=pre++σ
def Oi(n:Nat)(p:Addr)(ds:List D)(same:Gp→Prop)(g:DTG)(tf:DTT)(te:DTE)(σ:DSt)(G:Gp)(Q:DK):Prop:=∃P:Nat→List D→Gp→Prop,P 0 [] G∧(∀i ys G,i≤ds.length→P i ys G→same G∧G p=some (.lst ys))∧
 (∀i x ys G,ds[i]? = some x→P i ys G→g x (List.replicate n none++σ) G fun σ2 G2=>V4 n σ σ2∧tf σ2 G2 fun b G3=>if b=true then te σ2 G3 fun y G4=>G4 p=some (.lst ys)∧ys.length<sizeLine∧Fg (P (i+1) (ys++[y])) (Ae G4 p (.lst (ys++[y]))) else Fg (P (i+1) ys) G3)∧
 ∀ys G,P ds.length ys G→Q (.ref p) G
theorem Rg{K:W.Frag}{H:Hp}{σD:DSt}{σ:St}(n:Nat)(r:RelS K H σD σ):RelS K H (List.replicate n none++σD) (List.replicate n none++σ):=by
 refine⟨by simp[r.1],fun i d e=>?_⟩
 by_cases hi:i<n
 ·rw[List.getElem?_append_left (by simpa using hi),List.getElem?_replicate,if_pos hi] at e
  cases e
 ·rw[List.getElem?_append_right (by simpa using hi)] at e ⊢
  simp only[List.length_replicate] at e ⊢
  exact r.2 _ d e
section
variable{X:Cx}{elt iter:Expr}{x:Str}{px:Pos}{ifs:List Expr}{scope:Scope}{pos:Pos}{ti te:DTE}{tf:DTT}{T:List Str}
def QF(X:Cx)(ifs:List Expr)(t:DTT):Prop:=PF X ifs (Gd X.K t)
def Jd:DTT:=fun _ G Q=>Q true G
theorem qf_nil:QF X [] Jd:=fun pins s σ H Q I ⟨σD,G,Q',rs,rg,h,cl⟩=>Ty pins s σ H Q I (cl _ G h H (Ext.refl H) rg)
theorem Tk{c:Expr}{t:DTT}(h:QT X c t):QF X [c] t:=Tx h
end
end D3
namespace D3
open PySem PySem.Spec
open PyProof.Rows hiding St
open L2 hiding St
def C8(G:Gp):D→Option String
 |.non=>some "NoneType"
 |.bl _=>some "bool"
 |.int _=>some "int"
 |.str _=>some "str"
 |.tup _=>some "tuple"
 |.ref a=>match G a with
  |some (.lst _)=>some "list"
  |some (.dct _)=>some "dict"
  |some (.dkk _)=>some "dict"
  |_=>none
 |_=>none
theorem Kr{G:Gp}{i:List D}:C8 G (.tup i)=some "tuple":=rfl
def pyIs(t c:String):Bool:=t == c||(t == "bool" && c == "int")
def Sm(t c:String):Option Bool:=if (Value.type t == Value.type c)=true then some true else if PySem.W.kitMeta c=true then (fastBuiltinMro t).map (·.contains (.type c)) else none
theorem Ul(K:PySem.W.Frag)(t c:String):PySem.W.kitOne K (.type t) (.type c)=Sm t c:=rfl
abbrev tNames:List String:=["NoneType", "bool", "int", "str", "tuple", "list", "dict"]
abbrev cNames:List String:=["int", "bool", "tuple", "list", "str", "dict"]
theorem P5:(tNames.all fun t=>cNames.all fun c=>Sm t c == some (pyIs t c))=true:=by decide +kernel
theorem K1{G:Gp}{d:D}{t:String}(h:C8 G d=some t):t∈tNames:=by
 cases d<;>simp only[C8] at h<;>first
  |(cases h;decide)
  |(split at h<;>first|(cases h;decide)|cases h)
  |cases h
theorem Qv{K:W.Frag}{H:Hp}{G:Gp}{d:D}{v:V}{t:String}(rg:RelG K H G)(h:C8 G d=some t)(dv:DV K H d v):TyOf K H v (.type t):=by
 cases dv with
 |non=>cases h;exact .non
 |bl b=>cases h;exact .bl b
 |int i=>cases h;exact .int i
 |str x=>cases h;exact .str x
 |tup e r=>cases h;exact .tup e
 |ty n=>cases h
 |lint e=>cases h
 |ref a=>
  simp only[C8] at h
  split at h
  ·rename_i ds q;cases h;obtain⟨xs,e,_⟩:=rg a _ q;exact .lst e
  ·rename_i ds q;cases h;obtain⟨xs,e,_⟩:=rg a _ q;exact .dT e
  ·rename_i ds q;cases h;obtain⟨xs,e,_⟩:=rg a _ q;exact .dK e
  ·cases h
theorem Uy:("int"∈cNames)=True:=by decide
theorem Rz:("bool"∈cNames)=True:=by decide
theorem Fv:("tuple"∈cNames)=True:=by decide
def Kn(G:Gp)(d:D):Prop:=∃t,C8 G d=some t
section
variable{X:Cx}
theorem c_isinst:QC X (.builtin "isinstance") (fun ds G Q=>∃x c,ds=[x,.ty c]∧c∈cNames∧∃t,C8 G x=some t∧Q (.bl (pyIs t c)) G):=by
 intro pins s σ H xs us Q I r ⟨ds,G,Q',dv,rg,⟨x,c,e,hc,t,ht,q⟩,cl⟩
 subst e
 obtain⟨v,w,rfl,d1,d2⟩:=dv.two
 cases d2
 obtain⟨u1,u2,rfl,r1,r2⟩:=Ln r
 cases r2
 have hk:PySem.W.kitOne X.K (.type t) (.type c)=some (pyIs t c):=by
  rw[Ul]
  have h1:=List.all_eq_true.mp P5 t (K1 ht)
  have h2:=List.all_eq_true.mp h1 c hc
  exact beq_iff_eq.mp h2
 refine Nm I r1 (Qv rg ht d1) hk fun tk=>?_
 exact⟨.bl (pyIs t c),H,I.tok _,rfl,cl _ G q H (Ext.refl H) rg _ (.bl _)⟩

theorem Nx(hc:X.calm=true):CallR X (.builtin "all") (fun xs H Q=>∃(a:Addr) (bs:List Bool),xs=[.ref a]∧SqL X.K H a (bs.map V.bl)∧Q (.bl (bs.all id)) H):=by
 intro pins s σ H xs us Q I r h
 obtain⟨a,bs,rfl,hq,q⟩:=h
 obtain⟨u,rfl,ru⟩:=Fa r
 cases ru
 obtain⟨its,rv,p,hz⟩:=I.list hq
 refine call_all_walk ?_
 refine wpAny_pyIter_list p.isList ?_
 have hlt:a<s.heap.objs.size:=by obtain⟨_,_,e,_⟩:=p;exact Heap.lt_size e
 refine⟨s.heap.objs.size,_,_,_,_,_,fun i=>(bs[i]?).getD true,rfl,Walks.list (A:=X.A.in1) (I.ok.hd hc) _ _ (Nat.ne_of_lt hlt) its.toArray,⟨⟨_,Heap.get?_push_size _ rfl,rfl,rfl⟩,p.isList.push _⟩,?_,?_⟩
 ·intro i v s' Q' E' hP hQ
  have hv:its[i]? = some v:=by simpa using hP
  have hb:∃b,bs[i]? = some b∧v=Value.bool b:=by
   have key:∀(bs:List Bool) (its:List Value),Vals (bs.map V.bl) its→∀(i:Nat) (v:Value),its[i]? = some v→∃b,bs[i]? = some b∧v=Value.bool b:=by
    intro bs
    induction bs with
    |nil=>intro its r i v e;cases r;simp at e
    |cons b bs ih=>
     intro its r i v e
     rw[List.map_cons] at r
     cases r with
     |cons r1 r2=>
      cases i with
      |zero=>simp at e;subst e;cases r1;exact⟨b,rfl,rfl⟩
      |succ i=>simpa using ih _ r2 i v (by simpa using e)
   exact key bs its rv i v hv
  obtain⟨b,eb,rfl⟩:=hb
  refine wpAny_truthy_bool ?_
  have:(bs[i]?).getD true=b:=by rw[eb];rfl
  dsimp only at hQ;rw[this] at hQ;exact hQ
 ·intro h' tk hk
  have hl:=rv.length
  rw[List.length_map] at hl
  have e:((List.range its.toArray.size).all fun i=>(bs[i]?).getD true)=bs.all id:=by
   rw[List.size_toArray,←hl,Bool.eq_iff_iff,List.all_eq_true,List.all_eq_true]
   constructor
   ·intro h b hb
    obtain⟨i,hi,e⟩:=List.getElem_of_mem hb
    have:=h i (List.mem_range.mpr hi)
    rw[List.getElem?_eq_getElem hi,e] at this
    exact this
   ·intro h i hi
    have hi:=List.mem_range.mp hi
    rw[List.getElem?_eq_getElem hi]
    exact h _ (List.getElem_mem hi)
  refine⟨.bl (bs.all id),H,I.kept (t':=tk) fun b o eb=>hk b o (fun z=>?_) (Heap.get?_push_of_some _ eb),by rw[e];rfl,q⟩
  have:b=s.heap.objs.size:=by simpa using z
  subst this
  exact absurd (Heap.lt_size eb) (Nat.lt_irrefl _)
theorem O3{K:W.Frag}{H:Hp}:∀{bs:List Bool} {vs:List V},DVs K H (bs.map D.bl) vs→vs=bs.map V.bl
 |[],_,r=>by cases r;rfl
 |b::bs,_,r=>by
  cases r with
  |cons h t=>cases h;rw[O3 t];rfl
theorem c_all(hc:X.calm=true):QC X (.builtin "all") (fun ds G Q=>∃a,ds=[.ref a]∧∃bs:List Bool,G a=some (.lst (bs.map D.bl))∧Q (.bl (bs.all id)) G):=(Nx hc).imp fun xs H Q ⟨ds,G,Q',dv,rg,⟨a,e,bs,eg,q⟩,cl⟩=>by
 subst e
 obtain⟨v,rfl,r⟩:=dv.one
 cases r
 obtain⟨ys,ey,ry⟩:=rg a _ eg
 have:=O3 ry
 subst this
 exact⟨a,bs,rfl,.inl (.inl ey),cl _ G q H (Ext.refl H) rg _ (.bl _)⟩
theorem B9{n i0:Nat}{p:Addr}{ds:List D}{same:Gp→Prop}{tf:DTT}{te:DTE}{σ:DSt}{G:Gp}{Q:DK}(f:D→D)(c:D→Bool)(hz:ds.length<sizeLine)(hsm:∀ys,same (Ae G p (.lst ys)))(h0:i0<n)(hs:∀x ys,x∈ds→ys.length<sizeLine→∀(R1:D→Gp→Prop) (R2:Gp→Prop),(c x=true→R1 (f x) (Ae G p (.lst (ys++[f x]))))→(c x=false→R2 (Ae G p (.lst ys)))→
   tf ((List.replicate n none++σ).set i0 (some x)) (Ae G p (.lst ys)) fun b G3=>if b=true then te ((List.replicate n none++σ).set i0 (some x)) G3 fun y G4=>G4 p=some (.lst ys)∧ys.length<sizeLine∧Fg (R1 y) (Ae G4 p (.lst (ys++[y]))) else Fg R2 G3)(hq:Q (.ref p) (Ae G p (.lst ((ds.filter c).map f)))):Oi n p ds same (A5 i0) tf te σ (Ae G p (.lst [])) Q:=by
 refine⟨fun i ys G'=>ys=((ds.take i).filter c).map f∧Ae G p (.lst ys)=G',⟨rfl,rfl⟩,?_,?_,?_⟩
 ·rintro i ys _ _ ⟨_,rfl⟩
  exact⟨hsm ys,Aa⟩
 ·rintro i x ys _ hx ⟨e,rfl⟩
  have hi:=(List.getElem?_eq_some_iff.mp hx).1
  have hl:ys.length<sizeLine:=by
   rw[e,List.length_map]
   refine Nat.lt_of_le_of_lt (List.length_filter_le _ _) ?_
   rw[List.length_take];omega
  have tk:ds.take (i+1)=ds.take i++[x]:=by rw[List.take_add_one,hx];rfl
  refine⟨⟨(List.replicate n none).set i0 (some x),by simp,by rw[List.set_append_left _ _ (by simpa using h0)]⟩,?_⟩
  refine hs x ys (List.mem_of_getElem? hx) hl (fun y G'=>ys++[y]=((ds.take (i+1)).filter c).map f∧Ae G p (.lst (ys++[y]))=G') (fun G'=>ys=((ds.take (i+1)).filter c).map f∧Ae G p (.lst ys)=G') (fun hc=>⟨?_,rfl⟩) (fun hc=>⟨?_,rfl⟩)
  ·rw[tk,List.filter_append,List.map_append,←e];simp[hc]
  ·rw[tk,List.filter_append,List.map_append,←e];simp[hc]
 ·rintro ys _ ⟨e,rfl⟩
  rw[List.take_length] at e
  rw[e];exact hq
end
end D3
namespace D3
open PySem PySem.Spec
open PyProof.Rows hiding St
open L2 hiding St
mutual
inductive RepD (G:Gp):D→PyData→Prop where
 |non:RepD G .non .none
 |bl (b:Bool):RepD G (.bl b) (.bool b)
 |int (i:Int):RepD G (.int i) (.int i)
 |str (x:Str):RepD G (.str x) (.str x)
 |tup {ds:List D} {ps:List PyData} (r:RepDs G ds ps):RepD G (.tup ds) (.tuple ps)
 |lst {a:Addr} {ds:List D} {ps:List PyData} (e:G a=some (.lst ds)) (r:RepDs G ds ps):RepD G (.ref a) (.list ps)
 |dct0 {a:Addr} (e:G a=some (.dkk [])):RepD G (.ref a) (.dict [])
inductive RepDs (G:Gp):List D→List PyData→Prop where
 |nil:RepDs G [] []
 |cons {d:D} {p:PyData} {ds:List D} {ps:List PyData} (h:RepD G d p) (t:RepDs G ds ps):RepDs G (d::ds) (p::ps)
end
section
variable{P:Program}{w:World}{K:W.Frag}{H:Hp}{G:Gp}{h:Heap}
mutual
theorem Eb(rg:RelG K H G)(ok:HOk P w H h):∀{d:D} {p:PyData} {v:V} {u:Value},RepD G d p→DV K H d v→RelV v u→∃as,Reads h u p as∧∀b∈as,H b≠none
 |_,_,_,_,.non,dv,r=>by cases dv;cases r;exact⟨_,.none,by simp⟩
 |_,_,_,_,.bl b,dv,r=>by cases dv;cases r;exact⟨_,.bool b,by simp⟩
 |_,_,_,_,.int i,dv,r=>by cases dv;obtain⟨t,rfl⟩:=r;exact⟨_,.int i t,by simp⟩
 |_,_,_,_,.str x,dv,r=>by cases dv;obtain⟨t,rfl⟩:=r;exact⟨_,.str x t,by simp⟩
 |_,_,_,_,.tup rs,dv,r=>by
  cases dv with
  |@tup _ a xs e ds=>
   cases r
   obtain⟨_,its,rv,o,h1,h2,n,h3⟩:=(show ObjOk P w H h a (.tup xs) from ok a _ e)
   obtain⟨as,ra,hb⟩:=Df rg ok rs ds rv
   exact⟨_,.tuple h1 h2 h3 (by simpa using ra),hb⟩
 |_,_,_,_,@RepD.lst _ a _ _ e rs,dv,r=>by
  cases dv with
  |ref=>
   cases r
   obtain⟨xs,ex,ds⟩:=rg _ _ e
   obtain⟨_,its,n,rv,h1⟩:=(show ObjOk P w H h a (.lst xs) from ok a _ ex)
   obtain⟨as,ra,hb⟩:=Df rg ok rs ds rv
   refine⟨_,.list h1 rfl rfl (by simpa using ra),fun b hm=>?_⟩
   rcases List.mem_cons.mp hm with z|z
   ·subst z;rw[ex];simp
   ·exact hb b z
 |_,_,_,_,@RepD.dct0 _ a e,dv,r=>by
  cases dv with
  |ref=>
   cases r
   obtain⟨ks,ex,ds⟩:=rg _ _ e
   cases ds
   obtain⟨_,_,vs,rv,o,es,ep,h1,h2,h3,_,h4,_⟩:=(show ObjOk P w H h a (.dK []) from ok a _ ex)
   cases rv
   have he:es.toList=[]:=by
    revert h4
    cases es.toList with
    |nil=>intro _;rfl
    |cons x r=>intro h4;exact absurd h4 (by intro z;cases z)
   refine⟨_,.dict (kvs:=[]) h1 h2.1 h3 (by rw[he];exact .nil) (by rw[he];exact .nil),fun b hm=>?_⟩
   have:b=a:=by simpa using hm
   subst this
   rw[ex];simp
theorem Df(rg:RelG K H G)(ok:HOk P w H h):∀{ds:List D} {ps:List PyData} {vs:List V} {us:List Value},RepDs G ds ps→DVs K H ds vs→Vals vs us→∃as,ReadsAll h us ps as∧∀b∈as,H b≠none
 |_,_,_,_,.nil,dv,r=>by cases dv;cases r;exact⟨_,.nil,by simp⟩
 |_,_,_,_,.cons hd tl,dv,r=>by
  cases dv with
  |cons d1 d2=>
   cases r with
   |cons r1 r2=>
    obtain⟨as,a,ha⟩:=Eb rg ok hd d1 r1
    obtain⟨bs,b,hb⟩:=Df rg ok tl d2 r2
    exact⟨_,.cons a b,fun x hx=>(List.mem_append.mp hx).elim (ha x) (hb x)⟩
end
end
theorem Hy{X:Cx}{pins:List (Addr×Obj)}{σ:St}{H:Hp}{s:Shared}(I:Inv X pins σ H s):H sysModules=none:=by
 obtain⟨mm,o,es,ep,e,_⟩:=I.mod.sm
 exact(I.bs _ _ e).2
section
variable{X:Cx}{k:Nat}
def S3:DR2:=fun x y G Q=>∃p q,RepD G x p∧RepD G y q∧p.canLay0=true∧q.canLay0=true∧min p.depth q.depth≤100∧Q (.bl (!PyData.eqv p q)) G
theorem Qy{A:Around}(hr:Room k A){n:Nat}(h:n≤100):A.units+n<cLine:=by have:=hr.un;omega
theorem Vz(hr:Room k X.A):QOp X (compareOp .NotEq) S3:=by
 intro pins s σ H x y v u Q I rx ry ⟨dx,dy,G,Q',hx,hy,rg,⟨p,q,rp,rq,c1,c2,hd,h⟩,cl⟩
 obtain⟨as,ra,hfa⟩:=Eb rg I.hok rp hx rx
 obtain⟨bs,rb,hfb⟩:=Eb rg I.hok rq hy ry
 exact SeqAt.compareNe_reads ra rb c1 c2 (Qy hr hd) ⟨.bl _,H,I,rfl,cl _ G h H (Ext.refl H) rg _ (.bl _)⟩
theorem Hw(hr:Room k X.A):QC X (.builtin "repr") (fun ds G Q=>∃d,ds=[d]∧∃p,RepD G d p∧p.showable=true∧p.shown.length≤sizeLine∧p.depth≤99∧Q (.str p.shown) G):=by
 intro pins s σ H xs us Q I r ⟨ds,G,Q',dv,rg,⟨d,e,p,rp,h1,h2,h3,q⟩,cl⟩
 subst e
 obtain⟨v,rfl,d1⟩:=dv.one
 obtain⟨u,rfl,r1⟩:=Fa r
 have fin:∀(h':Heap) (tk:Nat) (t:Tok),(∀b o,s.heap.get? b=some o→h'.get? b=some o)→EP X pins σ Q (.str p.shown t) { s with heap:=h',toks:=tk }:=fun h' tk t kp=>
  ⟨.str p.shown,H,I.kept kp,⟨t,rfl⟩,cl _ G q H (Ext.refl H) rg _ (.str _)⟩
 obtain⟨as,ra,hfa⟩:=Eb rg I.hok rp d1 r1
 cases ra with
 |none=>exact PySem.P.repr_of_none (fin s.heap _ _ fun _ _ e=>e)
 |bool b=>exact PySem.P.repr_of_bool (fin s.heap _ _ fun _ _ e=>e)
 |int i t=>exact PySem.P.repr_of_int (of_decide_eq_true h1) (fin s.heap _ _ fun _ _ e=>e)
 |str x t=>exact PySem.P.repr_of_str (fin s.heap _ _ fun _ _ e=>e) h2
 |list a1 a2 a3 a4=>exact repr_of_reads' (.list a1 a2 a3 a4) h1 (fun _ z=>hfa _ z (Hy I)) hr.gd (by have:=hr.un;omega) (fun _ _ e=>e) (fun h' u tk kp=>fin h' tk u kp) h2
 |tuple a1 a2 a3 a4=>exact repr_of_reads' (.tuple a1 a2 a3 a4) h1 (fun _ z=>hfa _ z (Hy I)) hr.gd (by have:=hr.un;omega) (fun _ _ e=>e) (fun h' u tk kp=>fin h' tk u kp) h2
 |dict a1 a2 a3 a4 a5=>exact repr_of_reads' (.dict a1 a2 a3 a4 a5) h1 (fun _ z=>hfa _ z (Hy I)) hr.gd (by have:=hr.un;omega) (fun _ _ e=>e) (fun h' u tk kp=>fin h' tk u kp) h2

end
end D3
namespace D3
open PySem PySem.Spec
open PyProof.Rows hiding St
open L2 hiding St
section
variable{prog:Program}{w:World}{A:Around}{E:Value→Shared→Prop}{s:Shared}
end
section
variable{X:Cx}{a b c e:Expr}{ta tb tc te:DTE}{pos p2:Pos}{lo hi:Option Expr}
def Ve(xs:List D)(lo hi:Option Int):List D:=(xs.drop (HT.sIx xs.length 0 lo)).take (HT.sIx xs.length xs.length hi-HT.sIx xs.length 0 lo)
def sliceD(G:Gp)(x:D)(lo hi:Option Int)(Q:DK):Prop:=match x with
 |.tup ds=>Q (.tup (Ve ds lo hi)) G
 |.ref a=>match G a with
  |some (.lst ds)=>∀p,G p=none→Q (.ref p) (Ae G p (.lst (Ve ds lo hi)))
  |_=>False
 |_=>False
theorem Qc{prog:Program}{w:World}{A:Around}{E:Value→Shared→Prop}{s:Shared}{t b:Addr}{ws:List Value}{Q:Value→Shared→Prop}(ht:IsTup s.heap t #[])(hb:IsTup s.heap b ws.toArray)(h1:Q (.ref b) s) :
  wpAny (model prog w) A (binaryOp .Add (.ref t) (.ref b)) Q E s:=by
 obtain⟨⟨cls,dd,data,sl⟩,ho,hc,n,hd⟩:=id ht
 obtain⟨⟨cls2,dd2,data2,sl2⟩,ho2,hc2,n2,hd2⟩:=id hb
 simp only at hc hd hc2 hd2
 subst hc hd hc2 hd2
 exact concat_meets ⟨_,ho,rfl⟩ ⟨_,ho2,rfl⟩ noFill_tuple_add seq_tuple_add PySem.F.slot_tuple_add PySem.F.entry_tuple_add (PySem.F.args_tuple_add_2 _ _)
   (tuple_addW0 t b #[] ws.toArray n n2 dd dd2 sl sl2 rfl) ⟨ho,ho2,h1⟩
def S7:DR2:=fun x y G Q=>match x,y with
 |.int i,.int j=>Q (.int (i+j)) G
 |.tup xs,.tup ys=>xs.length+ys.length≤sizeLine∧Q (.tup (xs++ys)) G
 |.ref a,.ref b=>match G a,G b with
  |some (.lst xs),some (.lst ys)=>xs.length+ys.length≤sizeLine∧∀p,G p=none→Q (.ref p) (Ae G p (.lst (xs++ys)))
  |_,_=>False
 |_,_=>False
theorem Be:QOp X (binaryOp .Add) S7:=by
 intro pins s σ H x y v u Q I rx ry ⟨dx,dy,G,Q',hx,hy,rg,h,cl⟩
 cases hx with
 |int i=>
  cases hy with
  |int j=>exact Ub pins s σ H _ _ v u Q I rx ry ⟨i,j,rfl,rfl,cl _ G h H (Ext.refl H) rg _ (.int _)⟩
  |_=>exact h.elim
 |@tup xs a vs ea ra=>
  cases hy with
  |@tup ys b ws eb rb=>
   obtain⟨hl,h⟩:=h
   by_cases hne:vs=[]
   ·subst hne
    cases ra
    cases rx;cases ry
    obtain⟨its,r1,p1,_⟩:=I.tuple (.inl (.inl ea))
    obtain⟨its2,r2,p2,_⟩:=I.tuple (.inl (.inl eb))
    cases r1
    exact Qc p1 p2 ⟨.ref b,H,I,rfl,cl _ G h H (Ext.refl H) rg _ (.tup eb rb)⟩
   ·refine Rj pins s σ H _ _ v u Q I rx ry ⟨a,b,vs,ws,rfl,rfl,.inl (.inl ea),.inl (.inl eb),hne,by rw[←ra.length,←rb.length];exact hl,?_,fun _ p hp=>cl _ G h _ (Ext.fresh hp) (rg.tup hp) _ (.tup A4 ((ra.append rb).ext (Ext.fresh hp)))⟩
    intro z
    subst z;cases rb
    rw[List.append_nil] at h
    exact cl _ G h H (Ext.refl H) rg _ (.tup ea ra)
  |_=>exact h.elim
 |ref a=>
  cases hy with
  |ref b=>
   simp only[S7] at h
   split at h
   ·rename_i xs ys ga gb
    obtain⟨hl,h⟩:=h
    obtain⟨vs,ea,ra⟩:=rg a _ ga
    obtain⟨ws,eb,rb⟩:=rg b _ gb
    exact Ua pins s σ H _ _ v u Q I rx ry ⟨a,b,vs,ws,rfl,rfl,ea,eb,by rw[←ra.length,←rb.length];exact hl,fun p hp=>cl _ _ (h p (rg.free hp)) _ (Ext.fresh hp) (rg.lst hp (ra.append rb)) _ (.ref p)⟩
   ·exact h.elim
  |_=>exact h.elim
 |_=>exact h.elim
theorem Ch{i j:Int}{G:Gp}{Q:DK}:S7 (.int i) (.int j) G Q=Q (.int (i+j)) G:=rfl
end
end D3
namespace D3
open PySem PySem.Spec
open PyProof.Rows hiding St
open L2 hiding St
structure Src where
 it:Addr
 l:Addr
 tp:Bool
def Src.At(h:Heap)(c:Src)(i:Nat):Prop:=if c.tp=true then h.IsTupleIter c.it c.l i else h.IsListIter c.it c.l i
def Src.Sq(h:Heap)(c:Src)(xs:Array Value):Prop:=if c.tp=true then h.IsTuple c.l xs else h.IsList c.l xs
theorem Src.At.keep{h h':Heap}{c:Src}{i:Nat}(x:c.At h i)(k:∀o,h.get? c.it=some o→h'.get? c.it=some o):c.At h' i:=by
 unfold Src.At at x ⊢
 split at x
 ·rename_i e;rw[if_pos e];exact x.at k
 ·rename_i e;rw[if_neg e];exact x.at k
theorem Src.Sq.keep{h h':Heap}{c:Src}{xs:Array Value}(x:c.Sq h xs)(k:∀o,h.get? c.l=some o→h'.get? c.l=some o):c.Sq h' xs:=by
 unfold Src.Sq at x ⊢
 split at x
 ·rename_i e;rw[if_pos e];exact x.at k
 ·rename_i e;rw[if_neg e];exact x.at k
section
variable{prog:Program}{w:World}{A:Around}{E:Value→Shared→Prop}{s:Shared}
end
end D3
namespace D3
open PySem PySem.Spec
open PyProof.Rows hiding St
open L2 hiding St
section
variable{X:Cx}{pins:List (Addr×Obj)}{σ:St}{H:Hp}{s:Shared}
end
end D3
namespace D3
open PySem PySem.Spec
open PyProof.Rows hiding St
open L2 hiding St
section
variable{X:Cx}{pins:List (Addr×Obj)}{σ:St}{H:Hp}{s:Shared}{E:Value→Shared→Prop}
end
end D3
namespace D3
open PySem PySem.Spec
open PyProof.Rows hiding St
open L2 hiding St
structure ItemsX(K:PySem.W.Frag)(J:It)(H:Hp)(ds:List D):Prop where
 go:∀i,i<ds.length→J.go i H
 yl:∀i x H',i<ds.length→J.yld i H x H'→Ext H H'∧(∀G,RelG K H G→RelG K H' G)∧∃d,ds[i]? = some d∧DV K H' d x
 st:J.stop ds.length H
section
variable{X:Cx}{a b c e:Expr}{elts:List Expr}{kk:Nat}{tp p pos:Pos}{body:List Stmt}
end
end D3
namespace D3
open PySem PySem.Spec
open PyProof.Rows hiding St
open L2 hiding St
def A3(scope:Scope)(cl:List (Str×Addr))(C:Addr):List (Str×Addr):=cellsFrom (C+1) scope.names cl
def A9(X:Cx)(scope:Scope)(cl:List (Str×Addr))(T M:List Str)(s:Shared)(H:Hp)(fp:List Addr):Cx where
 prog:=X.prog
 w:=X.w
 K:=X.K
 mg:=X.mg
 base:=X.base
 A:=X.A
 N:=T++M
 s₀:=s
 H₀:=H
 env:=compEnvC scope (A3 scope cl s.heap.objs.size) s.heap.objs.size X.env
 outer:=X.stack
 stack:=X.stack
 ex:=fp
 fn:=fun x=>scope.names.lookup x == some .cell
 calm:=X.calm
 pn:=[]
 xe:=fun _ _=>False
structure CompOz(X:Cx)(scope:Scope)(cl:List (Str×Addr))(T M:List Str):Prop where
 clos:closureFor scope X.env=pure cl
 kind:scope.kind=.function
 names:∀y∈scope.names,y.2=.local→scope.names.lookup y.1=some .local
 nocl:∀y∈scope.names,y.2=.cell→scope.names.lookup y.1=some .cell
 sub:∀x c,cl.lookup x=some c→X.env.cells.lookup x=some c∧scope.names.lookup x=some .free
 has:∀x,scope.names.lookup x=some .free→∃c,cl.lookup x=some c
 len:M.length=X.N.length
 vis:∀(i:Nat) (x:Str),M[i]? = some x→∀k,scope.names.lookup x=some k→k≠.local∧k≠.cell∧(k=.free→X.N[i]? = some x∧(X.env.kindOf x=some .cell∨X.env.kindOf x=some .free))
theorem Bo{scope:Scope}{env:Env}{x:Str}:(relabel scope env).names.lookup x=(scope.names.lookup x).map fun k=>if (k == NameKind.free&&env.scope.kind == .function&&env.kindOf x == some .cell)=true then NameKind.cell else k:=by
 show(scope.names.map fun(n,k)=>if (k == NameKind.free&&env.scope.kind == .function&&env.kindOf n == some .cell) then (n,NameKind.cell) else (n,k)).lookup x=_
 generalize scope.names=names
 induction names with
 |nil=>rfl
 |cons y r ih=>
  obtain⟨n,k⟩:=y
  rw[List.map_cons]
  by_cases hx:x=n
  ·subst hx
   by_cases hc:(k == NameKind.free&&env.scope.kind == .function&&env.kindOf x == some .cell)=true
   ·simp only[hc,if_true,List.lookup_cons_self,Option.map_some]
   ·simp only[hc,Bool.false_eq_true,if_false,List.lookup_cons_self,Option.map_some]
  ·have e:∀k',List.lookup x ((n,k')::r)=List.lookup x r:=fun k'=>by rw[List.lookup_cons,beq_false_of_ne hx]
   rw[e,←ih]
   by_cases hc:(k == NameKind.free&&env.scope.kind == .function&&env.kindOf n == some .cell)=true
   ·simp only[hc,if_true];rw[List.lookup_cons,beq_false_of_ne hx]
   ·simp only[hc];rw[show(if false=true then (n,NameKind.cell) else (n,k))=(n,k) from rfl,List.lookup_cons,beq_false_of_ne hx]
theorem A7:∀(names:List (Str×NameKind)) (n:Nat) (acc:List (Str×Addr)),∃own,cellsFrom n names acc=own++acc∧(∀p∈own,(p.1,NameKind.cell)∈names∧n≤p.2)∧∀x,(x,NameKind.cell)∈names→∃c,own.lookup x=some c
 |[],n,acc=>⟨[],rfl,by simp,by simp⟩
 |(y,k)::r,n,acc=>by
  unfold cellsFrom
  by_cases hk:(k == NameKind.cell)=true
  ·rw[if_pos hk]
   obtain⟨own,e,h1,h2⟩:=A7 r (n+1) ((y,n)::acc)
   have hk':k=.cell:=by simpa using hk
   subst hk'
   refine⟨own++[(y,n)],by rw[e];simp,fun p hp=>?_,fun x hx=>?_⟩
   ·rcases List.mem_append.mp hp with hp|hp
    ·exact⟨List.mem_cons_of_mem _ (h1 p hp).1,by have:=(h1 p hp).2;omega⟩
    ·have:p=(y,n):=by simpa using hp
     subst this
     exact⟨by simp,Nat.le_refl _⟩
   ·rcases List.mem_cons.mp hx with z|z
    ·cases z
     rw[List.lookup_append]
     cases q:own.lookup y with
     |some c=>exact⟨c,rfl⟩
     |none=>exact⟨n,by simp⟩
    ·obtain⟨c,hc⟩:=h2 x z
     exact⟨c,by rw[List.lookup_append,hc];rfl⟩
  ·rw[if_neg hk]
   obtain⟨own,e,h1,h2⟩:=A7 r n acc
   refine⟨own,e,fun p hp=>⟨List.mem_cons_of_mem _ (h1 p hp).1,(h1 p hp).2⟩,fun x hx=>?_⟩
   rcases List.mem_cons.mp hx with z|z
   ·cases z;exact absurd rfl hk
   ·exact h2 x z
theorem C5{X:Cx}{scope:Scope}{cl:List (Str×Addr)}{T M:List Str}(ok:CompOz X scope cl T M)(C:Addr):∀x c,(A3 scope cl C).lookup x=some c→(scope.names.lookup x=some .cell∧C+1≤c)∨(cl.lookup x=some c∧scope.names.lookup x=some .free):=by
 intro x c h
 obtain⟨own,e,h1,h2⟩:=A7 scope.names (C+1) cl
 unfold A3 at h
 rw[e,List.lookup_append] at h
 cases q:own.lookup x with
 |some c'=>
  rw[q] at h
  have h:some c'=some c:=h
  cases h
  have:=h1 _ (PySem.mem_of_lookup q)
  exact .inl ⟨ok.nocl _ this.1 rfl,this.2⟩
 |none=>
  rw[q] at h
  have h:cl.lookup x=some c:=h
  exact .inr ⟨h,(ok.sub x c h).2⟩
theorem Dw{X:Cx}{scope:Scope}{cl:List (Str×Addr)}{T M:List Str}(ok:CompOz X scope cl T M)(C:Addr){x:Str}(hx:scope.names.lookup x=some .free):(A3 scope cl C).lookup x=cl.lookup x:=by
 obtain⟨own,e,h1,h2⟩:=A7 scope.names (C+1) cl
 unfold A3
 rw[e,List.lookup_append]
 cases q:own.lookup x with
 |some c'=>
  have:=ok.nocl _ (h1 _ (PySem.mem_of_lookup q)).1 rfl
  rw[hx] at this;cases this
 |none=>rfl
theorem Nr{X:Cx}{scope:Scope}{cl:List (Str×Addr)}{T M:List Str}{pins:List (Addr×Obj)}{σ:St}{H:Hp}{s s4:Shared}{fp:List Addr}{m:Str→Option Value}(ok:CompOz X scope cl T M)(I:Inv X pins σ H s)(hfp:∀b∈fp,E3 X pins H b∧b<s.heap.objs.size)(hn:s4.heap.Ns s.heap.objs.size m)(hk:∀b o,s.heap.get? b=some o→s4.heap.get? b=some o)(hos:s4.os=s.os)(hg:s4.gens=s.gens)(hc1:∀x c,(A3 scope cl s.heap.objs.size).lookup x=some c→scope.names.lookup x=some .cell→∃v,s4.heap.IsCell c v)(hc2:∀x y c,(A3 scope cl s.heap.objs.size).lookup x=some c→(A3 scope cl s.heap.objs.size).lookup y=some c→scope.names.lookup x=some .cell→x=y) :
  Inv (A9 X scope cl T M s H fp) [] (Sy T σ) H s4:=by
 have fr:∀{b:Addr},s.heap.objs.size≤b→H b=none:=fun h=>I.hok.fresh h
 have old:∀x c,cl.lookup x=some c→c<s.heap.objs.size:=fun x c e=>by
  obtain⟨v,o,ho,_⟩:=I.cell x c (ok.sub x c e).1
  exact Heap.lt_size ho
 have lk:=C5 ok s.heap.objs.size
 have inj:∀x y c,(A3 scope cl s.heap.objs.size).lookup x=some c→(A3 scope cl s.heap.objs.size).lookup y=some c→x=y:=fun x y c h1 h2=>by
  rcases lk x c h1 with ⟨a1,a2⟩|⟨a1,a2⟩
  ·exact hc2 x y c h1 h2 a1
  ·rcases lk y c h2 with ⟨b1,b2⟩|⟨b1,b2⟩
   ·exact absurd (Nat.lt_of_lt_of_le (old x c a1) (Nat.le_of_succ_le b2)) (Nat.lt_irrefl _)
   ·exact I.ok.inj x y c (ok.sub x c a1).1 (ok.sub y c b1).1
 have has:∀x,((relabel scope X.env).names.lookup x=some .cell∨(relabel scope X.env).names.lookup x=some .free)→∃c,(A3 scope cl s.heap.objs.size).lookup x=some c:=fun x hx=>by
  rw[Bo] at hx
  cases q:scope.names.lookup x with
  |none=>rw[q] at hx;simp at hx
  |some k=>
   rw[q] at hx
   simp only[Option.map_some] at hx
   by_cases hkf:k=.free
   ·subst hkf
    obtain⟨c,hc⟩:=ok.has x q
    exact⟨c,by rw[Dw ok _ q];exact hc⟩
   ·have:k=.cell:=by
     have hb:(k == NameKind.free)=false:=by simpa using hkf
     simp only[hb,Bool.false_and,Bool.false_eq_true,if_false,Option.some.injEq] at hx
     exact hx.elim id fun z=>absurd z hkf
    subst this
    obtain⟨own,e,h1,h2⟩:=A7 scope.names (s.heap.objs.size+1) cl
    obtain⟨c,hc⟩:=h2 x (PySem.mem_of_lookup q)
    exact⟨c,by unfold A3;rw[e,List.lookup_append,hc];rfl⟩
 refine⟨⟨I.ok.mod,ok.kind,I.ok.glob,I.ok.blt,Nat.le_refl _,inj,has,fun x c h h1=>?_,I.ok.hd,I.ok.frames,.inl rfl,fun b hb=>⟨Nat.ne_of_lt (hfp b hb).2,fun x c e=>?_⟩,I.bs,Nat.le_trans I.ok.bsz I.sz,fun b o e hb=>?_,fun b hb z=>?_,I.stack,I.stkFree⟩,
  hos,by rw[hg];exact I.bare,Un.kept hk,⟨m,hn,fun i x v e1 e2 e3=>?_⟩,fun x c e=>?_,fr (Nat.le_refl _),fun x c e=>?_,fun p hp=>absurd (show p∈([]:List (Addr×Obj)) from hp) (by simp),I.hok.kept hk,?_⟩
 ·have h:(scope.names.lookup x == some .cell)=true:=h
  have h:scope.names.lookup x=some .cell:=by simpa using h
  rcases lk x c h1 with ⟨_,a2⟩|⟨_,a2⟩
  ·exact Nat.le_of_succ_le a2
  ·rw[h] at a2;cases a2
 ·rcases lk x c e with ⟨_,a2⟩|⟨a1,a2⟩
  ·exact Nat.ne_of_gt (Nat.lt_of_lt_of_le (hfp b hb).2 (Nat.le_of_succ_le a2))
  ·exact(hfp b hb).1.2.2.2.2.1 x c (ok.sub x c a1).1
 ·rcases(hfp b hb).1.2.2.2.1 with z|z
  ·exact I.ok.noex b o e z
  ·exact absurd (Nat.lt_of_lt_of_le (Heap.lt_size e) (Nat.le_trans I.ok.bsz z)) (Nat.lt_irrefl _)
 ·rcases List.mem_cons.mp (I.stkSub b z) with e|e
  ·exact(hfp b hb).1.2.1 e
  ·exact(hfp b hb).1.2.2.1 e
 ·have e1:(T++M)[i]? = some x:=e1
  have e2:(List.replicate T.length none++σ)[i]? = some (some v):=e2
  by_cases hi:i<T.length
  ·rw[List.getElem?_append_left (by simpa using hi),List.getElem?_replicate,if_pos hi] at e2
   cases e2
  ·rw[List.getElem?_append_right (by omega)] at e1
   rw[List.getElem?_append_right (by simpa using hi),List.length_replicate] at e2
   have e3:Vis (relabel scope X.env) x:=e3
   have hq:∃k,scope.names.lookup x=some k∧k=.free:=by
    cases q:scope.names.lookup x with
    |none=>unfold Vis at e3;rw[Bo,q] at e3;simp at e3
    |some k=>
     obtain⟨v1,v2,_⟩:=ok.vis _ x e1 k q
     refine⟨k,rfl,?_⟩
     unfold Vis at e3
     rw[Bo,q] at e3
     by_cases hkf:k=.free
     ·exact hkf
     ·have hb:(k == NameKind.free)=false:=by simpa using hkf
      simp only[Option.map_some,hb,Bool.false_and,Bool.false_eq_true,if_false,Option.some.injEq] at e3
      rcases e3 with z|z|z
      ·exact absurd z v1
      ·exact absurd z v2
      ·exact z
   obtain⟨k,hq,rfl⟩:=hq
   obtain⟨e1,k2⟩:=(ok.vis _ x e1 _ hq).2.2 rfl
   obtain⟨m0,hn0,hl0⟩:=I.loc
   have v0:Vis X.env.scope x:=k2.elim (fun z=>.inr (.inl z)) fun z=>.inr (.inr z)
   obtain⟨u,r,l⟩:=hl0 _ x v e1 e2 v0
   have k1:(relabel scope X.env).names.lookup x=some .cell∨(relabel scope X.env).names.lookup x=some .free:=by
    rw[Bo,hq]
    simp only[Option.map_some]
    split
    ·exact .inl rfl
    ·exact .inr rfl
   refine⟨u,r,.inr ⟨k1,?_⟩⟩
   obtain⟨c,hc⟩:=ok.has x hq
   refine⟨c,(Dw ok _ hq).trans hc,?_⟩
   rcases l with ⟨l,_⟩|⟨_,c',hc',hv'⟩
   ·rcases k2 with z|z
    ·rw[l] at z;cases z
    ·rw[l] at z;cases z
   ·rw[(ok.sub x c hc).1] at hc'
    cases hc'
    obtain⟨o,ho,hd⟩:=hv'
    exact⟨o,hk _ _ ho,hd⟩
 ·rcases lk x c e with ⟨a1,a2⟩|⟨a1,a2⟩
  ·exact hc1 x c e a1
  ·obtain⟨v,o,ho,hd⟩:=I.cell x c (ok.sub x c a1).1
   exact⟨v,o,hk _ _ ho,hd⟩
 ·rcases lk x c e with ⟨a1,a2⟩|⟨a1,a2⟩
  ·exact fr (Nat.le_of_succ_le a2)
  ·exact I.freeC x c (ok.sub x c a1).1
 ·show(List.replicate T.length none++σ).length=(T++M).length
  rw[List.length_append,List.length_append,List.length_replicate,I.len,ok.len]

def Oj(P:Program)(w:World)(A:Around)(env:Env)(tg elt:Expr)(ifs:List Expr)(it acc:Value)(X:Value→Shared→Prop)(nxt:Shared→Prop)(v:Value)(t:Shared):Prop:=
 wpAny (model P w) A (letOwnedTupleGo tg it v) (fun _ a=>wpAny (model P w) A (assign tg env v) (fun _ b=>wpAny (model P w) A (Hv ifs env) (fun y c=>
  if y=true then wpAny (model P w) A (eval elt env) (fun e d=>wpAny (model P w) A (call (.builtin "list.append") [acc,e]) (fun _ f=>nxt f) X d) X c else nxt c) X b) X a) X t
theorem Kd{P:Program}{w:World}{A:Around}{R:Result→Shared→Prop}{s:Shared}{elt tg src:Expr}{ifs:List Expr}{sc:Scope}{pl:Pos}{it acc:Value}{env:Env}(V:Nat→Shared→Prop)(go:∀k t,V k t→wpAny (model P w) A (pyNext it) (fun r u=>match r with
   |none=>R (.ok .next) u
   |some v=>Oj P w A env tg elt ifs it acc (notedBy (model P w) A env fun e z=>R (.error e) z) (fun z=>∃m,m<k∧V m z) v u) (notedBy (model P w) A env fun e z=>R (.error e) z) t)(k:Nat)(h0:V k s):codeAny (model P w) A (.compLoop (.ListComp elt [⟨tg,src,ifs,0⟩] sc pl) 0 it acc env) R s:=by
 refine codeAny_loop rfl V (fun k t hv=>(show wpAny _ A ((compTurn (.ListComp elt [⟨tg,src,ifs,0⟩] sc pl) 0 it acc env).onRaise (fun x=>do noteFrame x env;theTreesLotGoes x)) _ _ t from wpAny_noted ?_)) k h0
 rw[compTurn_list];refine wpAny_bind (wpAny_standAt (wpAny_bind (wpAny_mono (go k t hv) (fun r u hr=>?_) fun _ _ z=>z)))
 cases r with
 |none=>exact wpAny_pure hr
 |some v=>
  refine wpAny_bind (wpAny_mono hr (fun _ a ha=>wpAny_bind (wpAny_mono ha (fun _ b hb=>wpAny_bind (wpAny_mono hb (fun y c hc=>?_) fun _ _ z=>z)) fun _ _ z=>z)) fun _ _ z=>z)
  cases y with
  |true=>exact wpAny_bind (wpAny_bind (wpAny_mono hc (fun e d hd=>wpAny_bind (wpAny_mono hd (fun _ f hf=>wpAny_pure (wpAny_pure ⟨rfl,hf⟩)) fun _ _ z=>z)) fun _ _ z=>z))
  |false=>refine wpAny_pure ⟨rfl,?_⟩;exact hc
theorem Px{M:Model}{A:Around}{E:Value→Shared→Prop}{s:Shared}{scope:Scope}{env:Env}{cl:List (Str×Addr)}{Q:Env→Shared→Prop}(hk:scope.kind=.function)(h:∀h':Heap,h'.Ns s.heap.objs.size (fun _=>none)→(∀b o,s.heap.get? b=some o→h'.get? b=some o)→CellsOk h' (s.heap.objs.size+1) (cellsFrom (s.heap.objs.size+1) scope.names [])→
   Q (newEnv scope s.heap.objs.size env.globals (A3 scope cl s.heap.objs.size) env.qual none .none (some env) builtinsNs) { s with heap:=h' }) :
  wpAny M A (newFunctionEnv scope env.globals cl [] env.qual none .none (some env)) Q E s:=by
 simp only[newFunctionEnv,Option.isSome_some,if_true];refine wpAny_bind (wpAny_alloc ?_)
 refine wpAny_bind (wpAny_layCells _ (fun name kind cells=>by cases hkc:kind == NameKind.cell<;>simp) _ _ _ _ ?_)
 have okc:=cellsFrom_ok scope.names (s.heap.push { cls:=.type "dict",data:=.dict #[] }) (s.heap.objs.size+1) [] ⟨fun _ _ hm=>(nomatch hm),List.Pairwise.nil⟩ (by rw[Heap.size_push];exact Nat.le_refl _)
 rw[Heap.size_push] at okc
 rw[show({ s with heap:=s.heap.push { cls:=.type "dict",data:=.dict #[] } }:Shared).heap.objs.size=s.heap.objs.size+1 from Heap.size_push ..]
 refine wpAny_bind ?_
 rw[List.forIn_nil]
 refine wpAny_pure (wpAny_pure ?_)
 exact h _ ((Heap.Ns.new s.heap (.type "dict")).keeps (pushCells_keeps _ _)) (fun b o e=>pushCells_keeps _ _ b o (Heap.get?_push_of_some _ e)) okc

theorem Bu:∀(names:List (Str×NameKind)) (n:Nat) (acc:List (Str×Addr)),cellsFrom n names acc=cellsFrom n names []++acc
 |[],n,acc=>rfl
 |(y,k)::r,n,acc=>by
  unfold cellsFrom
  split
  ·rw[Bu r (n+1) ((y,n)::acc),Bu r (n+1) [(y,n)]];simp
  ·exact Bu r n acc
theorem Ky{scope:Scope}{cl:List (Str×Addr)}{C:Addr}{x:Str}{c:Addr}(h:(A3 scope cl C).lookup x=some c)(hn:cl.lookup x=none∨C+1≤c)(old:∀x c,cl.lookup x=some c→c<C):(x,c)∈cellsFrom (C+1) scope.names []:=by
 unfold A3 at h
 rw[Bu,List.lookup_append] at h
 cases q:(cellsFrom (C+1) scope.names []).lookup x with
 |some c'=>
  rw[q] at h
  have h:some c'=some c:=h
  cases h
  exact PySem.mem_of_lookup q
 |none=>
  rw[q] at h
  have h:cl.lookup x=some c:=h
  rcases hn with z|z
  ·rw[z] at h;cases h
  ·exact absurd (Nat.lt_of_lt_of_le (old x c h) (Nat.le_of_succ_le z)) (Nat.lt_irrefl _)
theorem R4{X:Cx}{scope:Scope}{cl:List (Str×Addr)}{T M:List Str}{C:Addr}{h':Heap}(ok:CompOz X scope cl T M)(okc:CellsOk h' (C+1) (cellsFrom (C+1) scope.names []))(old:∀x c,cl.lookup x=some c→c<C) :
  ∀x c,(A3 scope cl C).lookup x=some c→scope.names.lookup x=some .cell→∃v,h'.IsCell c v:=fun x c h hx=>by
 rcases C5 ok C x c h with ⟨_,a2⟩|⟨_,a2⟩
 ·exact⟨_,(okc.empty x c (Ky h (.inr a2) old)).1⟩
 ·rw[hx] at a2;cases a2
theorem R3{X:Cx}{scope:Scope}{cl:List (Str×Addr)}{T M:List Str}{C:Addr}{h':Heap}(ok:CompOz X scope cl T M)(okc:CellsOk h' (C+1) (cellsFrom (C+1) scope.names []))(old:∀x c,cl.lookup x=some c→c<C) :
  ∀x y c,(A3 scope cl C).lookup x=some c→(A3 scope cl C).lookup y=some c→scope.names.lookup x=some .cell→x=y:=fun x y c h1 h2 hx=>by
 rcases C5 ok C x c h1 with ⟨_,a2⟩|⟨_,a2⟩
 ·exact name_of_addr okc.apart (Ky h1 (.inr a2) old) (Ky h2 (.inr a2) old)
 ·rw[hx] at a2;cases a2
def Tg(n:Nat)(wi:TI)(g:TG)(tf:TT)(te:TE):TE:=fun σ H Q=>wi σ H fun J H1=>∀p,H1 p=none→∃W:Nat→Nat→St→Hp→Prop,(∃m,W 0 m (List.replicate n none++σ) (upd H1 p (.lst [])))∧∀i m σ1 H,W i m σ1 H→
 ((J.stop i H∧Q (.ref p) H)∨(J.go i H∧∃N:St→Hp→Prop,(∀σ' H',N σ' H'→∃m',m'<m∧W (i+1) m' σ' H')∧
  ∀x H',J.yld i H x H'→g x σ1 H' fun σ2 H2=>tf σ2 H2 fun b H3=>if b=true then te σ2 H3 fun y H4=>∃ys,H4 p=some (.lst ys)∧ys.length<sizeLine∧N σ2 (upd H4 p (.lst (ys++[y]))) else N σ2 H3))
theorem Pl{X:Cx}{elt iter tg:Expr}{ifs:List Expr}{scope:Scope}{cl:List (Str×Addr)}{pos:Pos}{wi:TI}{g:TG}{tf:TT}{te:TE}{T M:List Str}(hc:X.calm=true)(ok:CompOz X scope cl T M)(hi:PI X tg iter wi)(hg:∀s H fp,PG (A9 X scope cl T M s H fp) tg g)(hf:∀s H fp,PF (A9 X scope cl T M s H fp) ifs tf)(he:∀s H fp,PE (A9 X scope cl T M s H fp) elt te)(hs:∀x,foldedSetIterable iter X.env x=pure x:=by intro _;rfl):PE X (.ListComp elt [⟨tg,iter,ifs,0⟩] scope pos) (Tg T.length wi g tf te):=by
 intro pins s σ H Q I h
 rw[eval_ListComp]
 refine wpAny_comprehension_free (use:=none) (cl:=cl) rfl hs ok.clos ok.kind ok.names (thn (hi pins s σ H _ I h) fun v s1 h1=>thn h1 fun itv s2 h2=>?_)
 obtain⟨it,fp,tn,J,H2,e,I2,Tn,st2,f2,q⟩:=h2
 subst e
 have q:=q s2.heap.objs.size (I2.hok.fresh (Nat.le_refl _))
 refine wpAny_newObj_type ?_
 -- the new list,tracked
 have I3:Inv X pins σ (upd H2 s2.heap.objs.size (.lst [])) { s2 with heap:=s2.heap.push { cls:=.type "list",dict:=none,data:=.seq ([]:List Value).toArray } }:=
  I2.laid (t':=s2.toks) (fun b u e=>Heap.get?_push_of_some _ e) (Nat.le_refl _) ⟨Nat.zero_le _,[],0,.nil,Heap.get?_push_size _ rfl⟩
 generalize hH3:upd H2 s2.heap.objs.size (.lst [])=H3 at I3 q
 generalize hs3:({ s2 with heap:=s2.heap.push { cls:=.type "list",dict:=none,data:=.seq ([]:List Value).toArray } }:Shared)=s3 at I3
 have fpl:∀b∈fp,b<s2.heap.objs.size:=fun b hb=>let ⟨o,e,_⟩:=Tn.obj 0 _ st2 b hb;Heap.lt_size e
 have sz3:s2.heap.objs.size≤s3.heap.objs.size:=by rw[←hs3];show _≤(s2.heap.push _).objs.size;rw[Heap.size_push];exact Nat.le_succ _
 have fok:∀b∈fp,E3 X pins H3 b:=fun b hb=>⟨by rw[←hH3,Al (Nat.ne_of_lt (fpl b hb))];exact(f2 b hb).1,(f2 b hb).2⟩
 have k23:∀b o,s2.heap.get? b=some o→s3.heap.get? b=some o:=fun b o e=>by rw[←hs3];exact Heap.get?_push_of_some _ e
 have st3:tn 0 s3.heap:=Tn.keep _ _ _ st2 fun b _ o e=>k23 b o e
 refine Px ok.kind (fun h4 hns4 k34 okc=>?_)
 have oldc:∀x c,cl.lookup x=some c→c<s3.heap.objs.size:=fun x c e=>by
  obtain⟨v,o,ho,_⟩:=I3.cell x c (ok.sub x c e).1
  exact Heap.lt_size ho
 have hc1:=R4 (h':=h4) ok okc oldc
 have hc2:=R3 (h':=h4) ok okc oldc
 have I4:Inv (A9 X scope cl T M s3 H3 fp) [] (Sy T σ) H3 { s3 with heap:=h4 }:=
  Nr ok I3 (fun b hb=>⟨fok b hb,Nat.lt_of_lt_of_le (fpl b hb) sz3⟩) hns4 k34 rfl rfl hc1 hc2
 have st4:tn 0 h4:=Tn.keep _ _ _ st3 fun b _ o e=>k34 b o e
 obtain⟨W,⟨m0,w0⟩,turn⟩:=q
 have cfpc:∀b∈fp,∀x c,(A3 scope cl s3.heap.objs.size).lookup x=some c→c≠b:=fun b hb x c e=>by
  rcases C5 ok s3.heap.objs.size x c e with ⟨_,a2⟩|⟨a1,_⟩
  ·exact Nat.ne_of_gt (Nat.lt_of_lt_of_le (Nat.lt_of_lt_of_le (fpl b hb) sz3) (Nat.le_of_succ_le a2))
  ·exact(fok b hb).2.2.2.2.1 x c (ok.sub x c a1).1
 have cfp:∀{H':Hp},(∀b∈fp,H' b=none)→∀b∈fp,E3 (A9 X scope cl T M s3 H3 fp) [] H' b:=fun hn b hb=>by
  refine⟨hn b hb,Nat.ne_of_lt (Nat.lt_of_lt_of_le (fpl b hb) sz3),fun z=>?_,.inl hb,fun x c e=>cfpc b hb x c e,fun p hp=>absurd (show p∈([]:List (Addr×Obj)) from hp) (by simp)⟩
  rcases List.mem_cons.mp (I3.stkSub b z) with e|e
  ·exact(fok b hb).2.1 e
  ·exact(fok b hb).2.2.1 e
 have fin:∀(σ':St) (H':Hp) (s':Shared),Inv (A9 X scope cl T M s3 H3 fp) [] σ' H' s'→Q (.ref s2.heap.objs.size) H'→compPost (model X.prog X.w) X.A X.xe none (EP X pins σ Q) (.ref s2.heap.objs.size) s3.heap.objs.size (.ok .next) s':=fun σ' H' s' J q=>by
  obtain⟨m',hm',_⟩:=J.loc
  refine⟨m',hm',fun h' hs'=>?_⟩
  have J0:Inv X pins σ H' s':=I3.call' (ch:=fp) J.os J.base J.hok J.bare fun b hb=>⟨(fok b hb).2.2.2.1,(fok b hb).2.1,(fok b hb).2.2.2.2.1,(fok b hb).2.2.2.2.2⟩
  have nC:=I3.fpOk (H':=H') (Nat.le_refl s3.heap.objs.size) J.free
  exact⟨.ref s2.heap.objs.size,H',J0.turned (t':=s'.toks) (fun b o hb e=>(hs'.2 b hb).trans e) nC.1 nC.2.1 nC.2.2.2.1 nC.2.2.2.2.1 nC.2.2.2.2.2,rfl,q⟩
 have loop:∀s5:Shared,s5={ s3 with heap:=h4 }→
   codeAny (model X.prog X.w) X.A (.compLoop (.ListComp elt [⟨tg,iter,ifs,0⟩] scope pos) 0 (.ref it) (.ref s2.heap.objs.size) (compEnvC scope (A3 scope cl s3.heap.objs.size) s3.heap.objs.size X.env))
    (compPost (model X.prog X.w) X.A X.xe none (EP X pins σ Q) (.ref s2.heap.objs.size) s3.heap.objs.size) s5:=by
  rintro s5 rfl
  refine Kd (fun k s'=>∃i σ' H',Inv (A9 X scope cl T M s3 H3 fp) [] σ' H' s'∧tn i s'.heap∧(∀b∈fp,H' b=none)∧W i k σ' H') ?_ m0 ⟨0,Sy T σ,H3,I4,st4,fun b hb=>(fok b hb).1,w0⟩
  rintro k s6 ⟨i,σ6,H6,I6,st6,fr6,w6⟩
  rcases turn i k σ6 H6 w6 with ⟨stop,qn⟩|⟨go,N,hN,step⟩
  ·refine wpAny_mono (Tn.done (A9 X scope cl T M s3 H3 fp) rfl rfl rfl hc i [] s6 _ H6 (fun _ _=>False) I6 (cfp fr6) st6 stop) (fun r s7 ⟨hr,I7⟩=>?_) fun _ _ z=>z.elim
   subst hr
   exact fin _ H6 s7 I7 qn
  ·refine wpAny_mono (Tn.item (A9 X scope cl T M s3 H3 fp) rfl rfl rfl hc i [] s6 _ H6 (fun _ _=>False) I6 (cfp fr6) st6 go) (fun r s7 ⟨u,hr,h7⟩=>?_) fun _ _ z=>z.elim
   subst hr
   show Oj _ _ _ _ _ _ _ _ _ _ _ _ _;unfold Oj
   refine wpAny_mono h7 (fun _ s8 h8=>?_) fun _ _ z=>z.elim
   obtain⟨x7,H7,I7,r7,y7,st7,fr7⟩:=h8
   have I7':=I7.pinned (cfp fr7) (Tn.obj _ _ st7)
   have back:∀{σ8:St} {H8:Hp} {s9:Shared},Inv (A9 X scope cl T M s3 H3 fp) ([]++El fp s8.heap) σ8 H8 s9→tn (i+1) s9.heap∧∀b∈fp,H8 b=none:=fun {σ8 H8 s9} I8=>by
    refine⟨Tn.keep _ _ _ st7 fun b hb o e=>(I8.pin (b,o) (List.mem_append_right _ (List.mem_append_right _ (C3 hb e)))).1,fun b hb=>?_⟩
    obtain⟨o,e,d⟩:=Tn.obj _ _ st7 b hb
    exact(I8.pin (b,o) (List.mem_append_right _ (List.mem_append_right _ (C3 hb e)))).2.1
   have again:∀{σ9:St} {H9:Hp} {s9:Shared},Inv (A9 X scope cl T M s3 H3 fp) ([]++El fp s8.heap) σ9 H9 s9→N σ9 H9→
     ∃m,m<k∧∃i σ' H',Inv (A9 X scope cl T M s3 H3 fp) [] σ' H' s9∧tn i s9.heap∧(∀b∈fp,H' b=none)∧W i m σ' H':=fun {σ9 H9 s9} I9 n9=>by
    obtain⟨m',hm,w9⟩:=hN σ9 H9 n9
    obtain⟨b1,b2⟩:=back I9
    exact⟨m',hm,i+1,σ9,H9,I9.unpinned,b1,b2,w9⟩
   refine wpAny_mono (hg s3 H3 fp _ s8 σ6 H7 x7 u _ I7' r7 (step x7 H7 y7)) (fun _ s9 ⟨σ9,H9,I9,q9⟩=>?_) fun _ _ z=>z.elim
   refine wpAny_mono (hf s3 H3 fp _ s9 σ9 H9 _ I9 q9) (fun okb s10 ⟨H10,I10,q10⟩=>?_) fun _ _ z=>z.elim
   cases okb with
   |false=>
    rw[if_neg Bool.false_ne_true] at q10 ⊢
    exact again I10 q10
   |true=>
    rw[if_pos rfl] at q10 ⊢
    refine wpAny_mono (he s3 H3 fp _ s10 σ9 H10 _ I10 q10) (fun y s11 ⟨yv,H11,I11,ry,ys,e11,l11,n11⟩=>?_) fun _ _ z=>z.elim
    refine wpAny_mono (Gs (X:=A9 X scope cl T M s3 H3 fp) _ s11 σ9 H11 (.ref s2.heap.objs.size) [yv] (.ref s2.heap.objs.size) [y] (fun _ H12=>N σ9 H12) I11 rfl (.cons ry .nil) ⟨_,ys,yv,rfl,rfl,e11,l11,n11⟩) (fun _ s12 ⟨_,H12,I12,_,n12⟩=>?_) fun _ _ z=>z.elim
    exact again I12 n12
 exact codeAny_compStart_list (loop _ rfl) (Tn.self _ 0 _ _ _ st4 (loop _ rfl))


theorem compOz{X:Cx}{scope:Scope}{T M:List Str}(h1:(scope.names.all fun y=>!(y.2 == .free)||(X.env.cells.lookup y.1).isSome)=true:=by rfl)(h3:scope.kind=.function:=by rfl)(h4:(scope.names.all fun y=>scope.names.lookup y.1 == some y.2)=true:=by rfl)(h6:M.length=X.N.length:=by rfl)(h5:((M.zip X.N).all fun z=>match scope.names.lookup z.1 with|some .local=>false|some .cell=>false|some .free=>z.1 == z.2&&(X.env.kindOf z.1 == some .cell||X.env.kindOf z.1 == some .free)|_=>true)=true:=by rfl) :
  CompOz X scope (Bx X.env.cells scope.names []) T M:=by
 have hl:∀y∈scope.names,scope.names.lookup y.1=some y.2:=fun y hy=>by simpa using List.all_eq_true.mp h4 y hy
 have only:∀(names:List (Str×NameKind)) (cs:List (Str×Addr)) (x:Str) (c:Addr),(Bx X.env.cells names cs).lookup x=some c→(x,NameKind.free)∈names∨cs.lookup x=some c:=by
  intro names
  induction names with
  |nil=>intro cs x c h;exact .inr h
  |cons y r ih=>
   intro cs x c h
   obtain⟨n,k⟩:=y
   unfold Bx at h
   split at h
   ·rename_i hk
    split at h
    ·rename_i c' hc
     rcases ih _ x c h with z|z
     ·exact .inl (List.mem_cons_of_mem _ z)
     ·by_cases hx:x=n
      ·subst hx
       have:k=.free:=by simpa using hk
       subst this
       exact .inl (by simp)
      ·rw[List.lookup_cons,beq_false_of_ne hx] at z
       exact .inr z
    ·rcases ih _ x c h with z|z
     ·exact .inl (List.mem_cons_of_mem _ z)
     ·exact .inr z
   ·rcases ih _ x c h with z|z
    ·exact .inl (List.mem_cons_of_mem _ z)
    ·exact .inr z
 refine⟨?_,h3,fun y hy z=>by rw[hl y hy,z],fun y hy z=>by rw[hl y hy,z],fun x c e=>⟨Dr _ _ (fun _ _ z=>by simp at z) x c e,?_⟩,fun x hx=>Et _ _ x h1 (.inl (PySem.mem_of_lookup hx)),h6,fun i x hx k q=>?_⟩
 ·unfold closureFor
  have:=R0 (env:=X.env) scope.names [] h1
  simp only[bind_pure]
  exact this
 ·rcases only _ _ x c e with z|z
  ·exact hl _ z
  ·simp at z
 ·have hi:i<X.N.length:=by rw[←h6];exact(List.getElem?_eq_some_iff.mp hx).1
  have hz:(M.zip X.N)[i]? = some (x,X.N[i]):=by rw[List.getElem?_zip_eq_some];exact⟨hx,List.getElem?_eq_getElem hi⟩
  have this:=List.all_eq_true.mp h5 _ (List.mem_of_getElem? hz)
  dsimp only at this
  rw[q] at this
  refine⟨fun z=>?_,fun z=>?_,fun z=>?_⟩
  ·subst z;exact absurd this (by simp)
  ·subst z;exact absurd this (by simp)
  ·subst z
   simp only[Bool.and_eq_true,beq_iff_eq,Bool.or_eq_true] at this
   exact⟨by rw[List.getElem?_eq_getElem hi,←this.1],this.2⟩
theorem Kf{K:W.Frag}{J:It}{n:Nat}{p:Addr}{ds:List D}{same:Gp→Prop}{g:DTG}{tf:DTT}{te:DTE}{Q:DK}{QV:VK}{σD:DSt}{σ:St}{G:Gp}{H:Hp}(rs:RelS K H σD σ)(rg:RelG K H G)(hp:H p=none)(cl:∀d G',Q d G'→Fwd K H G' fun H'=>∀v,DV K H' d v→QV v H')(hJ:∀H' G',Ext H H'→RelG K H' G'→same G'→ItemsX K J H' ds)(h:Oi n p ds same g tf te σD (Ae G p (.lst [])) Q) :
  ∃W:Nat→Nat→St→Hp→Prop,(∃m,W 0 m (List.replicate n none++σ) (upd H p (.lst [])))∧∀i m σ1 H,W i m σ1 H→
   ((J.stop i H∧QV (.ref p) H)∨(J.go i H∧∃N:St→Hp→Prop,(∀σ' H',N σ' H'→∃m',m'<m∧W (i+1) m' σ' H')∧
    ∀x H',J.yld i H x H'→Jf K g x σ1 H' fun σ2 H2=>Gd K tf σ2 H2 fun b H3=>if b=true then Cm K te σ2 H3 fun y H4=>∃ys,H4 p=some (.lst ys)∧ys.length<sizeLine∧N σ2 (upd H4 p (.lst (ys++[y]))) else N σ2 H3)):=by
 obtain⟨P,p0,keep,step,fin⟩:=h
 refine⟨fun i m σ' H'=>m=ds.length-i∧i≤ds.length∧RelS K H' (List.replicate n none++σD) σ'∧∃yd G',RelG K H' G'∧Ext H H'∧P i yd G',
  ⟨ds.length,rfl,Nat.zero_le _,(Rg n rs).ext (Ext.fresh hp),[],_,rg.lst hp .nil,Ext.fresh hp,p0⟩,?_⟩
 rintro i m σ1 H1 ⟨rfl,hi,rs1,yd,G1,rg1,x1,p1⟩
 obtain⟨sm,gp⟩:=keep i yd G1 hi p1
 have I:=hJ H1 G1 x1 rg1 sm
 by_cases hlt:i<ds.length
 ·refine .inr ⟨I.go i hlt,fun σ' H'=>RelS K H' (List.replicate n none++σD) σ'∧∃yd' G',RelG K H' G'∧Ext H H'∧P (i+1) yd' G',fun σ' H' ⟨a2,yd',G',a3,a4,a5⟩=>⟨ds.length-(i+1),by omega,rfl,hlt,a2,yd',G',a3,a4,a5⟩,fun x H' y=>?_⟩
  obtain⟨xe,rge,d,ed,dv⟩:=I.yl i x H' hlt y
  refine⟨d,_,G1,_,dv,rs1.ext xe,rge _ rg1,step i d yd G1 ed p1,fun σ2 G2 ⟨⟨pre,hpre,e2⟩,st2⟩ H2 x2 rg2 σ' rs2=>?_⟩
  have back:∀{H5:Hp} {σ5:St},RelS K H5 σ2 σ5→RelS K H5 (List.replicate n none++σD) σ5:=fun {H5 σ5} r=>by
   refine⟨by rw[←r.1,e2,List.length_append,List.length_append,List.length_replicate,hpre],fun j d e=>?_⟩
   refine r.2 j d ?_
   by_cases hj:j<n
   ·rw[List.getElem?_append_left (by simpa using hj),List.getElem?_replicate,if_pos hj] at e
    cases e
   ·rw[List.getElem?_append_right (by simpa using hj),List.length_replicate] at e
    rw[e2,List.getElem?_append_right (by omega),hpre];exact e
  refine⟨σ2,G2,_,rs2,rg2,st2,fun b G3 h3 H3 x3 rg3=>?_⟩
  have x13:=x1.trans (xe.trans (x2.trans x3))
  dsimp only at h3 ⊢
  cases b with
  |false=>
   rw[if_neg Bool.false_ne_true] at h3 ⊢
   obtain⟨G4,sb,p4⟩:=h3
   exact⟨back (rs2.ext x3),yd,G4,rg3.ext' sb,x13,p4⟩
  |true=>
   rw[if_pos rfl] at h3 ⊢
   refine⟨_,G3,_,rs2.ext x3,rg3,h3,fun z G4 ⟨e4,l4,G5,sb,p5⟩ H4 x4 rg4 v4 d4=>?_⟩
   obtain⟨xs,ex,r⟩:=rg4 p _ e4
   exact⟨xs,ex,by rw[←r.length];exact l4,back ((rs2.ext (x3.trans x4)).ext (Dk ex)),_,G5,(rg4.lstw ex (r.append (.cons d4 .nil))).ext' sb,(x13.trans x4).trans (Dk ex),p5⟩
 ·have e:i=ds.length:=by omega
  subst e
  exact .inl ⟨I.st,cl _ G1 (fin yd G1 p1) H1 x1 rg1 _ (.ref p)⟩
theorem Nk{K:W.Frag}{J:It}{G:Gp}{H:Hp}{ds:List D}(h:Items K J G H ds):ItemsX K J H ds:=⟨h.go,fun i x H' hi y=>by
 obtain⟨e,d,ed,dv⟩:=h.yl i x H' hi y
 subst e
 exact⟨Ext.refl _,fun _ r=>r,d,ed,dv⟩,h.st⟩
section
variable{X:Cx}{elt iter tg:Expr}{ifs:List Expr}{scope:Scope}{pos:Pos}{ti te:DTE}{tf:DTT}{g:DTG}{T M:List Str}
abbrev QGz(X:Cx)(scope:Scope)(T M:List Str)(tg:Expr)(g:DTG):Prop:=∀s H fp,QG (A9 X scope (Bx X.env.cells scope.names []) T M s H fp) tg g
abbrev QFz(X:Cx)(scope:Scope)(T M:List Str)(ifs:List Expr)(t:DTT):Prop:=∀s H fp,QF (A9 X scope (Bx X.env.cells scope.names []) T M s H fp) ifs t
abbrev QEz(X:Cx)(scope:Scope)(T M:List Str)(e:Expr)(t:DTE):Prop:=∀s H fp,QE (A9 X scope (Bx X.env.cells scope.names []) T M s H fp) e t
def Fi(n:Nat)(ti:DTE)(g:DTG)(tf:DTT)(te:DTE):DTE:=fun σ G Q=>ti σ G fun d G1=>∃ds,Bf G1 d=some ds∧∀p,G1 p=none→Oi n p ds (fun G'=>Bf G' d=some ds) g tf te σ (Ae G1 p (.lst [])) Q
theorem q_compz(hc:X.calm=true)(ok:CompOz X scope (Bx X.env.cells scope.names []) T M)(hi:QE X iter ti)(hg:QGz X scope T M tg g)(hf:QFz X scope T M ifs tf)(he:QEz X scope T M elt te)(hs:∀x,foldedSetIterable iter X.env x=pure x:=by intro _;rfl):QE X (.ListComp elt [⟨tg,iter,ifs,0⟩] scope pos) (Fi T.length ti g tf te):=
 (Pl (g:=Jf X.K g) (tf:=Gd X.K tf) (te:=Cm X.K te) hc ok (Ow hi) hg hf he hs).imp fun σ H Q ⟨σD,G,Q',rs,rg,h,cl⟩=>by
 refine⟨σD,G,_,rs,rg,h,fun d G1 ⟨ds,ei,L⟩ H1 x1 rg1 v dv=>?_⟩
 obtain⟨a,rfl⟩:=Ju ei dv
 refine⟨a,rfl,?_⟩
 have lp:=fun p hp=>Kf (J:=jOf X.K d a) (rs.ext x1) rg1 hp (fun d' G' q=>(cl d' G' q).go x1) (fun H' G' x' rg' s'=>Nk (Fo rg' s' (dv.ext x'))) (L p (rg1.free hp))
 cases dv with
 |tup e r=>exact .inr ⟨⟨_,.inl (.inl e)⟩,lp⟩
 |lint e=>exact .inl ⟨⟨_,e.sq⟩,lp⟩
 |ref=>
  simp only[Bf] at ei
  split at ei
  ·rename_i ds' q
   obtain⟨xs,e,r⟩:=rg1 a _ q
   exact .inl ⟨⟨_,.inl (.inl e)⟩,lp⟩
  ·cases ei
end
end D3
namespace D3
open PySem PySem.Spec
open PyProof.Rows hiding St
open L2 hiding St
section
variable{X:Cx}
end
def Kx:Expr→Bool
 |.Starred ..=>false
 |_=>true
theorem Mv{e:Expr}{es:List Expr}{env:Env}(h:Kx e=true):starEach (e::es) env=(false,eval e env)::starEach es env:=by
 cases e<;>first|rfl|exact absurd h (by simp[Kx])
theorem qa_consP{X:Cx}{e:Expr}{es:List Expr}{te:DTE}{tA:DTA}(ha:QE X e te)(hr:QA X es tA)(h:Kx e=true:=by rfl):QA X (e::es) (Ak te tA):=Ly ha hr (Mv h)
theorem ex3{p:D→D→D→Prop}{j k l:D}:(∃x y z,[j,k,l]=[x,y,z]∧p x y z)↔p j k l:=⟨fun⟨_,_,_,e,h⟩=>by cases e;exact h,fun h=>⟨j,k,l,rfl,h⟩⟩
end D3
namespace D3
open PySem PySem.Spec
open PyProof.Rows hiding St
open L2 hiding St
theorem ins_get{α:Type}{xs:Array α}{p:Nat}{x:α}(hp:p≤xs.size)(i:Nat):(SetTable.insertAt xs p x)[i]? = if i<p then xs[i]? else if i=p then some x else xs[i-1]?:=by
 unfold SetTable.insertAt
 have e1:((xs.extract 0 p).push x).size=p+1:=by simp;omega
 rw[Array.getElem?_append,e1]
 by_cases h1:i<p
 ·rw[if_pos (by omega),if_pos h1,Array.getElem?_push,if_neg (by simp;omega),Array.getElem?_extract,if_pos (by omega),Nat.zero_add]
 ·rw[if_neg h1]
  by_cases h2:i=p
  ·subst h2
   rw[if_pos (by omega),if_pos rfl,Array.getElem?_push,if_pos (by simp;omega)]
  ·rw[if_neg (by omega),if_neg h2,Array.getElem?_extract]
   by_cases h3:i-1<xs.size
   ·rw[if_pos (by omega)];congr 1;omega
   ·rw[if_neg (by omega),Array.getElem?_eq_none (by omega)]
end D3
namespace D3
open PySem PySem.Spec
open PyProof.Rows hiding St
open L2 hiding St
section
variable{P:Program}{w:World}{A:Around}{E:Value→Shared→Prop}{s:Shared}
end
end D3
set_option maxRecDepth 100000
namespace D3
open PySem PySem.Spec
open PyProof.Rows hiding St
open L2 hiding St
section
variable{P:Program}{w:World}{A:Around}{R:Result→Shared→Prop}{E:Value→Shared→Prop}{s:Shared}
end
end D3
set_option maxRecDepth 100000
set_option maxHeartbeats 4000000
namespace D3
open PySem PySem.Spec
open PyProof.Rows hiding St
open L2 hiding St
section
variable{P:Program}{w:World}{A:Around}{E:Value→Shared→Prop}{s:Shared}
end
end D3
set_option maxRecDepth 100000
set_option maxHeartbeats 4000000
namespace D3
open PySem PySem.Spec
open PyProof.Rows hiding St
open L2 hiding St
section
variable{P:Program}{w:World}{A:Around}{E:Value→Shared→Prop}{s:Shared}
end
end D3
set_option maxRecDepth 100000
set_option maxHeartbeats 4000000
namespace D3
open PySem PySem.Spec
open PyProof.Rows hiding St
open L2 hiding St
section
variable{P:Program}{w:World}{A:Around}{E:Value→Shared→Prop}{s:Shared}
end
end D3
set_option maxRecDepth 100000
set_option maxHeartbeats 4000000
namespace D3
open PySem PySem.Spec
open PyProof.Rows hiding St
open L2 hiding St
section
variable{P:Program}{w:World}{A:Around}{E:Value→Shared→Prop}{s:Shared}
end
end D3
set_option maxRecDepth 100000
set_option maxHeartbeats 1000000
namespace D3
open PySem PySem.Spec
open PyProof.Rows hiding St
open L2 hiding St
section
variable{P:Program}{w:World}{A:Around}{E:Value→Shared→Prop}{s:Shared}
end
end D3
set_option maxRecDepth 100000
set_option maxHeartbeats 4000000
namespace D3
open PySem PySem.Spec
open PyProof.Rows hiding St
open L2 hiding St
section
variable{P:Program}{w:World}{A:Around}{E:Value→Shared→Prop}{s:Shared}
end
end D3
set_option maxRecDepth 100000
set_option maxHeartbeats 200000
namespace D3
open PySem PySem.Spec
open PyProof.Rows hiding St
open L2 hiding St
section
variable{P:Program}{w:World}{A:Around}{E:Value→Shared→Prop}{s:Shared}
end
end D3
set_option maxRecDepth 100000
set_option maxHeartbeats 1000000
namespace D3
open PySem PySem.Spec
open PyProof.Rows hiding St
open L2 hiding St
section
variable{X:Cx}{e:Expr}{te:DTE}{pos:Pos}
theorem vals_ints:∀{ns:List Int} {its:List Value},IntsAre its ns→Vals (ns.map V.int) its
 |_,_,.nil=>.nil
 |_,_,.cons n t h=>.cons ⟨t,rfl⟩ (vals_ints h)
end
end D3
set_option maxRecDepth 100000
set_option maxHeartbeats 1000000
namespace D3
open PySem PySem.Spec
open PyProof.Rows hiding St
open L2 hiding St
section
variable{P:Program}{w:World}{A:Around}{R:Result→Shared→Prop}
end
section
variable{X:Cx}
end
end D3
namespace D3
open PySem PySem.Spec
open PyProof.Rows hiding St
open L2 hiding St
section
variable{X:Cx}{a:Expr}{ta:DTE}{pos:Pos}
end
end D3
namespace D3
open PySem PySem.Spec
open PyProof.Rows hiding St
open L2 hiding St
structure FnIs(K:PySem.W.Frag)(x:Str)(st:Stmt):Prop where
 ex:∃f fd,Fun K x x st f fd∧PySem.W.nsIn K mainGlobals x=some (some (.ref f))∧PySem.W.keepIn K (.ref f)=true
theorem Ar{K:W.Frag}{x:Str}{st:Stmt}{f:Addr}{od an:Option Addr}{sl:Array (Option Value)}{oc kV dc pm cd ct:Value}(a:PySem.W.nsIn K mainGlobals x=some (some (.ref f)))(l:K.lookup f=some ⟨oc,od,.func (PySem.W.fnOf x x (D7 st) (C2 st) (Ah st) .none kV dc pm an cd ct),sl⟩)(c:PySem.W.codeIn K cd x=true)(k:PySem.W.keepIn K (.ref f)=true):FnIs K x st:=
 ⟨f,_,Uw l c k,a,k⟩
theorem A2{P:Program}{w:World}{K:W.Frag}{h:Heap}{mg:Str→Option Value}{base:Heap}{x:Str}{st:Stmt}{k:Nat}{ps:List Str}{sp:DSp}(I:FnIs K x st)(X:K.In h)(G:h.Ns mainGlobals mg)(hb:∀f fd,Fun K x x st f fd→Binds K fd ps [])(ok:∀f fd,Fun K x x st f fd→FnOk P w K mg base CX0 k f fd ps (Ap K sp)):Def P w K mg base CX0 k x ps sp:=by
 obtain⟨f,fd,F,a,kp⟩:=I.ex
 exact⟨f,fd,ok f fd F,PySem.W.mg_of X G a,kp,hb f fd F⟩
def Lp:DSp:=fun ds G Q _=>∃ns:List Int,ds=[.lint ns]∧ns.length≤63∧∀G',Q (.bl true) G'
theorem Uk(K:PySem.W.Frag)(H:Hp)(a:Addr)(ns:List Int)(hl:ns.length≤63)(hO:N7 H)(hS:SqL K H a (ns.map V.int)):Ap K Lp [.ref a] H (fun v _=>v=.bl true) fun _ _ _=>False:=by
 have rd:RdI K H a (ns.map V.int):=by
  rcases hS with (h|h)|h
  ·rcases hO a with z|⟨o,xs,z⟩
   ·rw[h] at z;cases z
   ·rw[h] at z;cases z
  ·exact .inl h
  ·exact .inr h
 refine⟨[.lint ns],fun _=>none,fun d _=>d=.bl true,fun _ _=>False,.cons (.lint rd) .nil,(fun b o e=>by cases e),⟨ns,rfl,hl,fun _=>rfl⟩,fun d G' e H' _ _ v dv=>?_,fun c G' (e:False)=>e.elim⟩
 have e:d=.bl true:=e
 subst e
 cases dv
 rfl
end D3
namespace D3
open PySem PySem.Spec
open PyProof.Rows hiding St
open L2 hiding St
section
variable{X:Cx}{o e:Expr}{to te:DTE}{pos pos':Pos}{f:Str}{C:Addr}
theorem Pp{α β:Type}{R:α→β→Prop}{xs:List α}{ys:List β}(h:Paired R xs ys):xs.length=ys.length:=by
 induction h with
 |nil=>rfl
 |cons _ _ ih=>exact congrArg (· + 1) ih
end
end D3
set_option maxHeartbeats 1000000
namespace D3
open PySem PySem.Spec
open PyProof.Rows hiding St
open L2 hiding St
section
variable{X:Cx}{pins:List (Addr×Obj)}{σ:St}{H:Hp}{s:Shared}{A:Around}{E:Value→Shared→Prop}
end
end D3
set_option maxHeartbeats 1000000
namespace D3
open PySem PySem.Spec
open PyProof.Rows hiding St
open L2 hiding St
end D3
set_option maxHeartbeats 1000000
namespace D3
open PySem PySem.Spec
open PyProof.Rows hiding St
open L2 hiding St
section
variable{κ:Type}[DecidableEq κ]
def Eh(kvs:List (κ×D))(k:κ):Option D:=(kvs.find? fun kv=>decide (kv.1=k)).map (·.2)
def Ko(kvs:List (κ×D))(k:κ)(d:D):List (κ×D):=if (kvs.any fun kv=>decide (kv.1=k))=true then kvs.map (fun kv=>if kv.1=k then (kv.1,d) else kv) else kvs++[(k,d)]
abbrev Ent(κ:Type)(K:PySem.W.Frag)(H:Hp):κ×D→κ×V→Prop:=fun p q=>p.1=q.1∧DV K H p.2 q.2
variable{K:W.Frag}{H:Hp}
theorem L9{k:κ}:∀{kvs:List (κ×D)} {ks:List (κ×V)},Paired (Ent κ K H) kvs ks→(Eh kvs k=none∧Ci ks k=none)∨∃d v,Eh kvs k=some d∧Ci ks k=some v∧DV K H d v
 |_,_,.nil=>.inl ⟨rfl,rfl⟩
 |(a,x)::r,_,.cons (b:=(b,y)) h t=>by
  obtain⟨e,hv⟩:=h
  cases(show a=b from e)
  by_cases ha:a=k
  ·exact .inr ⟨x,y,by simp[Eh,ha],by simp[Ci,ha],hv⟩
  ·have e1:Eh ((a,x)::r) k=Eh r k:=by simp[Eh,List.find?_cons,ha]
   have e2:∀z,Ci ((a,y)::z) k=Ci z k:=fun z=>by simp[Ci,List.find?_cons,ha]
   rw[e1,e2]
   exact L9 t
theorem Md{k:κ}:∀{kvs:List (κ×D)} {ks:List (κ×V)},Paired (Ent κ K H) kvs ks→(kvs.any fun kv=>decide (kv.1=k))=(ks.any fun kv=>decide (kv.1=k))
 |_,_,.nil=>rfl
 |(a,x)::r,_,.cons (b:=(b,y)) h t=>by
  cases(show a=b from h.1)
  rw[List.any_cons,List.any_cons,Md t]
theorem Mb{k:κ}{d:D}{v:V}(hd:DV K H d v):∀{kvs:List (κ×D)} {ks:List (κ×V)},Paired (Ent κ K H) kvs ks→Paired (Ent κ K H) (kvs.map (fun kv=>if kv.1=k then (kv.1,d) else kv)) (ks.map (fun kv=>if kv.1=k then (kv.1,v) else kv))
 |_,_,.nil=>.nil
 |(a,x)::r,_,.cons (b:=(b,y)) h t=>by
  obtain⟨e,hv⟩:=h
  cases(show a=b from e)
  rw[List.map_cons,List.map_cons]
  refine .cons ?_ (Mb hd t)
  show Ent κ K H (if a=k then (a,d) else (a,x)) (if a=k then (a,v) else (a,y))
  by_cases ha:a=k
  ·rw[if_pos ha,if_pos ha];exact⟨rfl,hd⟩
  ·rw[if_neg ha,if_neg ha];exact⟨rfl,hv⟩
theorem Jw{p:κ×D}{q:κ×V}(h:Ent κ K H p q):∀{kvs:List (κ×D)} {ks:List (κ×V)},Paired (Ent κ K H) kvs ks→Paired (Ent κ K H) (kvs++[p]) (ks++[q])
 |_,_,.nil=>.cons h .nil
 |_::_,_,.cons h' t=>.cons h' (Jw h t)
theorem Ma{k:κ}{d:D}{v:V}(hd:DV K H d v){kvs:List (κ×D)}{ks:List (κ×V)}(r:Paired (Ent κ K H) kvs ks):Paired (Ent κ K H) (Ko kvs k d) (Cj ks k v):=by
 unfold Ko Cj
 rw[Md r]
 split
 ·exact Mb hd r
 ·exact Jw ⟨rfl,hd⟩ r
theorem Mc{kvs:List (κ×D)}{ks:List (κ×V)}(r:Paired (Ent κ K H) kvs ks):kvs.length=ks.length:=Pp r
end
def S2:D→Option Key
 |.int i=>some (.inl i)
 |.str x=>some (.inr x)
 |_=>none
theorem Rt{K:W.Frag}{H:Hp}{d:D}{v:V}{k:Key}(e:S2 d=some k)(dv:DV K H d v):v=kV k:=by
 cases d<;>simp only[S2,Option.some.injEq,reduceCtorEq] at e
 ·subst e;cases dv;rfl
 ·subst e;cases dv;rfl

section
variable{X:Cx}{kx vx iter tg:Expr}{ifs:List Expr}{scope:Scope}{pos:Pos}{ti tk tv:DTE}{tf:DTT}{g:DTG}{T M:List Str}
end
end D3
set_option maxHeartbeats 1000000
namespace D3
open PySem PySem.Spec
open PyProof.Rows hiding St
open L2 hiding St
def V5(P:Program)(w:World)(K:PySem.W.Frag)(a:Addr)(kvs:List (Key×V)):Prop:=(a == sysModules)=false∧∃o vs,K.lookup a=some o∧KV kvs vs∧o.IsDictOf (Ax P w) vs
def DRd(P:Program)(w:World)(h:Heap)(a:Addr)(kvs:List (Key×V)):Prop:=(a == sysModules)=false∧∃vs,KV kvs vs∧h.DictOf (Ax P w) a vs
def RdK(P:Program)(w:World)(K:PySem.W.Frag)(H:Hp)(a:Addr)(kvs:List (Key×V)):Prop:=H a=some (.dK kvs)∨V5 P w K a kvs
section
variable{X:Cx}{pins:List (Addr×Obj)}{σ:St}{H:Hp}{s:Shared}{a:Addr}{k:Key}{v:V}{kvs:List (Key×V)}{u:Value}{A:Around}{E:Value→Shared→Prop}
theorem RdK.rd(h:RdK X.prog X.w X.K H a kvs)(I:Inv X pins σ H s):DRd X.prog X.w s.heap a kvs:=by
 rcases h with h|⟨h1,o,vs,h2,h3,h4⟩
 ·obtain⟨_,hd,vs,rel,dd⟩:=Su I.hok h
  exact⟨hd,vs,rel,dd⟩
 ·exact⟨h1,vs,h3,Heap.dictOf_iff.mpr ⟨o,I.kIn _ _ h2,h4⟩⟩
end
section
variable{X:Cx}
end
section
variable{X:Cx}{e i o:Expr}{te ti td:DTE}{pos pos':Pos}{a:Addr}{kvs:List (Key×D)}
theorem isSome_eq{κ:Type}[DecidableEq κ]{K:W.Frag}{H:Hp}{k:κ}{kvs:List (κ×D)}{ks:List (κ×V)}(r:Paired (Ent κ K H) kvs ks):(Ci ks k).isSome=(Eh kvs k).isSome:=by
 rcases L9 (k:=k) r with ⟨e1,e2⟩|⟨d,v,e1,e2,_⟩
 ·rw[e1,e2];rfl
 ·rw[e1,e2];rfl
end
end D3
set_option maxRecDepth 100000
set_option maxHeartbeats 1000000
namespace D3
open PySem PySem.Spec
open PyProof.Rows hiding St
open L2 hiding St
section
variable{X:Cx}{pins:List (Addr×Obj)}{σ:List (Option V)}{H:Hp}{s:Shared}{h':Heap}
end
end D3
set_option maxHeartbeats 1000000
namespace D3
open PySem PySem.Spec
open PyProof.Rows hiding St
open L2 hiding St
section
variable{X:Cx}
theorem Ext.tbl{H:Hp}{p:Addr}{ps:Array Value}{u:HO}(e:H p=some (.tbl ps)):Ext H (upd H p u):=Ext.write e (fun xs z=>by cases z) (fun ob w z=>by cases z)
end
end D3
set_option maxHeartbeats 1000000
namespace D3
open PySem PySem.Spec
open PyProof.Rows hiding St
open L2 hiding St
end D3
namespace D3
open PySem PySem.Spec
open PyProof.Rows hiding St
open L2 hiding St
end D3
set_option maxRecDepth 100000
set_option maxHeartbeats 1000000
namespace D3
open PySem PySem.Spec
open PyProof.Rows hiding St
open L2 hiding St
section
variable{P:Program}{w:World}{A:Around}{E:Value→Shared→Prop}{s:Shared}
end
end D3
set_option maxRecDepth 100000
set_option maxHeartbeats 1000000
namespace D3
open PySem PySem.Spec
open PyProof.Rows hiding St
open L2 hiding St
open PySem.W (KdlSrc kdl_extend kdl_values)
section
variable{P:Program}{w:World}{A:Around}{E:Value→Shared→Prop}{s:Shared}
end
end D3
set_option maxRecDepth 100000
set_option maxHeartbeats 1000000
namespace D3
open PySem PySem.Spec
open PyProof.Rows hiding St
open L2 hiding St
open PySem.W (KdlSrc kdl_extend kdl_values)
section
variable{X:Cx}{o e:Expr}{to:TE}{apos cpos pos p:Pos}
end
end D3
set_option maxRecDepth 100000
set_option maxHeartbeats 1000000
namespace D3
open PySem PySem.Spec
open PyProof.Rows hiding St
open L2 hiding St
section
variable{X:Cx}{o:Expr}{to:DTE}{apos cpos pos p:Pos}
end
end D3
set_option maxRecDepth 100000
set_option maxHeartbeats 1000000
namespace D3
open PySem PySem.Spec
open PyProof.Rows hiding St
open L2 hiding St
section
variable{X:Cx}{pins:List (Addr×Obj)}{σ:List (Option V)}{H:Hp}{s:Shared}
end
section
variable{X:Cx}{elt o tg:Expr}{ifs:List Expr}{scope:Scope}{pos apos cpos:Pos}{to:DTE}{T M:List Str}
end
end D3
set_option maxRecDepth 100000
set_option maxHeartbeats 1000000
namespace D3
open PySem PySem.Spec
open PyProof.Rows hiding St
open L2 hiding St
section
variable{X:Cx}
end
end D3
set_option maxRecDepth 100000
set_option maxHeartbeats 1000000
namespace D3
open PySem PySem.Spec
open PyProof.Rows hiding St
open L2 hiding St
section
variable{P:Program}{w:World}{A:Around}{E:Value→Shared→Prop}{s:Shared}
end
section
variable{X:Cx}
end
end D3
namespace D3
open PySem PySem.Spec
open PyProof.Rows hiding St
open L2 hiding St
end D3
set_option maxRecDepth 100000
set_option maxHeartbeats 1000000
namespace D3
open PySem PySem.Spec
open PyProof.Rows hiding St
open L2 hiding St
end D3
set_option maxRecDepth 100000
set_option maxHeartbeats 1000000
namespace D3
open PySem PySem.Spec
open PyProof.Rows hiding St
open L2 hiding St
section
variable{X:Cx}{a b:Expr}{ta:TA}{tA:DTA}{p p0 pos pos0:Pos}
end
end D3
set_option maxRecDepth 100000
set_option maxHeartbeats 1000000
namespace D3
open PySem PySem.Spec
open PyProof.Rows hiding St
open L2 hiding St
section
variable{X:Cx}{e b:Expr}{te tb:DTE}{p2 pos:Pos}
end
end D3
namespace D3
open PySem PySem.Spec
open PyProof.Rows hiding St
open L2 hiding St
end D3
namespace D3
open PySem PySem.Spec
open PyProof.Rows hiding St
open L2 hiding St
section
variable{P:Program}{w:World}{K:W.Frag}{mg:Str→Option Value}{base:Heap}
end
end D3
set_option maxHeartbeats 1000000
namespace D3
open PySem PySem.Spec
open PyProof.Rows hiding St
open L2 hiding St
end D3
set_option maxHeartbeats 1000000
namespace D3
open PySem PySem.Spec
open PyProof.Rows hiding St
open L2 hiding St
section
variable{X:Cx}{elt iter tg kx vx:Expr}{ifs:List Expr}{scope:Scope}{pos:Pos}{ti te tk tv:DTE}{tf:DTT}{g:DTG}{T M:List Str}
end
end D3
set_option maxRecDepth 100000
set_option maxHeartbeats 1000000
namespace D3
open PySem PySem.Spec
open PyProof.Rows hiding St
open L2 hiding St
section
variable{X:Cx}{e:Expr}{te:DTE}{pos:Pos}
end
end D3
set_option maxRecDepth 100000
set_option maxHeartbeats 1000000
namespace D3
open PySem PySem.Spec
open PyProof.Rows hiding St
open L2 hiding St
section
variable{X:Cx}{e:Expr}{ta:DTE}
end
section
variable{X:Cx}{a b:Expr}{ta:TA}{tA:DTA}{p p0 pos pos0:Pos}
end
end D3
set_option maxRecDepth 100000
set_option maxHeartbeats 1000000
namespace D3
open PySem PySem.Spec
open PyProof.Rows hiding St
open L2 hiding St
section
variable{P:Program}{w:World}{A:Around}{R:Result→Shared→Prop}{it S:Addr}{fp wr:List Addr}{n:Nat}{V:Nat→Value→Prop}{st:Nat→Heap→Prop}{bt:Nat→Nat→Bool}{kw:List (Str×Value)}
end
section
variable{P:Program}{w:World}{A:Around}{E:Value→Shared→Prop}{s:Shared}
end
section
variable{X:Cx}{e:Expr}{p pos:Pos}
end
end D3
set_option maxRecDepth 100000
set_option maxHeartbeats 1000000
namespace D3
open PySem PySem.Spec
open PyProof.Rows hiding St
open L2 hiding St
section
variable{X:Cx}{elt iter tg:Expr}{ifs:List Expr}{scope:Scope}{pos:Pos}{ti te:DTE}{tf:DTT}{g:DTG}{T M:List Str}
end
section
variable{X:Cx}{elt iter tg kx vx:Expr}{ifs:List Expr}{scope:Scope}{pos:Pos}{ti te tk tv:DTE}{tf:DTT}{g:DTG}{T M:List Str}
end
end D3
set_option maxRecDepth 100000
set_option maxHeartbeats 1000000
namespace D3
open PySem PySem.Spec
open PyProof.Rows hiding St
open L2 hiding St
section
variable{X:Cx}
end
section
end
section
variable{X:Cx}
end
end D3
set_option maxRecDepth 100000
namespace D3
open PySem PySem.Spec PyProof.Rows L2
section
variable{X:Cx}{pos:Pos}
theorem q_v1{i:Nat}{x:Str}(h:X.N[i]? = some x∧X.env.scope.names.lookup x=some .local∧(x == ("__debug__" : Str))=false∧(x == ("__classdict__" : Str))=false):QE X (.Name x pos) (Au i):=Se h.1 (.inl h.2.1) h.2.2.1 h.2.2.2
theorem q_v2{i:Nat}{x:Str}(h:X.N[i]? = some x∧X.env.scope.names.lookup x=some .cell∧(x == ("__debug__" : Str))=false∧(x == ("__classdict__" : Str))=false):QE X (.Name x pos) (Au i):=Se h.1 (.inr (.inl h.2.1)) h.2.2.1 h.2.2.2
end
end D3
set_option maxRecDepth 100000
set_option maxHeartbeats 1000000
namespace D3
open PySem PySem.Spec
open PyProof.Rows
def L8:Bool→Keyed→Array Keyed→Nat→Nat→Nat→StateT SortSt Sem (Option Nat):=sortPriv% PySem.Builtin.gallop
def E4(P:Program)(w:World)(A:Around)(E:Value→Shared→Prop)(s:Shared)(kd:SortKind)(ok:Keyed→Prop)(rk:Keyed→Int):Prop:=
 ∀(x y:Keyed) (st:SortSt) (Q:Option Bool→SortSt→Prop),kindOf st=kd→ok x→ok y→Q (some (decide (rk x<rk y))) st→wpS (model P w) A E s (lt' x y) Q st
def Af(rk:Keyed→Int)(arr:Array Keyed)(i:Nat):Int:=rk (arr.getD i (.none,.none))
def Cw(rk:Keyed→Int)(left:Bool)(key:Keyed)(arr:Array Keyed)(base i:Nat):Bool:=if left=true then decide (Af rk arr (base+i)<rk key) else !decide (rk key<Af rk arr (base+i))
section
variable{P:Program}{w:World}{A:Around}{E:Value→Shared→Prop}{s:Shared}{kd:SortKind}{ok:Keyed→Prop}{rk:Keyed→Int}
theorem Ac{arr:Array Keyed}{i:Nat}{st:SortSt}{Q:Keyed→SortSt→Prop}(h:i<arr.size)(q:Q (arr.getD i (.none,.none)) st):wpS (model P w) A E s (elem' arr i) Q st:=by
 have e:arr[i]? = some (arr.getD i (.none,.none)):=by simp[h]
 rw[elem'_eq,e]
 exact wpS_pure q
theorem Bc{arr:Array Keyed}{i:Nat}(h:i<arr.size)(okA:∀x∈arr,ok x):ok (arr.getD i (.none,.none)):=by
 have e:arr.getD i (.none,.none)=arr[i]:=by simp[h]
 rw[e];exact okA _ (Array.getElem_mem h)
theorem R6{left:Bool}{key:Keyed}{arr:Array Keyed}{base i:Nat}{st:SortSt}{Q:Option Bool→SortSt→Prop}(ask:E4 P w A E s kd ok rk)(hk:kindOf st=kd)(okA:∀x∈arr,ok x)(okK:ok key)(hi:base+i<arr.size)(q:Q (some (Cw rk left key arr base i)) st) :
  wpS (model P w) A E s (elem' arr (base+i) >>= fun x=>if left=true then lt' x key else lt' key x >>= fun r=>pure (r.map fun b=>!b)) Q st:=by
 refine wpS_bind (Ac hi ?_)
 unfold Cw at q
 cases left with
 |true=>rw[if_pos rfl] at q ⊢;exact ask _ _ _ _ hk (Bc hi okA) okK q
 |false=>rw[if_neg Bool.false_ne_true] at q ⊢;exact wpS_bind (ask _ _ _ _ hk okK (Bc hi okA) (wpS_pure q))
structure Spot(b:Nat→Bool)(n k:Nat):Prop where
 le:k≤n
 lo:∀i,i<k→b i=true
 hi:∀i,k≤i→i<n→b i=false
theorem Aq{left:Bool}{key:Keyed}{arr:Array Keyed}{base n hint:Nat}{st:SortSt}{Q:Option Nat→SortSt→Prop}(ask:E4 P w A E s kd ok rk)(hk:kindOf st=kd)(okA:∀x∈arr,ok x)(okK:ok key)(hn:base+n≤arr.size)(hh:hint<n)(dn:∀i j,i≤j→j<n→Cw rk left key arr base j=true→Cw rk left key arr base i=true)(q:∀k,Spot (Cw rk left key arr base) n k→Q (some k) st):wpS (model P w) A E s (L8 left key arr base n hint) Q st:=by
 generalize hb:Cw rk left key arr base=b at *
 have up:∀i j,i≤j→j<n→b i=false→b j=false:=fun i j h1 h2 h3=>by
  cases z:b j with
  |false=>rfl
  |true=>rw[dn i j h1 h2 z] at h3;cases h3
 have run:∀{i:Nat} {st':SortSt} {Q':Option Bool→SortSt→Prop},kindOf st'=kd→i<n→Q' (some (b i)) st'→wpS (model P w) A E s (elem' arr (base+i) >>= fun x=>if left=true then lt' x key else lt' key x >>= fun r=>pure (r.map fun b=>!b)) Q' st':=fun {i st' Q'} h1 h2 h3=>R6 ask h1 okA okK (by omega) (by rw[hb];exact h3)
 delta L8
 refine wpS_bind ?_
 refine run hk hh ?_
 dsimp only
 cases hr:b hint with
 |true=>
  rw[if_pos rfl]
  refine wpS_bind (wpS_mono (wpS_forRange (I:=fun i c st'=>st=st'∧∃l o,c=(none,l,o)∧b (hint+l)=true∧l<o∧i+1≤o∧hint+l<n) (Q:=fun c st'=>st=st'∧∃l o,c=(none,l,o)∧b (hint+l)=true∧l<o∧hint+l<n∧(o<n-hint→b (hint+o)=false)) ?s1 ?f1 ⟨rfl,0,1,rfl,hr,by omega,by omega,by omega⟩) ?p1)
  case s1=>
   rintro i c st' _ hi ⟨rfl,l,o,rfl,h1,h2,h3,h4⟩
   dsimp only
   by_cases z:o ≥ n-hint
   ·rw[if_pos z];exact wpS_pure ⟨rfl,l,o,rfl,h1,h2,h4,fun y=>absurd y (by omega)⟩
   ·rw[if_neg z]
    refine wpS_bind (run hk (by omega) ?_)
    dsimp only
    cases hm:b (hint+o) with
    |true=>rw[if_neg (by decide)];exact wpS_pure ⟨rfl,o,2*o+1,rfl,hm,by omega,by omega,by omega⟩
    |false=>rw[if_pos (by decide)];exact wpS_pure ⟨rfl,l,o,rfl,h1,h2,h4,fun _=>hm⟩
  case f1=>
   rintro c st' ⟨rfl,l,o,rfl,h1,h2,h3,h4⟩
   exact⟨rfl,l,o,rfl,h1,h2,h4,fun y=>by omega⟩
  case p1=>
   rintro c st' ⟨rfl,l,o,rfl,h1,h2,h3,h4⟩
   dsimp only
   refine wpS_bind (wpS_mono (wpS_forRange (I:=fun i c st'=>st=st'∧∃u v,c=(none,u,v)∧u≤v∧v≤n∧v-u≤n-i∧(∀j,j<u→b j=true)∧∀j,v≤j→j<n→b j=false) (Q:=fun c st'=>st=st'∧∃u,c=(none,u,u)∧Spot b n u) ?s2 ?f2 ⟨rfl,_,_,rfl,by omega,by omega,by omega,fun j hj=>dn j (hint+l) (by omega) (by omega) h1,fun j hj1 hj2=>by
    by_cases z:o<n-hint
    ·exact up (hint+o) j (by omega) hj2 (h4 z)
    ·omega⟩) ?p2)
   case s2=>
    rintro i c st' _ hi ⟨rfl,u,v,rfl,h1,h2,h3,h4,h5⟩
    dsimp only
    by_cases z:u ≥ v
    ·rw[if_pos z]
     obtain rfl:u=v:=by omega
     exact wpS_pure ⟨rfl,u,rfl,h2,h4,h5⟩
    ·rw[if_neg z]
     refine wpS_bind (run hk (by omega) ?_)
     dsimp only
     cases hm:b (u+(v-u) / 2) with
     |true=>rw[if_pos rfl];exact wpS_pure ⟨rfl,_,v,rfl,by omega,h2,by omega,fun j hj=>dn j (u+(v-u) / 2) (by omega) (by omega) hm,h5⟩
     |false=>rw[if_neg (by decide)];exact wpS_pure ⟨rfl,u,_,rfl,by omega,by omega,by omega,h4,fun j hj1 hj2=>up (u+(v-u) / 2) j hj1 hj2 hm⟩
   case f2=>
    rintro c st' ⟨rfl,u,v,rfl,h1,h2,h3,h4,h5⟩
    obtain rfl:u=v:=by have:max 0 n=n:=Nat.max_eq_right (Nat.zero_le n);omega
    exact⟨rfl,u,rfl,h2,h4,h5⟩
   case p2=>
    rintro c st' ⟨rfl,u,rfl,sp⟩
    exact wpS_pure (q u sp)
 |false=>
  rw[if_neg (by decide)]
  refine wpS_bind (wpS_mono (wpS_forRange (I:=fun i c st'=>st=st'∧∃l o,c=(none,l,o)∧b (hint-l)=false∧l<o∧i+1≤o∧l≤hint) (Q:=fun c st'=>st=st'∧∃l o,c=(none,l,o)∧b (hint-l)=false∧l<o∧l≤hint∧(o<hint+1→b (hint-o)=true)) ?s1 ?f1 ⟨rfl,0,1,rfl,hr,by omega,by omega,by omega⟩) ?p1)
  case s1=>
   rintro i c st' _ hi ⟨rfl,l,o,rfl,h1,h2,h3,h4⟩
   dsimp only
   by_cases z:o ≥ hint+1
   ·rw[if_pos z];exact wpS_pure ⟨rfl,l,o,rfl,h1,h2,h4,fun y=>absurd y (by omega)⟩
   ·rw[if_neg z]
    refine wpS_bind (run hk (by omega) ?_)
    dsimp only
    cases hm:b (hint-o) with
    |true=>rw[if_pos rfl];exact wpS_pure ⟨rfl,l,o,rfl,h1,h2,h4,fun _=>hm⟩
    |false=>rw[if_neg (by decide)];exact wpS_pure ⟨rfl,o,2*o+1,rfl,hm,by omega,by omega,by omega⟩
  case f1=>
   rintro c st' ⟨rfl,l,o,rfl,h1,h2,h3,h4⟩
   exact⟨rfl,l,o,rfl,h1,h2,h4,fun y=>by omega⟩
  case p1=>
   rintro c st' ⟨rfl,l,o,rfl,h1,h2,h3,h4⟩
   dsimp only
   refine wpS_bind (wpS_mono (wpS_forRange (I:=fun i c st'=>st=st'∧∃u v,c=(none,u,v)∧u≤v∧v≤n∧v-u≤n-i∧(∀j,j<u→b j=true)∧∀j,v≤j→j<n→b j=false) (Q:=fun c st'=>st=st'∧∃u,c=(none,u,u)∧Spot b n u) ?s2 ?f2 ⟨rfl,_,_,rfl,by omega,by omega,by omega,fun j hj=>by
    by_cases z:o<hint+1
    ·exact dn j (hint-o) (by omega) (by omega) (h4 z)
    ·omega,fun j hj1 hj2=>up (hint-l) j hj1 hj2 h1⟩) ?p2)
   case s2=>
    rintro i c st' _ hi ⟨rfl,u,v,rfl,h1,h2,h3,h4,h5⟩
    dsimp only
    by_cases z:u ≥ v
    ·rw[if_pos z]
     obtain rfl:u=v:=by omega
     exact wpS_pure ⟨rfl,u,rfl,h2,h4,h5⟩
    ·rw[if_neg z]
     refine wpS_bind (run hk (by omega) ?_)
     dsimp only
     cases hm:b (u+(v-u) / 2) with
     |true=>rw[if_pos rfl];exact wpS_pure ⟨rfl,_,v,rfl,by omega,h2,by omega,fun j hj=>dn j (u+(v-u) / 2) (by omega) (by omega) hm,h5⟩
     |false=>rw[if_neg (by decide)];exact wpS_pure ⟨rfl,u,_,rfl,by omega,by omega,by omega,h4,fun j hj1 hj2=>up (u+(v-u) / 2) j hj1 hj2 hm⟩
   case f2=>
    rintro c st' ⟨rfl,u,v,rfl,h1,h2,h3,h4,h5⟩
    obtain rfl:u=v:=by have:max 0 n=n:=Nat.max_eq_right (Nat.zero_le n);omega
    exact⟨rfl,u,rfl,h2,h4,h5⟩
   case p2=>
    rintro c st' ⟨rfl,u,rfl,sp⟩
    exact wpS_pure (q u sp)
end
end D3
namespace D3
section
variable{α:Type}{rk:α→Int}
def Up(rk:α→Int)(l:List α):Prop:=l.Pairwise fun x y=>rk x≤rk y
theorem Up.app{l r:List α}(h1:Up rk l)(h2:Up rk r)(h:∀x∈l,∀y∈r,rk x≤rk y):Up rk (l++r):=List.pairwise_append.mpr ⟨h1,h2,h⟩
theorem Up.drop{l:List α}(h:Up rk l)(n:Nat):Up rk (l.drop n):=List.Pairwise.sublist (List.drop_sublist n l) h
theorem Up.take{l:List α}(h:Up rk l)(n:Nat):Up rk (l.take n):=List.Pairwise.sublist (List.take_sublist n l) h
theorem Up.cut{l:List α}(h:Up rk l){n:Nat}{x y:α}(hx:x∈l.take n)(hy:y∈l.drop n):rk x≤rk y:=by
 rw[Up,←List.take_append_drop n l] at h
 exact(List.pairwise_append.mp h).2.2 x hx y hy
structure Mg(rk:α→Int)(la lb out:List α)(ia ib:Nat):Prop where
 pm:out.Perm (la.take ia++lb.take ib)
 so:Up rk out
 ba:∀x∈out,∀y∈la.drop ia,rk x≤rk y
 bb:∀x∈out,∀y∈lb.drop ib,rk x≤rk y
 ha:ia≤la.length
 hb:ib≤lb.length
theorem Mr{l:List α}{n k:Nat}:l.take (n+k)=l.take n++(l.drop n).take k:=List.take_add
theorem Mg.pushA{la lb out:List α}{ia ib k:Nat}(m:Mg rk la lb out ia ib)(ua:Up rk la)(hk:ia+k≤la.length)(h:∀x∈(la.drop ia).take k,∀y∈lb.drop ib,rk x≤rk y):Mg rk la lb (out++(la.drop ia).take k) (ia+k) ib:=by
 have e:la.drop (ia+k)=(la.drop ia).drop k:=by rw[List.drop_drop]
 refine⟨?_,m.so.app ((ua.drop ia).take k) fun x hx y hy=>m.ba x hx y (List.mem_of_mem_take hy),fun x hx y hy=>?_,fun x hx y hy=>?_,hk,m.hb⟩
 ·rw[Mr]
  refine(m.pm.append_right _).trans ?_
  rw[List.append_assoc,List.append_assoc]
  exact List.Perm.append_left _ List.perm_append_comm
 ·rw[e] at hy
  rcases List.mem_append.mp hx with z|z
  ·exact m.ba x z y (List.mem_of_mem_drop hy)
  ·exact(ua.drop ia).cut z hy
 ·rcases List.mem_append.mp hx with z|z
  ·exact m.bb x z y hy
  ·exact h x z y hy
theorem Mg.swap{la lb out:List α}{ia ib:Nat}(m:Mg rk la lb out ia ib):Mg rk lb la out ib ia:=⟨m.pm.trans List.perm_append_comm,m.so,m.bb,m.ba,m.hb,m.ha⟩
theorem Mg.pushB{la lb out:List α}{ia ib k:Nat}(m:Mg rk la lb out ia ib)(ub:Up rk lb)(hk:ib+k≤lb.length)(h:∀x∈(lb.drop ib).take k,∀y∈la.drop ia,rk x≤rk y):Mg rk la lb (out++(lb.drop ib).take k) ia (ib+k):=(m.swap.pushA ub hk h).swap
def Merged(rk:α→Int)(la lb res:List α):Prop:=res.Perm (la++lb)∧Up rk res
theorem Mg.endA{la lb out:List α}{ia ib:Nat}(m:Mg rk la lb out ia ib)(ua:Up rk la)(h:ib=lb.length):Merged rk la lb (out++la.drop ia):=by
 subst h
 refine⟨?_,m.so.app (ua.drop ia) m.ba⟩
 refine(m.pm.append_right _).trans ?_
 rw[List.take_length,List.append_assoc]
 refine(List.Perm.append_left _ List.perm_append_comm).trans ?_
 rw[←List.append_assoc,List.take_append_drop]
theorem Merged.swap{la lb res:List α}(h:Merged rk la lb res):Merged rk lb la res:=⟨h.1.trans List.perm_append_comm,h.2⟩
theorem Mg.endB{la lb out:List α}{ia ib:Nat}(m:Mg rk la lb out ia ib)(ub:Up rk lb)(h:ia=la.length):Merged rk la lb (out++lb.drop ib):=(m.swap.endA ub h).swap
theorem Mg.lastA{la lb out:List α}{ia ib:Nat}(m:Mg rk la lb out ia ib)(ua:Up rk la)(ub:Up rk lb)(h:∀x∈lb.drop ib,∀y∈la.drop ia,rk x≤rk y):Merged rk la lb (out++lb.drop ib++la.drop ia):=by
 have hb:=m.hb
 have m2:=m.pushB (k:=lb.length-ib) ub (by omega) fun x hx=>h x (List.mem_of_mem_take hx)
 rw[List.take_of_length_le (by simp)] at m2
 exact m2.endA ua (by omega)
theorem Ox{l:List α}{i:Nat}(h:i<l.length):(l.drop i).take 1=[l[i]]:=by
 rw[List.drop_eq_getElem_cons h];rfl
theorem P8{l:List α}(u:Up rk l){i:Nat}(h:i<l.length):∀y∈l.drop i,rk l[i]≤rk y:=fun y hy=>by
 have hd:=u.drop i
 rw[List.drop_eq_getElem_cons h] at hd hy
 rcases List.mem_cons.mp hy with e|e
 ·rw[e];exact Int.le_refl _
 ·exact(List.pairwise_cons.mp hd).1 y e
theorem Up.getLe{l:List α}(u:Up rk l){i j:Nat}(hij:i≤j)(hj:j<l.length):rk (l[i]'(by omega))≤rk l[j]:=by
 by_cases e:i=j
 ·subst e;exact Int.le_refl _
 ·exact List.pairwise_iff_getElem.mp u i j (by omega) hj (by omega)
theorem Ta{l:List α}(u:Up rk l):Up (fun x=>- rk x) l.reverse:=by
 rw[Up,List.pairwise_reverse]
 exact u.imp fun h=>by omega
theorem Qu{l:List α}(u:Up (fun x=>- rk x) l):Up rk l.reverse:=by
 rw[Up,List.pairwise_reverse]
 exact u.imp fun {a b} h=>by have h : - rk a≤- rk b:=h;omega
theorem Merged.back{la lb res:List α}(h:Merged (fun x=>- rk x) la.reverse lb.reverse res):Merged rk la lb res.reverse:=by
 refine⟨?_,Qu h.2⟩
 have:=h.1
 rw[←List.reverse_append] at this
 exact(List.reverse_perm res).trans (this.trans ((List.reverse_perm _).trans List.perm_append_comm))
end
end D3
set_option maxRecDepth 100000
set_option maxHeartbeats 1000000
namespace D3
open PySem PySem.Spec
open PyProof.Rows
section
variable{rk:Keyed→Int}{a b out:Array Keyed}{ia ib k:Nat}
abbrev MgA(rk:Keyed→Int)(a b out:Array Keyed)(ia ib:Nat):Prop:=Mg rk a.toList b.toList out.toList ia ib
abbrev MdA(rk:Keyed→Int)(a b r:Array Keyed):Prop:=Merged rk a.toList b.toList r.toList
theorem Dl{a:Array Keyed}{i:Nat}:(a.extract i a.size).toList=a.toList.drop i:=by
 rw[Array.toList_extract,List.extract_eq_take_drop,List.take_of_length_le (by simp)]
theorem Jg{a:Array Keyed}{i k:Nat}:(a.extract i (i+k)).toList=(a.toList.drop i).take k:=by
 rw[Array.toList_extract,List.extract_eq_take_drop,show i+k-i=k by omega]
theorem Cz{a:Array Keyed}{i:Nat}(h:i<a.size):Af rk a i=rk (a.toList[i]'(by simpa using h)):=by
 unfold Af;simp[h]
theorem Fr{a:Array Keyed}{i:Nat}(h:i<a.size):a.getD i (.none,.none)=a.toList[i]'(by simpa using h):=by simp[h]
theorem L3{a:Array Keyed}{i k:Nat}{x:Keyed}(h:x∈(a.toList.drop i).take k):∃j,j<k∧i+j<a.size∧rk x=Af rk a (i+j):=by
 obtain⟨j,hj,e⟩:=List.getElem_of_mem h
 have hj':=hj
 rw[List.length_take,List.length_drop,Array.length_toList] at hj'
 refine⟨j,by omega,by omega,?_⟩
 rw[Cz (by omega),←e,List.getElem_take,List.getElem_drop]
theorem Ft{a:Array Keyed}(u:Up rk a.toList){i:Nat}(h:i<a.size){y:Keyed}(hy:y∈a.toList.drop i):Af rk a i≤rk y:=by
 rw[Cz h];exact P8 u (by simpa using h) y hy
theorem Mi{a:Array Keyed}(u:Up rk a.toList){i j:Nat}(hij:i≤j)(hj:j<a.size):Af rk a i≤Af rk a j:=by
 rw[Cz (show i<a.size by omega),Cz hj];exact u.getLe hij (by simpa using hj)
theorem Mg.more_a(m:MgA rk a b out ia ib)(ua:Up rk a.toList)(ub:Up rk b.toList)(hk:ia+k≤a.size)(hb:ib<b.size)(h:∀i,i<k→Af rk a (ia+i)≤Af rk b ib):MgA rk a b (out++a.extract ia (ia+k)) (ia+k) ib:=by
 show Mg rk _ _ (out++a.extract ia (ia+k)).toList _ _
 rw[Array.toList_append,Jg]
 refine m.pushA ua (by simpa using hk) fun x hx y hy=>?_
 obtain⟨j,h1,_,e⟩:=L3 (rk:=rk) hx
 have:=h j h1
 have:=Ft ub hb hy
 omega
theorem Mg.more_b(m:MgA rk a b out ia ib)(ua:Up rk a.toList)(ub:Up rk b.toList)(hk:ib+k≤b.size)(ha:ia<a.size)(h:∀i,i<k→Af rk b (ib+i)≤Af rk a ia):MgA rk a b (out++b.extract ib (ib+k)) ia (ib+k):=(Mg.more_a m.swap ub ua hk ha h).swap
theorem Pe{out b:Array Keyed}{i:Nat}(h:i<b.size):(out.push (b.getD i (.none,.none))).toList=(out++b.extract i (i+1)).toList:=by
 rw[Array.toList_append,Jg,Ox (by simpa using h),Array.toList_push,Fr h]
theorem Mg.one_a(m:MgA rk a b out ia ib)(ua:Up rk a.toList)(ub:Up rk b.toList)(ha:ia<a.size)(hb:ib<b.size)(h:Af rk a ia≤Af rk b ib):MgA rk a b (out.push (a.getD ia (.none,.none))) (ia+1) ib:=by
 show Mg rk _ _ (out.push (a.getD ia (.none,.none))).toList _ _
 rw[Pe ha]
 exact m.more_a ua ub (by omega) hb fun i hi=>by rw[show i=0 by omega];exact h
theorem Mg.one_b(m:MgA rk a b out ia ib)(ua:Up rk a.toList)(ub:Up rk b.toList)(ha:ia<a.size)(hb:ib<b.size)(h:Af rk b ib≤Af rk a ia):MgA rk a b (out.push (b.getD ib (.none,.none))) ia (ib+1):=(Mg.one_a m.swap ub ua hb ha h).swap
theorem Mg.fin_b(m:MgA rk a b out ia ib)(ua:Up rk a.toList)(h:ib=b.size):MdA rk a b (out++a.extract ia a.size++b.extract ib b.size):=by
 have:=m.endA ua (by simpa using h)
 show Merged rk _ _ (out++a.extract ia a.size++b.extract ib b.size).toList
 rw[Array.toList_append,Array.toList_append,Dl,Dl,List.drop_of_length_le (l:=b.toList) (by simp[h]),List.append_nil]
 exact this
theorem Mg.fin_a(m:MgA rk a b out ia ib)(ub:Up rk b.toList)(h:ia=a.size):MdA rk a b (out++a.extract ia a.size++b.extract ib b.size):=by
 have:=m.endB ub (by simpa using h)
 show Merged rk _ _ (out++a.extract ia a.size++b.extract ib b.size).toList
 rw[Array.toList_append,Array.toList_append,Dl,Dl,List.drop_of_length_le (l:=a.toList) (by simp[h]),List.append_nil]
 exact this
theorem Mg.fin_last(m:MgA rk a b out ia ib)(ua:Up rk a.toList)(ub:Up rk b.toList)(h:ia+1=a.size)(hl:∀y∈b.toList,rk y≤Af rk a (a.size-1)):MdA rk a b (out++b.extract ib b.size++a.extract ia a.size):=by
 have:=m.lastA ua ub fun x hx y hy=>by
  have h1:=hl x (List.mem_of_mem_drop hx)
  have h2:=Ft ua (show ia<a.size by omega) hy
  rw[show a.size-1=ia by omega] at h1
  omega
 show Merged rk _ _ (out++b.extract ib b.size++a.extract ia a.size).toList
 rw[Array.toList_append,Array.toList_append,Dl,Dl]
 exact this
theorem Mg.size(m:MgA rk a b out ia ib):out.size=ia+ib:=by
 have:=m.pm.length_eq
 have h1:=m.ha
 have h2:=m.hb
 rw[List.length_append,List.length_take,List.length_take,Nat.min_eq_left h1,Nat.min_eq_left h2,Array.length_toList] at this
 exact this
theorem Bi{a:Array Keyed}(u:Up rk a.toList){left:Bool}{key:Keyed}{base n:Nat}(hn:base+n≤a.size):∀i j,i≤j→j<n→Cw rk left key a base j=true→Cw rk left key a base i=true:=fun i j h1 h2 h3=>by
 have:=Mi u (show base+i≤base+j by omega) (show base+j<a.size by omega)
 unfold Cw at h3 ⊢
 cases left with
 |true=>rw[if_pos rfl] at h3 ⊢;have:=of_decide_eq_true h3;exact decide_eq_true (by omega)
 |false=>
  rw[if_neg Bool.false_ne_true] at h3 ⊢
  have h3:decide (rk key<Af rk a (base+j))=false:=by simpa using h3
  have:=of_decide_eq_false h3
  rw[decide_eq_false (show ¬rk key<Af rk a (base+i) by omega)];rfl
theorem bey_f{key:Keyed}{base i:Nat}:(Cw rk false key a base i=true→Af rk a (base+i)≤rk key)∧(Cw rk false key a base i=false→rk key<Af rk a (base+i)):=by
 unfold Cw
 rw[if_neg Bool.false_ne_true]
 by_cases z:rk key<Af rk a (base+i)
 ·rw[decide_eq_true z];exact⟨fun h=>(by cases h),fun _=>z⟩
 ·rw[decide_eq_false z];exact⟨fun _=>by omega,fun h=>by cases h⟩
theorem bey_t{key:Keyed}{base i:Nat}:(Cw rk true key a base i=true→Af rk a (base+i)<rk key)∧(Cw rk true key a base i=false→rk key≤Af rk a (base+i)):=by
 unfold Cw
 rw[if_pos rfl]
 by_cases z:Af rk a (base+i)<rk key
 ·rw[decide_eq_true z];exact⟨fun _=>z,fun h=>by cases h⟩
 ·rw[decide_eq_false z];exact⟨fun h=>(by cases h),fun _=>by omega⟩
end
end D3
set_option maxRecDepth 100000
set_option maxHeartbeats 1000000
namespace D3
open PySem PySem.Spec
open PyProof.Rows
def Jn:Array Keyed→Array Keyed→StateT SortSt Sem (Array Keyed):=sortPriv% PySem.Builtin.mergeLo
structure Like(st st':SortSt):Prop where
 kind:kindOf st'=kindOf st
 arr:arrOf st'=arrOf st
 pend:pendingOf st'=pendingOf st
 failed:failedOf st'=failedOf st
theorem Like.trans{st st' st'':SortSt}(h:Like st st')(h2:Like st' st''):Like st st'':=⟨h2.kind.trans h.kind,h2.arr.trans h.arr,h2.pend.trans h.pend,h2.failed.trans h.failed⟩
theorem Like.refl{st:SortSt}:Like st st:=⟨rfl,rfl,rfl,rfl⟩
def Sc:Nat→StateT SortSt Sem Unit:=sortPriv% PySem.Builtin.setMinGallop
section
variable{P:Program}{w:World}{A:Around}{E:Value→Shared→Prop}{s:Shared}{kd:SortKind}{ok:Keyed→Prop}{rk:Keyed→Int}
theorem Co{M:Model}{g:Nat}{Q:Unit→SortSt→Prop}{st:SortSt}(h:∀st2,Like st st2→Q () st2):wpS M A E s (Sc g) Q st:=by
 delta Sc
 exact wpS_modify (h _ ⟨rfl,rfl,rfl,rfl⟩)
theorem Ab{M:Model}{α:Type}{c:Prop}[Decidable c]{x y:StateT SortSt Sem α}{Q:α→SortSt→Prop}{st:SortSt}(h1:c→wpS M A E s x Q st)(h2:¬c→wpS M A E s y Q st):wpS M A E s (if c then x else y) Q st:=by
 by_cases z:c
 ·rw[if_pos z];exact h1 z
 ·rw[if_neg z];exact h2 z
theorem J8{a b:Array Keyed}{st:SortSt}{Q:Array Keyed→SortSt→Prop}(ask:E4 P w A E s kd ok rk)(hk:kindOf st=kd)(okA:∀x∈a,ok x)(okB:∀x∈b,ok x)(ua:Up rk a.toList)(ub:Up rk b.toList)(a1:1≤a.size)(b1:1≤b.size)(h0:Af rk b 0≤Af rk a 0)(hl:∀y∈b.toList,rk y≤Af rk a (a.size-1))(q:∀r st',MdA rk a b r→Like st st'→Q r st'):wpS (model P w) A E s (Jn a b) Q st:=by
 have m0:MgA rk a b #[] 0 0:=⟨by simp,List.Pairwise.nil,fun x hx=>by simp at hx,fun x hx=>by simp at hx,Nat.zero_le _,Nat.zero_le _⟩
 have m1:MgA rk a b #[b.getD 0 (.none,.none)] 0 1:=m0.one_b ua ub (by omega) (by omega) h0
 have kn:∀{st'},Like st st'→kindOf st'=kd:=fun l=>l.kind.trans hk
 delta Jn
 refine wpS_bind (wpS_lift (wpAny_rule ⟨rfl,?_⟩))
 refine wpS_bind (Ac (by omega) ?_)
 dsimp only
 by_cases z1:(1 == b.size)=true
 ·rw[if_pos z1]
  exact wpS_pure (q _ _ (m1.fin_b ua (by simpa using z1)) .refl)
 rw[if_neg z1]
 by_cases z2:(0+1 == a.size)=true
 ·rw[if_pos z2]
  exact wpS_pure (q _ _ (m1.fin_last ua ub (by simpa using z2) hl) .refl)
 rw[if_neg z2]
 have b2:1<b.size:=by
  have z3:¬1=b.size:=by simpa using z1
  omega
 have a2:1<a.size:=by
  have z3:¬0+1=a.size:=by simpa using z2
  omega
 refine wpS_bind (wpS_get ?_)
 refine wpS_bind (wpS_mono (wpS_forRange (I:=fun i c st'=>Like st st'∧∃out ia ib mg,c=(none,out,ia,ib,mg)∧MgA rk a b out ia ib∧ia+1<a.size∧ib<b.size∧i+1≤out.size) (Q:=fun c st'=>Like st st'∧∃r v,c=(some r,v)∧MdA rk a b r) ?s1 ?f1 ⟨.refl,_,0,1,_,rfl,m1,by omega,by omega,by simp⟩) ?p1)
 case f1=>
  rintro c st' ⟨l,out,ia,ib,mg,rfl,m,ha,hb,hs⟩
  exfalso
  have:=m.size
  have:max 0 (a.size+b.size)=a.size+b.size:=Nat.max_eq_right (Nat.zero_le _)
  omega
 case p1=>
  rintro c st' ⟨l,r,v,rfl,md⟩
  exact wpS_pure (q r st' md l)
 case s1=>
  rintro i c st' _ hi ⟨l,out,ia,ib,mg,rfl,m,ha,hb,hs⟩
  dsimp only
  refine wpS_bind (wpS_mono (wpS_forRange (I:=fun j c st'=>Like st st'∧∃out ia ib ac bc,c=(none,out,ia,ib,ac,bc)∧MgA rk a b out ia ib∧ia+1<a.size∧ib<b.size∧i+1+j≤out.size) (Q:=fun c st'=>Like st st'∧((∃r v,c=(some r,v)∧MdA rk a b r)∨∃out ia ib ac bc,c=(none,out,ia,ib,ac,bc)∧MgA rk a b out ia ib∧ia+1<a.size∧ib<b.size∧i+2≤out.size)) ?s2 ?f2 ⟨l,out,ia,ib,0,0,rfl,m,ha,hb,by omega⟩) ?p2)
  case f2=>
   rintro c st' ⟨l,out,ia,ib,ac,bc,rfl,m,ha,hb,hs⟩
   have:max 0 (a.size+b.size)=a.size+b.size:=Nat.max_eq_right (Nat.zero_le _)
   exact⟨l,.inr ⟨out,ia,ib,ac,bc,rfl,m,ha,hb,by omega⟩⟩
  case s2=>
   rintro j c st' _ hj ⟨l,out,ia,ib,ac,bc,rfl,m,ha,hb,hs⟩
   dsimp only
   refine wpS_bind (Ac hb (wpS_bind (Ac (by omega) (wpS_bind (ask _ _ _ _ (kn l) (Bc hb okB) (Bc (by omega) okA) ?_)))))
   dsimp only
   by_cases z:rk (b.getD ib (.none,.none))<rk (a.getD ia (.none,.none))
   ·rw[decide_eq_true z,if_pos rfl]
    refine wpS_bind (Ac hb ?_)
    have m':=m.one_b ua ub (by omega) hb (Int.le_of_lt z)
    by_cases y:(ib+1 == b.size)=true
    ·rw[if_pos y];exact wpS_pure ⟨l,.inl ⟨_,_,rfl,m'.fin_b ua (by simpa using y)⟩⟩
    ·rw[if_neg y]
     have y:¬ib+1=b.size:=by simpa using y
     have e:=m'.size
     have e0:=m.size
     exact Ab (fun _=>wpS_pure ⟨l,.inr ⟨_,_,_,_,_,rfl,m',ha,by omega,by omega⟩⟩) fun _=>wpS_pure ⟨l,_,_,_,_,_,rfl,m',ha,by omega,by omega⟩
   ·rw[decide_eq_false z,if_neg (by decide)]
    refine wpS_bind (Ac (by omega) ?_)
    have m':=m.one_a ua ub (by omega) hb (show Af rk a ia≤Af rk b ib by unfold Af;omega)
    by_cases y:(ia+1+1 == a.size)=true
    ·rw[if_pos y];exact wpS_pure ⟨l,.inl ⟨_,_,rfl,m'.fin_last ua ub (by simpa using y) hl⟩⟩
    ·rw[if_neg y]
     have y:¬ia+1+1=a.size:=by simpa using y
     have e:=m'.size
     have e0:=m.size
     exact Ab (fun _=>wpS_pure ⟨l,.inr ⟨_,_,_,_,_,rfl,m',by omega,hb,by omega⟩⟩) fun _=>wpS_pure ⟨l,_,_,_,_,_,rfl,m',by omega,hb,by omega⟩
  case p2=>
   rintro c st' ⟨l,⟨r,v,rfl,md⟩|⟨out,ia,ib,ac,bc,rfl,m,ha,hb,hs⟩⟩
   ·exact wpS_pure ⟨l,r,_,rfl,md⟩
   ·dsimp only
    refine wpS_bind (wpS_lift (wpAny_rule ⟨rfl,?_⟩))
    refine wpS_bind (wpS_mono (wpS_forRange (I:=fun j c st'=>Like st st'∧∃out ia ib mg ac bc,c=(none,out,ia,ib,mg,ac,bc)∧MgA rk a b out ia ib∧ia+1<a.size∧ib<b.size∧i+2≤out.size) (Q:=fun c st'=>Like st st'∧((∃r v,c=(some r,v)∧MdA rk a b r)∨∃out ia ib mg ac bc,c=(none,out,ia,ib,mg,ac,bc)∧MgA rk a b out ia ib∧ia+1<a.size∧ib<b.size∧i+2≤out.size)) ?s3 ?f3 ⟨l,out,ia,ib,_,_,_,rfl,m,ha,hb,hs⟩) ?p3)
    case f3=>
     rintro c st' ⟨l,out,ia,ib,mg,ac,bc,rfl,m,ha,hb,hs⟩
     exact⟨l,.inr ⟨out,ia,ib,mg,ac,bc,rfl,m,ha,hb,hs⟩⟩
    case p3=>
     rintro c st' ⟨l,⟨r,v,rfl,md⟩|⟨out,ia,ib,mg,ac,bc,rfl,m,ha,hb,hs⟩⟩
     ·exact wpS_pure ⟨l,r,_,rfl,md⟩
     ·dsimp only
      exact wpS_bind (Co fun st2 l2=>wpS_pure ⟨l.trans l2,_,_,_,_,rfl,m,ha,hb,by omega⟩)
    case s3=>
     rintro j c st' _ hj ⟨l,out,ia,ib,mg,ac,bc,rfl,m,ha,hb,hs⟩
     refine Ab (fun _=>?_) fun _=>?_
     ·refine wpS_bind (Co fun st2 l2'=>?_)
      have l2:=l.trans l2'
      dsimp only
      refine wpS_bind (Ac hb ?_)
      refine wpS_bind (Aq (left:=false) ask (kn l2) okA (Bc hb okB) (by omega) (by omega) (Bi ua (by omega)) fun k sp=>?_)
      have le1:=sp.le
      have e0:=m.size
      dsimp only
      refine Ab (fun k0=>?_) fun k0=>?_
      ·have mA:=m.more_a (k:=k) ua ub (by omega) hb fun i hi=>bey_f.1 (sp.lo i hi)
       have eA:=mA.size
       refine Ab (fun y=>wpS_pure ⟨l2,.inl ⟨_,_,rfl,mA.fin_last ua ub (by simpa using y) hl⟩⟩) fun y=>?_
       refine Ab (fun y2=>wpS_pure ⟨l2,.inl ⟨_,_,rfl,mA.fin_a ub (by simpa using y2)⟩⟩) fun y2=>?_
       have y:¬ia+k+1=a.size:=by simpa using y
       have y2:¬ia+k=a.size:=by simpa using y2
       refine wpS_bind (Ac hb ?_)
       have mB:=mA.one_b ua ub (by omega) hb (by have:=bey_f.2 (sp.hi k (Nat.le_refl _) (by omega));exact Int.le_of_lt this)
       have eB:=mB.size
       refine Ab (fun y=>wpS_pure ⟨l2,.inl ⟨_,_,rfl,mB.fin_b ua (by simpa using y)⟩⟩) fun y=>?_
       have y:¬ib+1=b.size:=by simpa using y
       refine wpS_bind (Ac (by omega) ?_)
       refine wpS_bind (Aq (left:=true) ask (kn l2) okB (Bc (by omega) okA) (by omega) (by omega) (Bi ub (by omega)) fun k2 sp2=>?_)
       have le2:=sp2.le
       dsimp only
       refine Ab (fun j0=>?_) fun j0=>?_
       ·have mC:=mB.more_b (k:=k2) ua ub (by omega) (by omega) fun i hi=>Int.le_of_lt (bey_t.1 (sp2.lo i hi))
        have eC:=mC.size
        refine Ab (fun y=>wpS_pure ⟨l2,.inl ⟨_,_,rfl,mC.fin_b ua (by simpa using y)⟩⟩) fun y=>?_
        have y:¬ib+1+k2=b.size:=by simpa using y
        refine wpS_bind (Ac (by omega) ?_)
        have mD:=mC.one_a ua ub (by omega) (by omega) (by have:=bey_t.2 (sp2.hi k2 (Nat.le_refl _) (by omega));exact this)
        have eD:=mD.size
        refine Ab (fun y=>wpS_pure ⟨l2,.inl ⟨_,_,rfl,mD.fin_last ua ub (by simpa using y) hl⟩⟩) fun y=>?_
        have y:¬ia+k+1+1=a.size:=by simpa using y
        exact Ab (fun _=>wpS_pure ⟨l2,.inr ⟨_,_,_,_,_,_,rfl,mD,by omega,by omega,by omega⟩⟩) fun _=>wpS_pure ⟨l2,_,_,_,_,_,_,rfl,mD,by omega,by omega,by omega⟩
       ·obtain rfl:k2=0:=by omega
        refine wpS_bind (Ac (by omega) ?_)
        have mD:=mB.one_a ua ub (by omega) (by omega) (by have:=bey_t.2 (sp2.hi 0 (Nat.le_refl _) (by omega));exact this)
        have eD:=mD.size
        refine Ab (fun y=>wpS_pure ⟨l2,.inl ⟨_,_,rfl,mD.fin_last ua ub (by simpa using y) hl⟩⟩) fun y=>?_
        have y:¬ia+k+1+1=a.size:=by simpa using y
        exact Ab (fun _=>wpS_pure ⟨l2,.inr ⟨_,_,_,_,_,_,rfl,mD,by omega,by omega,by omega⟩⟩) fun _=>wpS_pure ⟨l2,_,_,_,_,_,_,rfl,mD,by omega,by omega,by omega⟩
      ·obtain rfl:k=0:=by omega
       refine wpS_bind (Ac hb ?_)
       have mB:=m.one_b ua ub (by omega) hb (by have:=bey_f.2 (sp.hi 0 (Nat.le_refl _) (by omega));exact Int.le_of_lt this)
       have eB:=mB.size
       refine Ab (fun y=>wpS_pure ⟨l2,.inl ⟨_,_,rfl,mB.fin_b ua (by simpa using y)⟩⟩) fun y=>?_
       have y:¬ib+1=b.size:=by simpa using y
       refine wpS_bind (Ac (by omega) ?_)
       refine wpS_bind (Aq (left:=true) ask (kn l2) okB (Bc (by omega) okA) (by omega) (by omega) (Bi ub (by omega)) fun k2 sp2=>?_)
       have le2:=sp2.le
       dsimp only
       refine Ab (fun j0=>?_) fun j0=>?_
       ·have mC:=mB.more_b (k:=k2) ua ub (by omega) (by omega) fun i hi=>Int.le_of_lt (bey_t.1 (sp2.lo i hi))
        have eC:=mC.size
        refine Ab (fun y=>wpS_pure ⟨l2,.inl ⟨_,_,rfl,mC.fin_b ua (by simpa using y)⟩⟩) fun y=>?_
        have y:¬ib+1+k2=b.size:=by simpa using y
        refine wpS_bind (Ac (by omega) ?_)
        have mD:=mC.one_a ua ub (by omega) (by omega) (by have:=bey_t.2 (sp2.hi k2 (Nat.le_refl _) (by omega));exact this)
        have eD:=mD.size
        refine Ab (fun y=>wpS_pure ⟨l2,.inl ⟨_,_,rfl,mD.fin_last ua ub (by simpa using y) hl⟩⟩) fun y=>?_
        have y:¬ia+1+1=a.size:=by simpa using y
        exact Ab (fun _=>wpS_pure ⟨l2,.inr ⟨_,_,_,_,_,_,rfl,mD,by omega,by omega,by omega⟩⟩) fun _=>wpS_pure ⟨l2,_,_,_,_,_,_,rfl,mD,by omega,by omega,by omega⟩
       ·obtain rfl:k2=0:=by omega
        refine wpS_bind (Ac (by omega) ?_)
        have mD:=mB.one_a ua ub (by omega) (by omega) (by have:=bey_t.2 (sp2.hi 0 (Nat.le_refl _) (by omega));exact this)
        have eD:=mD.size
        refine Ab (fun y=>wpS_pure ⟨l2,.inl ⟨_,_,rfl,mD.fin_last ua ub (by simpa using y) hl⟩⟩) fun y=>?_
        have y:¬ia+1+1=a.size:=by simpa using y
        exact Ab (fun _=>wpS_pure ⟨l2,.inr ⟨_,_,_,_,_,_,rfl,mD,by omega,by omega,by omega⟩⟩) fun _=>wpS_pure ⟨l2,_,_,_,_,_,_,rfl,mD,by omega,by omega,by omega⟩
     ·refine wpS_bind (Co fun st2 l2'=>?_)
      have l2:=l.trans l2'
      dsimp only
      refine wpS_bind (Ac hb ?_)
      refine wpS_bind (Aq (left:=false) ask (kn l2) okA (Bc hb okB) (by omega) (by omega) (Bi ua (by omega)) fun k sp=>?_)
      have le1:=sp.le
      have e0:=m.size
      dsimp only
      refine Ab (fun k0=>?_) fun k0=>?_
      ·have mA:=m.more_a (k:=k) ua ub (by omega) hb fun i hi=>bey_f.1 (sp.lo i hi)
       have eA:=mA.size
       refine Ab (fun y=>wpS_pure ⟨l2,.inl ⟨_,_,rfl,mA.fin_last ua ub (by simpa using y) hl⟩⟩) fun y=>?_
       refine Ab (fun y2=>wpS_pure ⟨l2,.inl ⟨_,_,rfl,mA.fin_a ub (by simpa using y2)⟩⟩) fun y2=>?_
       have y:¬ia+k+1=a.size:=by simpa using y
       have y2:¬ia+k=a.size:=by simpa using y2
       refine wpS_bind (Ac hb ?_)
       have mB:=mA.one_b ua ub (by omega) hb (by have:=bey_f.2 (sp.hi k (Nat.le_refl _) (by omega));exact Int.le_of_lt this)
       have eB:=mB.size
       refine Ab (fun y=>wpS_pure ⟨l2,.inl ⟨_,_,rfl,mB.fin_b ua (by simpa using y)⟩⟩) fun y=>?_
       have y:¬ib+1=b.size:=by simpa using y
       refine wpS_bind (Ac (by omega) ?_)
       refine wpS_bind (Aq (left:=true) ask (kn l2) okB (Bc (by omega) okA) (by omega) (by omega) (Bi ub (by omega)) fun k2 sp2=>?_)
       have le2:=sp2.le
       dsimp only
       refine Ab (fun j0=>?_) fun j0=>?_
       ·have mC:=mB.more_b (k:=k2) ua ub (by omega) (by omega) fun i hi=>Int.le_of_lt (bey_t.1 (sp2.lo i hi))
        have eC:=mC.size
        refine Ab (fun y=>wpS_pure ⟨l2,.inl ⟨_,_,rfl,mC.fin_b ua (by simpa using y)⟩⟩) fun y=>?_
        have y:¬ib+1+k2=b.size:=by simpa using y
        refine wpS_bind (Ac (by omega) ?_)
        have mD:=mC.one_a ua ub (by omega) (by omega) (by have:=bey_t.2 (sp2.hi k2 (Nat.le_refl _) (by omega));exact this)
        have eD:=mD.size
        refine Ab (fun y=>wpS_pure ⟨l2,.inl ⟨_,_,rfl,mD.fin_last ua ub (by simpa using y) hl⟩⟩) fun y=>?_
        have y:¬ia+k+1+1=a.size:=by simpa using y
        exact Ab (fun _=>wpS_pure ⟨l2,.inr ⟨_,_,_,_,_,_,rfl,mD,by omega,by omega,by omega⟩⟩) fun _=>wpS_pure ⟨l2,_,_,_,_,_,_,rfl,mD,by omega,by omega,by omega⟩
       ·obtain rfl:k2=0:=by omega
        refine wpS_bind (Ac (by omega) ?_)
        have mD:=mB.one_a ua ub (by omega) (by omega) (by have:=bey_t.2 (sp2.hi 0 (Nat.le_refl _) (by omega));exact this)
        have eD:=mD.size
        refine Ab (fun y=>wpS_pure ⟨l2,.inl ⟨_,_,rfl,mD.fin_last ua ub (by simpa using y) hl⟩⟩) fun y=>?_
        have y:¬ia+k+1+1=a.size:=by simpa using y
        exact Ab (fun _=>wpS_pure ⟨l2,.inr ⟨_,_,_,_,_,_,rfl,mD,by omega,by omega,by omega⟩⟩) fun _=>wpS_pure ⟨l2,_,_,_,_,_,_,rfl,mD,by omega,by omega,by omega⟩
      ·obtain rfl:k=0:=by omega
       refine wpS_bind (Ac hb ?_)
       have mB:=m.one_b ua ub (by omega) hb (by have:=bey_f.2 (sp.hi 0 (Nat.le_refl _) (by omega));exact Int.le_of_lt this)
       have eB:=mB.size
       refine Ab (fun y=>wpS_pure ⟨l2,.inl ⟨_,_,rfl,mB.fin_b ua (by simpa using y)⟩⟩) fun y=>?_
       have y:¬ib+1=b.size:=by simpa using y
       refine wpS_bind (Ac (by omega) ?_)
       refine wpS_bind (Aq (left:=true) ask (kn l2) okB (Bc (by omega) okA) (by omega) (by omega) (Bi ub (by omega)) fun k2 sp2=>?_)
       have le2:=sp2.le
       dsimp only
       refine Ab (fun j0=>?_) fun j0=>?_
       ·have mC:=mB.more_b (k:=k2) ua ub (by omega) (by omega) fun i hi=>Int.le_of_lt (bey_t.1 (sp2.lo i hi))
        have eC:=mC.size
        refine Ab (fun y=>wpS_pure ⟨l2,.inl ⟨_,_,rfl,mC.fin_b ua (by simpa using y)⟩⟩) fun y=>?_
        have y:¬ib+1+k2=b.size:=by simpa using y
        refine wpS_bind (Ac (by omega) ?_)
        have mD:=mC.one_a ua ub (by omega) (by omega) (by have:=bey_t.2 (sp2.hi k2 (Nat.le_refl _) (by omega));exact this)
        have eD:=mD.size
        refine Ab (fun y=>wpS_pure ⟨l2,.inl ⟨_,_,rfl,mD.fin_last ua ub (by simpa using y) hl⟩⟩) fun y=>?_
        have y:¬ia+1+1=a.size:=by simpa using y
        exact Ab (fun _=>wpS_pure ⟨l2,.inr ⟨_,_,_,_,_,_,rfl,mD,by omega,by omega,by omega⟩⟩) fun _=>wpS_pure ⟨l2,_,_,_,_,_,_,rfl,mD,by omega,by omega,by omega⟩
       ·obtain rfl:k2=0:=by omega
        refine wpS_bind (Ac (by omega) ?_)
        have mD:=mB.one_a ua ub (by omega) (by omega) (by have:=bey_t.2 (sp2.hi 0 (Nat.le_refl _) (by omega));exact this)
        have eD:=mD.size
        refine Ab (fun y=>wpS_pure ⟨l2,.inl ⟨_,_,rfl,mD.fin_last ua ub (by simpa using y) hl⟩⟩) fun y=>?_
        have y:¬ia+1+1=a.size:=by simpa using y
        exact Ab (fun _=>wpS_pure ⟨l2,.inr ⟨_,_,_,_,_,_,rfl,mD,by omega,by omega,by omega⟩⟩) fun _=>wpS_pure ⟨l2,_,_,_,_,_,_,rfl,mD,by omega,by omega,by omega⟩
end
end D3
set_option maxRecDepth 100000
set_option maxHeartbeats 1000000
namespace D3
open PySem PySem.Spec
open PyProof.Rows
section
variable{rk:Keyed→Int}{a b out:Array Keyed}{na nb:Nat}
structure MhA(rk:Keyed→Int)(a b out:Array Keyed)(na nb:Nat):Prop where
 mg:MgA (fun x=>- rk x) a.reverse b.reverse out (a.size-na) (b.size-nb)
 la:na≤a.size
 lb:nb≤b.size
theorem Ot{a:Array Keyed}{i:Nat}(h:i<a.size):Af (fun x=>- rk x) a.reverse (a.size-1-i) = - Af rk a i:=by
 unfold Af
 have h2:a.size-1-i<a.reverse.size:=by rw[Array.size_reverse];omega
 have e:a.reverse.getD (a.size-1-i) (.none,.none)=a.getD i (.none,.none):=by
  simp only[Array.getD_eq_getD_getElem?]
  rw[Array.getElem?_reverse (by omega),show a.size-1-(a.size-1-i)=i by omega]
 rw[e]
theorem Ek{a:Array Keyed}(u:Up rk a.toList):Up (fun x=>- rk x) a.reverse.toList:=by rw[Array.toList_reverse];exact Ta u
theorem Rw{a:Array Keyed}{m n:Nat}(h:m≤n)(hn:n≤a.size):(a.reverse.extract (a.size-n) (a.size-n+(n-m))).toList=(a.extract m n).reverse.toList:=by
 rw[Jg,Array.toList_reverse,Array.toList_reverse,Array.toList_extract,List.extract_eq_take_drop,List.drop_reverse,List.take_reverse,List.length_take,Array.length_toList]
 congr 1
 rw[List.drop_take,show min (a.size-(a.size-n)) a.size-(n-m)=m by omega,show a.size-(a.size-n)-m=n-m by omega]
theorem MhA.more_a{m:Nat}(h:MhA rk a b out na nb)(ua:Up rk a.toList)(ub:Up rk b.toList)(hm:m≤na)(hb:0<nb)(hx:∀i,m≤i→i<na→Af rk b (nb-1)≤Af rk a i):MhA rk a b (out++(a.extract m na).reverse) m nb:=by
 have h1:=h.la
 have h2:=h.lb
 refine⟨?_,by omega,h2⟩
 have:=h.mg.more_a (k:=na-m) (Ek ua) (Ek ub) (by rw[Array.size_reverse];omega) (by rw[Array.size_reverse];omega) fun i hi=>by
  have e1:=Ot (rk:=rk) (a:=a) (i:=na-1-i) (by omega)
  have e2:=Ot (rk:=rk) (a:=b) (i:=nb-1) (by omega)
  rw[show a.size-1-(na-1-i)=a.size-na+i by omega] at e1
  rw[show b.size-1-(nb-1)=b.size-nb by omega] at e2
  have:=hx (na-1-i) (by omega) (by omega)
  omega
 show Mg _ _ _ (out++(a.extract m na).reverse).toList _ _
 rw[Array.toList_append,←Rw hm h1,←Array.toList_append,show a.size-m=a.size-na+(na-m) by omega]
 exact this
theorem MhA.swap(h:MhA rk a b out na nb):MhA rk b a out nb na:=⟨h.mg.swap,h.lb,h.la⟩
theorem MhA.more_b{m:Nat}(h:MhA rk a b out na nb)(ua:Up rk a.toList)(ub:Up rk b.toList)(hm:m≤nb)(ha:0<na)(hx:∀i,m≤i→i<nb→Af rk a (na-1)≤Af rk b i):MhA rk a b (out++(b.extract m nb).reverse) na m:=(h.swap.more_a ub ua hm ha hx).swap
theorem MhA.one_a(h:MhA rk a b out na nb)(ua:Up rk a.toList)(ub:Up rk b.toList)(ha:0<na)(hb:0<nb)(hx:Af rk b (nb-1)≤Af rk a (na-1)):MhA rk a b (out.push (a.getD (na-1) (.none,.none))) (na-1) nb:=by
 have h1:=h.la
 have:=h.more_a (m:=na-1) ua ub (by omega) hb fun i i1 i2=>by rw[show i=na-1 by omega];exact hx
 refine⟨?_,this.la,this.lb⟩
 have e:(out.push (a.getD (na-1) (.none,.none))).toList=(out++(a.extract (na-1) na).reverse).toList:=by
  rw[Array.toList_append,Array.toList_push,Array.toList_reverse,show a.extract (na-1) na=a.extract (na-1) (na-1+1) by rw[show na-1+1=na by omega],Jg,Ox (by simp;omega),Fr (by omega)];rfl
 show Mg _ _ _ (out.push (a.getD (na-1) (.none,.none))).toList _ _
 rw[e];exact this.mg
theorem MhA.one_b(h:MhA rk a b out na nb)(ua:Up rk a.toList)(ub:Up rk b.toList)(ha:0<na)(hb:0<nb)(hx:Af rk a (na-1)≤Af rk b (nb-1)):MhA rk a b (out.push (b.getD (nb-1) (.none,.none))) na (nb-1):=(h.swap.one_a ub ua hb ha hx).swap
theorem Gh{a:Array Keyed}{n:Nat}:(a.extract 0 n).toList=a.toList.take n:=by
 rw[Array.toList_extract,List.extract_eq_take_drop,List.drop_zero,Nat.sub_zero]
theorem Cu{a:Array Keyed}{n:Nat}(h:n≤a.size):(a.reverse.toList.drop (a.size-n)).reverse=a.toList.take n:=by
 rw[Array.toList_reverse,List.drop_reverse,List.reverse_reverse,Array.length_toList,show a.size-(a.size-n)=n by omega]
theorem MhA.fin_a(h:MhA rk a b out na nb)(ub:Up rk b.toList)(h0:na=0):MdA rk a b (a.extract 0 na++b.extract 0 nb++out.reverse):=by
 have:=h.mg.endB (Ek ub) (by rw[h0];simp)
 rw[Array.toList_reverse,Array.toList_reverse] at this
 have:=this.back
 show Merged rk _ _ (a.extract 0 na++b.extract 0 nb++out.reverse).toList
 rw[List.reverse_append,←Array.toList_reverse (xs:=b),Cu h.lb] at this
 rw[Array.toList_append,Array.toList_append,Gh,Gh,Array.toList_reverse,h0,List.take_zero,List.nil_append]
 exact this
theorem MhA.fin_b(h:MhA rk a b out na nb)(ua:Up rk a.toList)(h0:nb=0):MdA rk a b (a.extract 0 na++b.extract 0 nb++out.reverse):=by
 have:=h.mg.endA (Ek ua) (by rw[h0];simp)
 rw[Array.toList_reverse,Array.toList_reverse] at this
 have:=this.back
 show Merged rk _ _ (a.extract 0 na++b.extract 0 nb++out.reverse).toList
 rw[List.reverse_append,←Array.toList_reverse (xs:=a),Cu h.la] at this
 rw[Array.toList_append,Array.toList_append,Gh,Gh,Array.toList_reverse,h0,List.take_zero,List.append_nil]
 exact this
theorem Nd{a:Array Keyed}(u:Up rk a.toList){n:Nat}{x:Keyed}(h:x∈a.toList.take n):Af rk a 0≤rk x:=by
 have hm:=List.mem_of_mem_take h
 have hp:0<a.size:=by rw[←Array.length_toList];exact List.length_pos_of_mem hm
 exact Ft u hp (by simpa using hm)
theorem MhA.fin_first(h:MhA rk a b out na nb)(ua:Up rk a.toList)(ub:Up rk b.toList)(h1:nb=1)(h0:Af rk b 0≤Af rk a 0):MdA rk a b (b.extract 0 nb++a.extract 0 na++out.reverse):=by
 have hlb:=h.lb
 have:=h.mg.swap.lastA (Ek ub) (Ek ua) fun x hx y hy=>by
  have hx':x∈a.toList.take na:=by rw[←Cu h.la];exact List.mem_reverse.mpr hx
  have hy':y∈b.toList.take nb:=by rw[←Cu h.lb];exact List.mem_reverse.mpr hy
  have e1:=Nd ua hx'
  have e2:rk y=Af rk b 0:=by
   rw[h1] at hy'
   obtain⟨j,j1,_,e⟩:=L3 (rk:=rk) (a:=b) (i:=0) (k:=1) (x:=y) (by simpa using hy')
   rw[e,show 0+j=0 by omega]
  omega
 rw[Array.toList_reverse,Array.toList_reverse] at this
 have:=this.swap.back
 show Merged rk _ _ (b.extract 0 nb++a.extract 0 na++out.reverse).toList
 rw[List.reverse_append,List.reverse_append,←Array.toList_reverse (xs:=a),←Array.toList_reverse (xs:=b),Cu h.la,Cu h.lb] at this
 rw[Array.toList_append,Array.toList_append,Gh,Gh,Array.toList_reverse,List.append_assoc]
 exact this
theorem MhA.size(h:MhA rk a b out na nb):out.size+na+nb=a.size+b.size:=by
 have:=h.mg.size
 have h1:=h.la
 have h2:=h.lb
 omega
end
end D3
set_option maxRecDepth 100000
set_option maxHeartbeats 1000000
namespace D3
open PySem PySem.Spec
open PyProof.Rows
def Jo:Array Keyed→Array Keyed→StateT SortSt Sem (Array Keyed):=sortPriv% PySem.Builtin.mergeHi
section
variable{P:Program}{w:World}{A:Around}{E:Value→Shared→Prop}{s:Shared}{kd:SortKind}{ok:Keyed→Prop}{rk:Keyed→Int}
theorem J9{a b:Array Keyed}{st:SortSt}{Q:Array Keyed→SortSt→Prop}(ask:E4 P w A E s kd ok rk)(hk:kindOf st=kd)(okA:∀x∈a,ok x)(okB:∀x∈b,ok x)(ua:Up rk a.toList)(ub:Up rk b.toList)(a1:1≤a.size)(b1:1≤b.size)(h0:Af rk b 0≤Af rk a 0)(hl:Af rk b (b.size-1)≤Af rk a (a.size-1))(q:∀r st',MdA rk a b r→Like st st'→Q r st'):wpS (model P w) A E s (Jo a b) Q st:=by
 have m0:MhA rk a b #[] a.size b.size:=⟨by rw[Nat.sub_self,Nat.sub_self];exact⟨by simp,List.Pairwise.nil,fun x hx=>by simp at hx,fun x hx=>by simp at hx,Nat.zero_le _,Nat.zero_le _⟩,Nat.le_refl _,Nat.le_refl _⟩
 have m1:MhA rk a b #[a.getD (a.size-1) (.none,.none)] (a.size-1) b.size:=m0.one_a ua ub (by omega) (by omega) hl
 have kn:∀{st'},Like st st'→kindOf st'=kd:=fun l=>l.kind.trans hk
 delta Jo
 refine wpS_bind (wpS_lift (wpAny_rule ⟨rfl,?_⟩))
 refine wpS_bind (Ac (by omega) ?_)
 dsimp only
 refine Ab (fun z=>wpS_pure (q _ _ (m1.fin_a ub (by simpa using z)) .refl)) fun z1=>?_
 refine Ab (fun z=>wpS_pure (q _ _ (m1.fin_first ua ub (by simpa using z) h0) .refl)) fun z2=>?_
 have z1:¬a.size-1=0:=by simpa using z1
 have z2:¬b.size=1:=by simpa using z2
 refine wpS_bind (wpS_get ?_)
 refine wpS_bind (wpS_mono (wpS_forRange (I:=fun i c st'=>Like st st'∧∃na nb out mg,c=(none,na,nb,out,mg)∧MhA rk a b out na nb∧0<na∧1<nb∧i+1≤out.size) (Q:=fun c st'=>Like st st'∧∃r v,c=(some r,v)∧MdA rk a b r) ?s1 ?f1 ⟨.refl,_,_,_,_,rfl,m1,by omega,by omega,by simp⟩) ?p1)
 case f1=>
  rintro c st' ⟨l,na,nb,out,mg,rfl,m,ha,hb,hs⟩
  exfalso
  have:=m.size
  have:max 0 (a.size+b.size)=a.size+b.size:=Nat.max_eq_right (Nat.zero_le _)
  omega
 case p1=>
  rintro c st' ⟨l,r,v,rfl,md⟩
  exact wpS_pure (q r st' md l)
 case s1=>
  rintro i c st' _ hi ⟨l,na,nb,out,mg,rfl,m,ha,hb,hs⟩
  dsimp only
  refine wpS_bind (wpS_mono (wpS_forRange (I:=fun j c st'=>Like st st'∧∃na nb out ac bc,c=(none,na,nb,out,ac,bc)∧MhA rk a b out na nb∧0<na∧1<nb∧i+1+j≤out.size) (Q:=fun c st'=>Like st st'∧((∃r v,c=(some r,v)∧MdA rk a b r)∨∃na nb out ac bc,c=(none,na,nb,out,ac,bc)∧MhA rk a b out na nb∧0<na∧1<nb∧i+2≤out.size)) ?s2 ?f2 ⟨l,na,nb,out,0,0,rfl,m,ha,hb,by omega⟩) ?p2)
  case f2=>
   rintro c st' ⟨l,na,nb,out,ac,bc,rfl,m,ha,hb,hs⟩
   have:max 0 (a.size+b.size)=a.size+b.size:=Nat.max_eq_right (Nat.zero_le _)
   exact⟨l,.inr ⟨na,nb,out,ac,bc,rfl,m,ha,hb,by omega⟩⟩
  case s2=>
   rintro j c st' _ hj ⟨l,na,nb,out,ac,bc,rfl,m,ha,hb,hs⟩
   have hla:=m.la
   have hlb:=m.lb
   have e0:=m.size
   dsimp only
   refine wpS_bind (Ac (by omega) (wpS_bind (Ac (by omega) (wpS_bind (ask _ _ _ _ (kn l) (Bc (by omega) okB) (Bc (by omega) okA) ?_)))))
   dsimp only
   by_cases z:rk (b.getD (nb-1) (.none,.none))<rk (a.getD (na-1) (.none,.none))
   ·rw[decide_eq_true z,if_pos rfl]
    refine wpS_bind (Ac (by omega) ?_)
    have m':=m.one_a ua ub ha (by omega) (Int.le_of_lt z)
    have e:=m'.size
    refine Ab (fun y=>wpS_pure ⟨l,.inl ⟨_,_,rfl,m'.fin_a ub (by simpa using y)⟩⟩) fun y=>?_
    have y:¬na-1=0:=by simpa using y
    exact Ab (fun _=>wpS_pure ⟨l,.inr ⟨_,_,_,_,_,rfl,m',by omega,hb,by omega⟩⟩) fun _=>wpS_pure ⟨l,_,_,_,_,_,rfl,m',by omega,hb,by omega⟩
   ·rw[decide_eq_false z,if_neg (by decide)]
    refine wpS_bind (Ac (by omega) ?_)
    have m':=m.one_b ua ub ha (by omega) (show Af rk a (na-1)≤Af rk b (nb-1) by unfold Af;omega)
    have e:=m'.size
    refine Ab (fun y=>wpS_pure ⟨l,.inl ⟨_,_,rfl,m'.fin_first ua ub (by simpa using y) h0⟩⟩) fun y=>?_
    have y:¬nb-1=1:=by simpa using y
    exact Ab (fun _=>wpS_pure ⟨l,.inr ⟨_,_,_,_,_,rfl,m',ha,by omega,by omega⟩⟩) fun _=>wpS_pure ⟨l,_,_,_,_,_,rfl,m',ha,by omega,by omega⟩
  case p2=>
   rintro c st' ⟨l,⟨r,v,rfl,md⟩|⟨na,nb,out,ac,bc,rfl,m,ha,hb,hs⟩⟩
   ·exact wpS_pure ⟨l,r,_,rfl,md⟩
   ·dsimp only
    refine wpS_bind (wpS_lift (wpAny_rule ⟨rfl,?_⟩))
    refine wpS_bind (wpS_mono (wpS_forRange (I:=fun j c st'=>Like st st'∧∃na nb out mg ac bc,c=(none,na,nb,out,mg,ac,bc)∧MhA rk a b out na nb∧0<na∧1<nb∧i+2≤out.size) (Q:=fun c st'=>Like st st'∧((∃r v,c=(some r,v)∧MdA rk a b r)∨∃na nb out mg ac bc,c=(none,na,nb,out,mg,ac,bc)∧MhA rk a b out na nb∧0<na∧1<nb∧i+2≤out.size)) ?s3 ?f3 ⟨l,na,nb,out,_,_,_,rfl,m,ha,hb,hs⟩) ?p3)
    case f3=>
     rintro c st' ⟨l,na,nb,out,mg,ac,bc,rfl,m,ha,hb,hs⟩
     exact⟨l,.inr ⟨na,nb,out,mg,ac,bc,rfl,m,ha,hb,hs⟩⟩
    case p3=>
     rintro c st' ⟨l,⟨r,v,rfl,md⟩|⟨na,nb,out,mg,ac,bc,rfl,m,ha,hb,hs⟩⟩
     ·exact wpS_pure ⟨l,r,_,rfl,md⟩
     ·dsimp only
      exact wpS_bind (Co fun st2 l2=>wpS_pure ⟨l.trans l2,_,_,_,_,rfl,m,ha,hb,by omega⟩)
    case s3=>
     rintro j c st' _ hj ⟨l,na,nb,out,mg,ac,bc,rfl,m,ha,hb,hs⟩
     refine Ab (fun _=>?_) fun _=>?_
     ·refine wpS_bind (Co fun st2 l2'=>?_)
      have l2:=l.trans l2'
      have hla:=m.la
      have hlb:=m.lb
      dsimp only
      refine wpS_bind (Ac (by omega) ?_)
      refine wpS_bind (Aq (left:=false) ask (kn l2) okA (Bc (by omega) okB) (by omega) (by omega) (Bi ua (by omega)) fun k sp=>?_)
      have le1:=sp.le
      have e0:=m.size
      dsimp only
      refine Ab (fun k0=>?_) fun k0=>?_
      ·have mA:=m.more_a (m:=k) ua ub le1 (by omega) fun i i1 i2=>by have:=bey_f.2 (sp.hi i i1 i2);rw[Nat.zero_add] at this;exact Int.le_of_lt this
       have eA:=mA.size
       refine Ab (fun y=>wpS_pure ⟨l2,.inl ⟨_,_,rfl,mA.fin_a ub (by simpa using y)⟩⟩) fun y=>?_
       have y:¬k=0:=by simpa using y
       refine wpS_bind (Ac (by omega) ?_)
       have mB:=mA.one_b ua ub (by omega) (by omega) (by have:=bey_f.1 (sp.lo (k-1) (by omega));rw[Nat.zero_add] at this;exact this)
       have eB:=mB.size
       refine Ab (fun y=>wpS_pure ⟨l2,.inl ⟨_,_,rfl,mB.fin_first ua ub (by simpa using y) h0⟩⟩) fun y=>?_
       have y:¬nb-1=1:=by simpa using y
       refine wpS_bind (Ac (by omega) ?_)
       refine wpS_bind (Aq (left:=true) ask (kn l2) okB (Bc (by omega) okA) (by omega) (by omega) (Bi ub (by omega)) fun k2 sp2=>?_)
       have le2:=sp2.le
       dsimp only
       refine Ab (fun j0=>?_) fun j0=>?_
       ·have mC:=mB.more_b (m:=k2) ua ub le2 (by omega) fun i i1 i2=>by have:=bey_t.2 (sp2.hi i i1 i2);rw[Nat.zero_add] at this;exact this
        have eC:=mC.size
        refine Ab (fun y=>wpS_pure ⟨l2,.inl ⟨_,_,rfl,mC.fin_first ua ub (by simpa using y) h0⟩⟩) fun y3=>?_
        refine Ab (fun y=>wpS_pure ⟨l2,.inl ⟨_,_,rfl,mC.fin_b ua (by simpa using y)⟩⟩) fun y4=>?_
        have y3:¬k2=1:=by simpa using y3
        have y4:¬k2=0:=by simpa using y4
        refine wpS_bind (Ac (by omega) ?_)
        have mD:=mC.one_a ua ub (by omega) (by omega) (Int.le_of_lt (by have:=bey_t.1 (sp2.lo (k2-1) (by omega));rw[Nat.zero_add] at this;exact this))
        have eD:=mD.size
        refine Ab (fun y=>wpS_pure ⟨l2,.inl ⟨_,_,rfl,mD.fin_a ub (by simpa using y)⟩⟩) fun y=>?_
        have y:¬k-1=0:=by simpa using y
        exact Ab (fun _=>wpS_pure ⟨l2,.inr ⟨_,_,_,_,_,_,rfl,mD,by omega,by omega,by omega⟩⟩) fun _=>wpS_pure ⟨l2,_,_,_,_,_,_,rfl,mD,by omega,by omega,by omega⟩
       ·obtain rfl:k2=nb-1:=by omega
        refine wpS_bind (Ac (by omega) ?_)
        have mD:=mB.one_a ua ub (by omega) (by omega) (Int.le_of_lt (by have:=bey_t.1 (sp2.lo ((nb-1)-1) (by omega));rw[Nat.zero_add] at this;exact this))
        have eD:=mD.size
        refine Ab (fun y=>wpS_pure ⟨l2,.inl ⟨_,_,rfl,mD.fin_a ub (by simpa using y)⟩⟩) fun y=>?_
        have y:¬k-1=0:=by simpa using y
        exact Ab (fun _=>wpS_pure ⟨l2,.inr ⟨_,_,_,_,_,_,rfl,mD,by omega,by omega,by omega⟩⟩) fun _=>wpS_pure ⟨l2,_,_,_,_,_,_,rfl,mD,by omega,by omega,by omega⟩
      ·obtain rfl:k=na:=by omega
       refine wpS_bind (Ac (by omega) ?_)
       have mB:=m.one_b ua ub (by omega) (by omega) (by have:=bey_f.1 (sp.lo (k-1) (by omega));rw[Nat.zero_add] at this;exact this)
       have eB:=mB.size
       refine Ab (fun y=>wpS_pure ⟨l2,.inl ⟨_,_,rfl,mB.fin_first ua ub (by simpa using y) h0⟩⟩) fun y=>?_
       have y:¬nb-1=1:=by simpa using y
       refine wpS_bind (Ac (by omega) ?_)
       refine wpS_bind (Aq (left:=true) ask (kn l2) okB (Bc (by omega) okA) (by omega) (by omega) (Bi ub (by omega)) fun k2 sp2=>?_)
       have le2:=sp2.le
       dsimp only
       refine Ab (fun j0=>?_) fun j0=>?_
       ·have mC:=mB.more_b (m:=k2) ua ub le2 (by omega) fun i i1 i2=>by have:=bey_t.2 (sp2.hi i i1 i2);rw[Nat.zero_add] at this;exact this
        have eC:=mC.size
        refine Ab (fun y=>wpS_pure ⟨l2,.inl ⟨_,_,rfl,mC.fin_first ua ub (by simpa using y) h0⟩⟩) fun y3=>?_
        refine Ab (fun y=>wpS_pure ⟨l2,.inl ⟨_,_,rfl,mC.fin_b ua (by simpa using y)⟩⟩) fun y4=>?_
        have y3:¬k2=1:=by simpa using y3
        have y4:¬k2=0:=by simpa using y4
        refine wpS_bind (Ac (by omega) ?_)
        have mD:=mC.one_a ua ub (by omega) (by omega) (Int.le_of_lt (by have:=bey_t.1 (sp2.lo (k2-1) (by omega));rw[Nat.zero_add] at this;exact this))
        have eD:=mD.size
        refine Ab (fun y=>wpS_pure ⟨l2,.inl ⟨_,_,rfl,mD.fin_a ub (by simpa using y)⟩⟩) fun y=>?_
        have y:¬k-1=0:=by simpa using y
        exact Ab (fun _=>wpS_pure ⟨l2,.inr ⟨_,_,_,_,_,_,rfl,mD,by omega,by omega,by omega⟩⟩) fun _=>wpS_pure ⟨l2,_,_,_,_,_,_,rfl,mD,by omega,by omega,by omega⟩
       ·obtain rfl:k2=nb-1:=by omega
        refine wpS_bind (Ac (by omega) ?_)
        have mD:=mB.one_a ua ub (by omega) (by omega) (Int.le_of_lt (by have:=bey_t.1 (sp2.lo ((nb-1)-1) (by omega));rw[Nat.zero_add] at this;exact this))
        have eD:=mD.size
        refine Ab (fun y=>wpS_pure ⟨l2,.inl ⟨_,_,rfl,mD.fin_a ub (by simpa using y)⟩⟩) fun y=>?_
        have y:¬k-1=0:=by simpa using y
        exact Ab (fun _=>wpS_pure ⟨l2,.inr ⟨_,_,_,_,_,_,rfl,mD,by omega,by omega,by omega⟩⟩) fun _=>wpS_pure ⟨l2,_,_,_,_,_,_,rfl,mD,by omega,by omega,by omega⟩
     ·refine wpS_bind (Co fun st2 l2'=>?_)
      have l2:=l.trans l2'
      have hla:=m.la
      have hlb:=m.lb
      dsimp only
      refine wpS_bind (Ac (by omega) ?_)
      refine wpS_bind (Aq (left:=false) ask (kn l2) okA (Bc (by omega) okB) (by omega) (by omega) (Bi ua (by omega)) fun k sp=>?_)
      have le1:=sp.le
      have e0:=m.size
      dsimp only
      refine Ab (fun k0=>?_) fun k0=>?_
      ·have mA:=m.more_a (m:=k) ua ub le1 (by omega) fun i i1 i2=>by have:=bey_f.2 (sp.hi i i1 i2);rw[Nat.zero_add] at this;exact Int.le_of_lt this
       have eA:=mA.size
       refine Ab (fun y=>wpS_pure ⟨l2,.inl ⟨_,_,rfl,mA.fin_a ub (by simpa using y)⟩⟩) fun y=>?_
       have y:¬k=0:=by simpa using y
       refine wpS_bind (Ac (by omega) ?_)
       have mB:=mA.one_b ua ub (by omega) (by omega) (by have:=bey_f.1 (sp.lo (k-1) (by omega));rw[Nat.zero_add] at this;exact this)
       have eB:=mB.size
       refine Ab (fun y=>wpS_pure ⟨l2,.inl ⟨_,_,rfl,mB.fin_first ua ub (by simpa using y) h0⟩⟩) fun y=>?_
       have y:¬nb-1=1:=by simpa using y
       refine wpS_bind (Ac (by omega) ?_)
       refine wpS_bind (Aq (left:=true) ask (kn l2) okB (Bc (by omega) okA) (by omega) (by omega) (Bi ub (by omega)) fun k2 sp2=>?_)
       have le2:=sp2.le
       dsimp only
       refine Ab (fun j0=>?_) fun j0=>?_
       ·have mC:=mB.more_b (m:=k2) ua ub le2 (by omega) fun i i1 i2=>by have:=bey_t.2 (sp2.hi i i1 i2);rw[Nat.zero_add] at this;exact this
        have eC:=mC.size
        refine Ab (fun y=>wpS_pure ⟨l2,.inl ⟨_,_,rfl,mC.fin_first ua ub (by simpa using y) h0⟩⟩) fun y3=>?_
        refine Ab (fun y=>wpS_pure ⟨l2,.inl ⟨_,_,rfl,mC.fin_b ua (by simpa using y)⟩⟩) fun y4=>?_
        have y3:¬k2=1:=by simpa using y3
        have y4:¬k2=0:=by simpa using y4
        refine wpS_bind (Ac (by omega) ?_)
        have mD:=mC.one_a ua ub (by omega) (by omega) (Int.le_of_lt (by have:=bey_t.1 (sp2.lo (k2-1) (by omega));rw[Nat.zero_add] at this;exact this))
        have eD:=mD.size
        refine Ab (fun y=>wpS_pure ⟨l2,.inl ⟨_,_,rfl,mD.fin_a ub (by simpa using y)⟩⟩) fun y=>?_
        have y:¬k-1=0:=by simpa using y
        exact Ab (fun _=>wpS_pure ⟨l2,.inr ⟨_,_,_,_,_,_,rfl,mD,by omega,by omega,by omega⟩⟩) fun _=>wpS_pure ⟨l2,_,_,_,_,_,_,rfl,mD,by omega,by omega,by omega⟩
       ·obtain rfl:k2=nb-1:=by omega
        refine wpS_bind (Ac (by omega) ?_)
        have mD:=mB.one_a ua ub (by omega) (by omega) (Int.le_of_lt (by have:=bey_t.1 (sp2.lo ((nb-1)-1) (by omega));rw[Nat.zero_add] at this;exact this))
        have eD:=mD.size
        refine Ab (fun y=>wpS_pure ⟨l2,.inl ⟨_,_,rfl,mD.fin_a ub (by simpa using y)⟩⟩) fun y=>?_
        have y:¬k-1=0:=by simpa using y
        exact Ab (fun _=>wpS_pure ⟨l2,.inr ⟨_,_,_,_,_,_,rfl,mD,by omega,by omega,by omega⟩⟩) fun _=>wpS_pure ⟨l2,_,_,_,_,_,_,rfl,mD,by omega,by omega,by omega⟩
      ·obtain rfl:k=na:=by omega
       refine wpS_bind (Ac (by omega) ?_)
       have mB:=m.one_b ua ub (by omega) (by omega) (by have:=bey_f.1 (sp.lo (k-1) (by omega));rw[Nat.zero_add] at this;exact this)
       have eB:=mB.size
       refine Ab (fun y=>wpS_pure ⟨l2,.inl ⟨_,_,rfl,mB.fin_first ua ub (by simpa using y) h0⟩⟩) fun y=>?_
       have y:¬nb-1=1:=by simpa using y
       refine wpS_bind (Ac (by omega) ?_)
       refine wpS_bind (Aq (left:=true) ask (kn l2) okB (Bc (by omega) okA) (by omega) (by omega) (Bi ub (by omega)) fun k2 sp2=>?_)
       have le2:=sp2.le
       dsimp only
       refine Ab (fun j0=>?_) fun j0=>?_
       ·have mC:=mB.more_b (m:=k2) ua ub le2 (by omega) fun i i1 i2=>by have:=bey_t.2 (sp2.hi i i1 i2);rw[Nat.zero_add] at this;exact this
        have eC:=mC.size
        refine Ab (fun y=>wpS_pure ⟨l2,.inl ⟨_,_,rfl,mC.fin_first ua ub (by simpa using y) h0⟩⟩) fun y3=>?_
        refine Ab (fun y=>wpS_pure ⟨l2,.inl ⟨_,_,rfl,mC.fin_b ua (by simpa using y)⟩⟩) fun y4=>?_
        have y3:¬k2=1:=by simpa using y3
        have y4:¬k2=0:=by simpa using y4
        refine wpS_bind (Ac (by omega) ?_)
        have mD:=mC.one_a ua ub (by omega) (by omega) (Int.le_of_lt (by have:=bey_t.1 (sp2.lo (k2-1) (by omega));rw[Nat.zero_add] at this;exact this))
        have eD:=mD.size
        refine Ab (fun y=>wpS_pure ⟨l2,.inl ⟨_,_,rfl,mD.fin_a ub (by simpa using y)⟩⟩) fun y=>?_
        have y:¬k-1=0:=by simpa using y
        exact Ab (fun _=>wpS_pure ⟨l2,.inr ⟨_,_,_,_,_,_,rfl,mD,by omega,by omega,by omega⟩⟩) fun _=>wpS_pure ⟨l2,_,_,_,_,_,_,rfl,mD,by omega,by omega,by omega⟩
       ·obtain rfl:k2=nb-1:=by omega
        refine wpS_bind (Ac (by omega) ?_)
        have mD:=mB.one_a ua ub (by omega) (by omega) (Int.le_of_lt (by have:=bey_t.1 (sp2.lo ((nb-1)-1) (by omega));rw[Nat.zero_add] at this;exact this))
        have eD:=mD.size
        refine Ab (fun y=>wpS_pure ⟨l2,.inl ⟨_,_,rfl,mD.fin_a ub (by simpa using y)⟩⟩) fun y=>?_
        have y:¬k-1=0:=by simpa using y
        exact Ab (fun _=>wpS_pure ⟨l2,.inr ⟨_,_,_,_,_,_,rfl,mD,by omega,by omega,by omega⟩⟩) fun _=>wpS_pure ⟨l2,_,_,_,_,_,_,rfl,mD,by omega,by omega,by omega⟩
end
end D3
set_option maxRecDepth 100000
set_option maxHeartbeats 1000000
namespace D3
open PySem PySem.Spec
open PyProof.Rows
def He:Nat→Nat→StateT SortSt Sem (Option Nat):=sortPriv% PySem.Builtin.countRun
def E2:Nat→Nat→Nat→StateT SortSt Sem Bool:=sortPriv% PySem.Builtin.binarySort
def UpSeg(rk:Keyed→Int)(arr:Array Keyed)(lo hi:Nat):Prop:=∀i j,lo≤i→i≤j→j<hi→Af rk arr i≤Af rk arr j
structure Bas(rk:Keyed→Int)(kd:SortKind)(ok:Keyed→Prop)(a0:Array Keyed)(st:SortSt):Prop where
 kind:kindOf st=kd
 perm:(arrOf st).Perm a0
 fail:failedOf st=none
 okA:∀x∈a0,ok x
 dist:(a0.toList.map rk).Nodup
section
variable{P:Program}{w:World}{A:Around}{E:Value→Shared→Prop}{s:Shared}{kd:SortKind}{ok:Keyed→Prop}{rk:Keyed→Int}{a0:Array Keyed}{st:SortSt}
theorem Bas.size(b:Bas rk kd ok a0 st):(arrOf st).size=a0.size:=b.perm.size_eq
theorem Bas.oks(b:Bas rk kd ok a0 st):∀x∈arrOf st,ok x:=fun x hx=>b.okA x (b.perm.mem_iff.mp hx)
theorem Bas.ne(b:Bas rk kd ok a0 st){i j:Nat}(hij:i<j)(hj:j<(arrOf st).size):Af rk (arrOf st) i≠Af rk (arrOf st) j:=by
 have nd:((arrOf st).toList.map rk).Nodup:=((Array.perm_iff_toList_perm.mp b.perm).map rk).nodup_iff.mpr b.dist
 rw[Cz (show i<(arrOf st).size by omega),Cz hj]
 have:=List.pairwise_iff_getElem.mp nd i j (by simp;omega) (by simp;omega) hij
 simpa using this
theorem Ct{i j:Nat}{Q:Option Bool→SortSt→Prop}(ask:E4 P w A E s kd ok rk)(b:Bas rk kd ok a0 st)(hi:i<a0.size)(hj:j<a0.size)(q:Q (some (decide (Af rk (arrOf st) i<Af rk (arrOf st) j))) st):wpS (model P w) A E s (ltAt' i j) Q st:=by
 have e:=b.size
 rw[ltAt'_eq]
 refine wpS_bind (wpS_get ?_)
 refine wpS_bind (Ac (by omega) (wpS_bind (Ac (by omega) ?_)))
 exact ask _ _ _ _ b.kind (Bc (by omega) b.oks) (Bc (by omega) b.oks) q
structure Ahead(lo:Nat)(st st':SortSt):Prop where
 at_:∀i,i<lo→(arrOf st')[i]? = (arrOf st)[i]?
 pend:pendingOf st'=pendingOf st
theorem Ahead.refl{lo:Nat}{st:SortSt}:Ahead lo st st:=⟨fun _ _=>rfl,rfl⟩
theorem Ahead.trans{lo:Nat}{st st' st'':SortSt}(h:Ahead lo st st')(g:Ahead lo st' st''):Ahead lo st st'':=⟨fun i hi=>(g.at_ i hi).trans (h.at_ i hi),g.pend.trans h.pend⟩
theorem Bm{a b:Array Keyed}{i j:Nat}(h:a[i]? = b[j]?):Af rk a i=Af rk b j:=by
 unfold Af
 rw[Array.getD_eq_getD_getElem?,Array.getD_eq_getD_getElem?,h]
theorem Lw{arr:Array Keyed}{lo n:Nat}(u:UpSeg rk arr lo (lo+n))(hn:1≤n)(h:Af rk arr (lo+n-1)≤Af rk arr (lo+n)):UpSeg rk arr lo (lo+n+1):=fun i j h1 h2 h3=>by
 by_cases z:j<lo+n
 ·exact u i j h1 h2 z
 ·by_cases y:i=j
  ·subst y;exact Int.le_refl _
  ·have e:j=lo+n:=by omega
   subst e
   have:=u i (lo+n-1) h1 (by omega) (by omega)
   omega
theorem Qz{M:Model}{i j:Nat}{Q:Unit→SortSt→Prop}(h:Q () (setArr st (mirror (arrOf st) i j ((j-i) / 2)))):wpS M A E s (reverseSlice' i j) Q st:=by
 rw[reverseSlice'_eq];exact wpS_modify h
theorem Bas.arr(b:Bas rk kd ok a0 st){xs:Array Keyed}(h:xs.Perm (arrOf st)):Bas rk kd ok a0 (setArr st xs):=⟨b.kind,h.trans b.perm,b.fail,b.okA,b.dist⟩
theorem Iq{lo nrem:Nat}{Q:Option Nat→SortSt→Prop}(ask:E4 P w A E s kd ok rk)(b:Bas rk kd ok a0 st)(h1:1≤nrem)(hs:lo+nrem≤a0.size)(q:∀n st',Bas rk kd ok a0 st'→Ahead lo st st'→1≤n→n≤nrem→UpSeg rk (arrOf st') lo (lo+n)→Q (some n) st'):wpS (model P w) A E s (He lo nrem) Q st:=by
 delta He
 refine wpS_bind (wpS_mono (wpS_forRange (I:=fun i c st'=>st=st'∧∃n,c=(none,n)∧n=i∧n≤nrem∧UpSeg rk (arrOf st) lo (lo+n)) (Q:=fun c st'=>st=st'∧∃n,c=(none,n)∧1≤n∧n≤nrem∧UpSeg rk (arrOf st) lo (lo+n)∧(n<nrem→Af rk (arrOf st) (lo+n)<Af rk (arrOf st) (lo+n-1))) ?s1 ?f1 ⟨rfl,1,rfl,rfl,h1,fun i j a1 a2 a3=>by rw[show i=j by omega];exact Int.le_refl _⟩) ?p1)
 case f1=>
  rintro c st' ⟨rfl,n,rfl,hn,h2,u⟩
  exact⟨rfl,n,rfl,by omega,h2,u,fun z=>by omega⟩
 case s1=>
  rintro i c st' hi1 hi2 ⟨rfl,n,rfl,rfl,h2,u⟩
  dsimp only
  refine wpS_bind (Ct ask b (by omega) (by omega) ?_)
  dsimp only
  by_cases z:Af rk (arrOf st) (lo+n)<Af rk (arrOf st) (lo+n-1)
  ·rw[decide_eq_true z,if_pos rfl]
   exact wpS_pure ⟨rfl,n,rfl,hi1,h2,u,fun _=>z⟩
  ·rw[decide_eq_false z,if_neg (by decide)]
   exact wpS_pure ⟨rfl,n+1,rfl,rfl,by omega,Lw u hi1 (by omega)⟩
 case p1=>
  rintro c st' ⟨rfl,n,rfl,n1,n2,u,last⟩
  dsimp only
  refine Ab (fun z=>wpS_pure (q n st b .refl n1 n2 u)) fun z=>?_
  have z:¬n=nrem:=by simpa using z
  have bs:=b.size
  refine Ab (fun g=>?_) fun g=>?_
  ·refine wpS_bind (Ct ask b (by omega) (by omega) ?_)
   dsimp only
   have e1:=u lo (lo+n-1) (Nat.le_refl _) (by omega) (by omega)
   have e2:=b.ne (i:=lo) (j:=lo+n-1) (by omega) (by omega)
   rw[decide_eq_true (show Af rk (arrOf st) lo<Af rk (arrOf st) (lo+n-1) by omega),if_pos rfl]
   exact wpS_pure (q n st b .refl n1 n2 u)
  ·obtain rfl:n=1:=by omega
   refine wpS_bind (wpS_lift (wpAny_rule ⟨rfl,?_⟩))
   have l0:=last (by omega)
   refine wpS_bind (wpS_mono (wpS_forRange (I:=fun i c st'=>st=st'∧∃m,c=(none,m,0)∧m=i∧m≤nrem∧∀i j,lo≤i→i≤j→j<lo+m→Af rk (arrOf st) j≤Af rk (arrOf st) i) (Q:=fun c st'=>st=st'∧∃m,c=(none,m,0)∧2≤m∧m≤nrem∧∀i j,lo≤i→i≤j→j<lo+m→Af rk (arrOf st) j≤Af rk (arrOf st) i) ?s2 ?f2 ⟨rfl,1+1,rfl,rfl,by omega,?d0⟩) ?p2)
   case d0=>
    intro i j a1 a2 a3
    by_cases y:i=j
    ·subst y;exact Int.le_refl _
    ·rw[show i=lo by omega,show j=lo+1 by omega]
     rw[show lo+1-1=lo by omega] at l0
     omega
   case f2=>
    rintro c st' ⟨rfl,m,rfl,hm,h2,dn⟩
    exact⟨rfl,m,rfl,by omega,h2,dn⟩
   case s2=>
    rintro i c st' hi1 hi2 ⟨rfl,m,rfl,rfl,h2,dn⟩
    dsimp only
    refine wpS_bind (Ct ask b (by omega) (by omega) ?_)
    dsimp only
    by_cases y:Af rk (arrOf st) (lo+m)<Af rk (arrOf st) (lo+m-1)
    ·rw[decide_eq_true y,if_pos rfl,if_neg (by decide)]
     refine wpS_pure ⟨rfl,m+1,rfl,rfl,by omega,fun i j a1 a2 a3=>?_⟩
     by_cases x:j<lo+m
     ·exact dn i j a1 a2 x
     ·by_cases x2:i=j
      ·subst x2;exact Int.le_refl _
      ·have:=dn i (lo+m-1) a1 (by omega) (by omega)
       rw[show j=lo+m by omega];omega
    ·rw[decide_eq_false y,if_neg (by decide)]
     refine wpS_bind (Ct ask b (by omega) (by omega) ?_)
     dsimp only
     have e2:=b.ne (i:=lo+m-1) (j:=lo+m) (by omega) (by omega)
     rw[decide_eq_true (show Af rk (arrOf st) (lo+m-1)<Af rk (arrOf st) (lo+m) by omega),if_pos rfl]
     exact wpS_pure ⟨rfl,m,rfl,hi1,h2,dn⟩
   case p2=>
    rintro c st' ⟨rfl,m,rfl,m1,m2,dn⟩
    dsimp only
    rw[if_neg (by decide)]
    refine wpS_bind (Qz ?_)
    have b2:=b.arr (mirror_perm (arrOf st) lo (lo+m) ((lo+m-lo) / 2))
    have gt:∀k,(mirror (arrOf st) lo (lo+m) ((lo+m-lo) / 2))[k]? = if lo≤k∧k<lo+m then (arrOf st)[lo+(lo+m)-1-k]? else (arrOf st)[k]?:=getElem?_mirror_all (by omega)
    have a2:Ahead lo st (setArr st (mirror (arrOf st) lo (lo+m) ((lo+m-lo) / 2))):=⟨fun i hi=>by show(mirror _ _ _ _)[i]? = _;rw[gt i,if_neg (by omega)],rfl⟩
    have u2:UpSeg rk (mirror (arrOf st) lo (lo+m) ((lo+m-lo) / 2)) lo (lo+m):=fun i j a1 a2 a3=>by
     have gi:=gt i
     have gj:=gt j
     rw[if_pos (by omega)] at gi gj
     rw[Bm gi,Bm gj]
     exact dn _ _ (by omega) (by omega) (by omega)
    have s2:arrOf (setArr st (mirror (arrOf st) lo (lo+m) ((lo+m-lo) / 2)))=mirror (arrOf st) lo (lo+m) ((lo+m-lo) / 2):=rfl
    rw[←s2] at u2
    generalize setArr st (mirror (arrOf st) lo (lo+m) ((lo+m-lo) / 2))=st2 at *
    refine wpS_bind (wpS_mono (wpS_forRange (I:=fun i c st'=>st2=st'∧∃n,c=(none,n)∧n=i∧n≤nrem∧UpSeg rk (arrOf st2) lo (lo+n)) (Q:=fun c st'=>st2=st'∧∃n,c=(none,n)∧1≤n∧n≤nrem∧UpSeg rk (arrOf st2) lo (lo+n)) ?s3 ?f3 ⟨rfl,m,rfl,rfl,m2,u2⟩) ?p3)
    case f3=>
     rintro c st' ⟨rfl,n,rfl,hn,h2,u⟩
     exact⟨rfl,n,rfl,by omega,h2,u⟩
    case s3=>
     rintro i c st' hi1 hi2 ⟨rfl,n,rfl,rfl,h2,u⟩
     dsimp only
     refine wpS_bind (Ct ask b2 (by omega) (by omega) ?_)
     dsimp only
     by_cases z:Af rk (arrOf st2) (lo+n)<Af rk (arrOf st2) (lo+n-1)
     ·rw[decide_eq_true z,if_pos rfl]
      exact wpS_pure ⟨rfl,n,rfl,by omega,h2,u⟩
     ·rw[decide_eq_false z,if_neg (by decide)]
      exact wpS_pure ⟨rfl,n+1,rfl,rfl,by omega,Lw u (by omega) (by omega)⟩
    case p3=>
     rintro c st' ⟨rfl,n,rfl,h1,h2,u⟩
     exact wpS_pure (q n st2 b2 a2 h1 h2 u)
theorem Py{M:Model}{i j:Nat}{Q:Unit→SortSt→Prop}(h:Q () (setArr st (bubble (arrOf st) i (i-j)))):wpS M A E s (moveDown' i j) Q st:=by
 rw[moveDown'_eq];exact wpS_modify h
theorem F6{lo n g:Nat}{Q:Bool→SortSt→Prop}(ask:E4 P w A E s kd ok rk)(b:Bas rk kd ok a0 st)(hg:1≤g)(hgn:g≤n)(hs:lo+n≤a0.size)(u:UpSeg rk (arrOf st) lo (lo+g))(q:∀st',Bas rk kd ok a0 st'→Ahead lo st st'→UpSeg rk (arrOf st') lo (lo+n)→Q true st'):wpS (model P w) A E s (E2 lo n g) Q st:=by
 delta E2
 refine wpS_bind (wpS_mono (wpS_forRange (I:=fun k c st'=>Bas rk kd ok a0 st'∧Ahead lo st st'∧c=(none,())∧UpSeg rk (arrOf st') lo (lo+k)) (Q:=fun c st'=>Bas rk kd ok a0 st'∧Ahead lo st st'∧c=(none,())∧UpSeg rk (arrOf st') lo (lo+n)) ?s1 ?f1 ⟨b,.refl,rfl,by rw[Nat.max_eq_left hg];exact u⟩) ?p1)
 case f1=>
  rintro c st' ⟨b1,a1,rfl,u1⟩
  refine⟨b1,a1,rfl,?_⟩
  rw[show max (max g 1) n=n by omega] at u1
  exact u1
 case p1=>
  rintro c st' ⟨b1,a1,rfl,u1⟩
  exact wpS_pure (q st' b1 a1 u1)
 case s1=>
  rintro k c st1 hk1 hk2 ⟨b1,a1,rfl,u1⟩
  have bs:=b1.size
  dsimp only
  refine wpS_bind (wpS_mono (wpS_forRange (I:=fun i c st'=>st1=st'∧∃l r,c=(none,l,r)∧l≤r∧r≤k∧r-l≤k-i∧(∀j,j<l→Af rk (arrOf st1) (lo+j)≤Af rk (arrOf st1) (lo+k))∧∀j,r≤j→j<k→Af rk (arrOf st1) (lo+k)<Af rk (arrOf st1) (lo+j)) (Q:=fun c st'=>st1=st'∧∃l,c=(none,l,l)∧l≤k∧(∀j,j<l→Af rk (arrOf st1) (lo+j)≤Af rk (arrOf st1) (lo+k))∧∀j,l≤j→j<k→Af rk (arrOf st1) (lo+k)<Af rk (arrOf st1) (lo+j)) ?s2 ?f2 ⟨rfl,0,k,rfl,by omega,by omega,by omega,fun j hj=>absurd hj (by omega),fun j h1 h2=>absurd h1 (by omega)⟩) ?p2)
  case f2=>
   rintro c st' ⟨rfl,l,r,rfl,h1,h2,h3,h4,h5⟩
   have:max 0 k=k:=Nat.max_eq_right (Nat.zero_le _)
   obtain rfl:l=r:=by omega
   exact⟨rfl,l,rfl,h2,h4,h5⟩
  case s2=>
   rintro i c st' _ hi ⟨rfl,l,r,rfl,h1,h2,h3,h4,h5⟩
   dsimp only
   refine Ab (fun z=>?_) fun z=>?_
   ·obtain rfl:l=r:=by omega
    exact wpS_pure ⟨rfl,l,rfl,h2,h4,h5⟩
   ·refine wpS_bind (Ct ask b1 (by omega) (by omega) ?_)
    dsimp only
    by_cases y:Af rk (arrOf st1) (lo+k)<Af rk (arrOf st1) (lo+(l+r) / 2)
    ·rw[decide_eq_true y,if_pos rfl]
     exact wpS_pure ⟨rfl,l,_,rfl,by omega,by omega,by omega,h4,fun j j1 j2=>by
      have:=u1 (lo+(l+r) / 2) (lo+j) (by omega) (by omega) (by omega);omega⟩
    ·rw[decide_eq_false y,if_neg (by decide)]
     exact wpS_pure ⟨rfl,_,r,rfl,by omega,h2,by omega,fun j j1=>by
      have:=u1 (lo+j) (lo+(l+r) / 2) (by omega) (by omega) (by omega);omega,h5⟩
  case p2=>
   rintro c st' ⟨rfl,l,rfl,h2,h4,h5⟩
   dsimp only
   refine wpS_bind (Py ?_)
   have gt:∀x,(bubble (arrOf st1) (lo+k) (lo+k-(lo+l)))[x]? = if x=lo+k-(lo+k-(lo+l)) then (arrOf st1)[lo+k]? else if lo+k-(lo+k-(lo+l))<x∧x≤lo+k then (arrOf st1)[x-1]? else (arrOf st1)[x]?:=getElem?_bubble (by omega) _ (by omega)
   refine wpS_pure ⟨b1.arr (bubble_perm _ _ _),a1.trans ⟨fun i hi=>by show(bubble _ _ _)[i]? = _;rw[gt i,if_neg (by omega),if_neg (by omega)],rfl⟩,rfl,fun i j i1 i2 i3=>?_⟩
   show Af rk (bubble (arrOf st1) (lo+k) (lo+k-(lo+l))) i≤Af rk (bubble (arrOf st1) (lo+k) (lo+k-(lo+l))) j
   have gi:=gt i
   have gj:=gt j
   by_cases x1:i=lo+l
   ·rw[if_pos (by omega)] at gi
    rw[Bm gi]
    by_cases x2:j=lo+l
    ·rw[if_pos (by omega)] at gj;rw[Bm gj];exact Int.le_refl _
    ·rw[if_neg (by omega),if_pos (by omega)] at gj
     rw[Bm gj]
     have:=h5 (j-1-lo) (by omega) (by omega)
     rw[show lo+(j-1-lo)=j-1 by omega] at this
     omega
   ·by_cases x2:j=lo+l
    ·rw[if_pos (by omega)] at gj
     rw[if_neg (by omega),if_neg (by omega)] at gi
     rw[Bm gi,Bm gj]
     have:=h4 (i-lo) (by omega)
     rw[show lo+(i-lo)=i by omega] at this
     exact this
    ·by_cases x3:i<lo+l
     ·rw[if_neg (by omega),if_neg (by omega)] at gi
      rw[Bm gi]
      by_cases x4:j<lo+l
      ·rw[if_neg (by omega),if_neg (by omega)] at gj
       rw[Bm gj];exact u1 i j i1 i2 (by omega)
      ·rw[if_neg (by omega),if_pos (by omega)] at gj
       rw[Bm gj];exact u1 i (j-1) i1 (by omega) (by omega)
     ·rw[if_neg (by omega),if_pos (by omega)] at gi
      rw[if_neg (by omega),if_pos (by omega)] at gj
      rw[Bm gi,Bm gj]
      exact u1 (i-1) (j-1) (by omega) (by omega) (by omega)
end
end D3
set_option maxRecDepth 100000
set_option maxHeartbeats 1000000
namespace D3
open PySem PySem.Spec
open PyProof.Rows
section
variable{P:Program}{w:World}{A:Around}{E:Value→Shared→Prop}{s:Shared}{kd:SortKind}{ok:Keyed→Prop}{rk:Keyed→Int}{a0:Array Keyed}{st:SortSt}
theorem Qr{M:Model}{x:SortSt}{Q:PUnit→SortSt→Prop}(h:Q ⟨⟩ x):wpS M A E s (set x:StateT SortSt Sem PUnit) Q st:=by
 unfold wpS;rw[StateT.run_set];exact wpAny_pure ⟨rfl,h⟩
theorem Lz{α:Type}{base:Nat}:∀{m:List α} {k:Nat} {arr:Array α} {x:Nat},((m.zipIdx k).foldl (fun a y=>a.setIfInBounds (base+y.2) y.1) arr)[x]? = if base+k≤x∧x<base+k+m.length∧x<arr.size then m[x-base-k]? else arr[x]?
 |[],k,arr,x=>by
  rw[if_neg (by simp only[List.length_nil];omega)];rfl
 |p::r,k,arr,x=>by
  rw[List.zipIdx_cons,List.foldl_cons,Lz (m:=r) (k:=k+1)]
  rw[Array.size_setIfInBounds,Array.getElem?_setIfInBounds,List.length_cons]
  by_cases z:base+(k+1)≤x∧x<base+(k+1)+r.length∧x<arr.size
  ·rw[if_pos z,if_pos (by omega),show x-base-k=(x-base-(k+1))+1 by omega];rfl
  ·rw[if_neg z]
   by_cases y:base+k=x
   ·rw[if_pos y]
    by_cases v:x<arr.size
    ·rw[if_pos (by omega),if_pos (by omega),show x-base-k=0 by omega];rfl
    ·rw[if_neg (by omega),if_neg (by omega),Array.getElem?_eq_none (by omega)]
   ·rw[if_neg y,if_neg (by omega)]
def Ex(base:Nat)(m:Array Keyed)(arr:Array Keyed):Array Keyed:=m.toList.zipIdx.foldl (fun a y=>a.setIfInBounds (base+y.2) y.1) arr
theorem Go{base:Nat}{m arr:Array Keyed}(h:base+m.size≤arr.size)(x:Nat):(Ex base m arr)[x]? = if base≤x∧x<base+m.size then m[x-base]? else arr[x]?:=by
 unfold Ex
 rw[Lz,Array.length_toList,Nat.add_zero,Nat.sub_zero]
 by_cases z:base≤x∧x<base+m.size
 ·rw[if_pos (by omega),if_pos z,Array.getElem?_toList]
 ·rw[if_neg (by omega),if_neg z]
theorem K6{base:Nat}{m arr:Array Keyed}(h:base+m.size≤arr.size):(Ex base m arr).toList=arr.toList.take base++m.toList++arr.toList.drop (base+m.size):=by
 apply List.ext_getElem?
 intro x
 rw[Array.getElem?_toList,Go h,List.append_assoc]
 by_cases z1:x<base
 ·rw[if_neg (by omega),List.getElem?_append_left (by simp;omega),List.getElem?_take_of_lt z1,Array.getElem?_toList]
 ·rw[List.getElem?_append_right (by simp;omega),List.length_take,Array.length_toList,Nat.min_eq_left (by omega)]
  by_cases z2:x<base+m.size
  ·rw[if_pos (by omega),List.getElem?_append_left (by simp;omega),Array.getElem?_toList]
  ·rw[if_neg (by omega),List.getElem?_append_right (by simp;omega),List.getElem?_drop,Array.length_toList,Array.getElem?_toList]
   congr 1;omega
theorem Ry{L:List Keyed}{i j k:Nat}:L.take i++((L.drop i).take j++(L.drop (i+j)).take k)++L.drop (i+(j+k))=L:=by
 have e1:(L.drop (i+j)).take k++L.drop (i+(j+k))=L.drop (i+j):=by
  rw[show L.drop (i+(j+k))=(L.drop (i+j)).drop k by rw[List.drop_drop];congr 1;omega,List.take_append_drop]
 rw[List.append_assoc,List.append_assoc,e1,show L.drop (i+j)=(L.drop i).drop j by rw[List.drop_drop],List.take_append_drop,List.take_append_drop]
theorem Bn{a:Array Keyed}{i j x:Nat}(hj:j≤a.size)(hx:i+x<j):Af rk (a.extract i j) x=Af rk a (i+x):=by
 apply Bm
 rw[Array.getElem?_extract,if_pos (by omega)]
theorem Ef{a:Array Keyed}{i j:Nat}(hj:j≤a.size):(a.extract i j).size=j-i:=by
 rw[Array.size_extract];omega
theorem Gm{a:Array Keyed}(h:∀i j,i≤j→j<a.size→Af rk a i≤Af rk a j):Up rk a.toList:=by
 refine List.pairwise_iff_getElem.mpr fun i j hi hj hij=>?_
 have hj':j<a.size:=by simpa using hj
 have:=h i j (by omega) hj'
 rw[Cz (by omega),Cz hj'] at this
 exact this
theorem Ev{a:Array Keyed}{x:Keyed}(h:x∈a.toList):∃i,i<a.size∧rk x=Af rk a i:=by
 obtain⟨i,hi,e⟩:=List.getElem_of_mem h
 have hi':i<a.size:=by simpa using hi
 exact⟨i,hi',by rw[Cz hi',e]⟩
theorem Nf{a:Array Keyed}{i:Nat}(h:i<a.size):a.getD i (.none,.none)∈a.toList:=by
 rw[Fr h];exact List.getElem_mem _
theorem Gn{arr r:Array Keyed}{sa k na nb n2:Nat}(hs:sa+na+nb≤arr.size)(u1:UpSeg rk arr sa (sa+na))(u2:UpSeg rk arr (sa+na) (sa+na+nb))(hk:k<na)(h2:0<n2)(hn:n2≤nb)(lo1:∀i,i<k→Af rk arr (sa+i)≤Af rk arr (sa+na))(hi2:∀i,n2≤i→i<nb→Af rk arr (sa+na-1)≤Af rk arr (sa+na+i))(md:MdA rk (arr.extract (sa+k) (sa+na)) (arr.extract (sa+na) (sa+na+n2)) r):(Ex (sa+k) r arr).Perm arr∧UpSeg rk (Ex (sa+k) r arr) sa (sa+na+nb)∧∀x,x<sa∨sa+na+nb≤x→(Ex (sa+k) r arr)[x]? = arr[x]?:=by
 have xs:=Ef (a:=arr) (i:=sa+k) (j:=sa+na) (by omega)
 have ys:=Ef (a:=arr) (i:=sa+na) (j:=sa+na+n2) (by omega)
 have rs:r.size=(na-k)+n2:=by
  have:=md.1.length_eq
  rw[List.length_append,Array.length_toList,Array.length_toList,Array.length_toList,xs,ys] at this
  omega
 have hb:sa+k+r.size≤arr.size:=by omega
 have gt:=Go (m:=r) (arr:=arr) hb
 -- where a thing that was merged came from
 have from_:∀x,sa+k≤x→x<sa+na+n2→∃y,Af rk (Ex (sa+k) r arr) x=Af rk arr y∧((sa+k≤y∧y<sa+na)∨(sa+na≤y∧y<sa+na+n2)):=fun x h1 h2=>by
  have g:=gt x
  rw[if_pos (by omega)] at g
  rw[Bm g]
  have hm:=Nf (a:=r) (i:=x-(sa+k)) (by omega)
  rcases List.mem_append.mp (md.1.mem_iff.mp hm) with z|z
  ·obtain⟨i,hi,e⟩:=Ev (rk:=rk) z
   rw[xs] at hi
   rw[Bn (by omega) (by omega)] at e
   exact⟨sa+k+i,e,.inl (by omega)⟩
  ·obtain⟨i,hi,e⟩:=Ev (rk:=rk) z
   rw[ys] at hi
   rw[Bn (by omega) (by omega)] at e
   exact⟨sa+na+i,e,.inr (by omega)⟩
 have same:∀x,x<sa+k∨sa+na+n2≤x→Af rk (Ex (sa+k) r arr) x=Af rk arr x:=fun x h=>by
  have g:=gt x
  rw[if_neg (by omega)] at g
  exact Bm g
 refine⟨?_,fun i j i1 i2 i3=>?_,fun x hx=>by rw[gt x,if_neg (by omega)]⟩
 ·refine Array.perm_iff_toList_perm.mpr ?_
  rw[K6 hb]
  have e:arr.toList.take (sa+k)++((arr.toList.drop (sa+k)).take (na-k)++(arr.toList.drop (sa+k+(na-k))).take n2)++arr.toList.drop (sa+k+((na-k)+n2))=arr.toList:=Ry
  have ex:(arr.extract (sa+k) (sa+na)).toList=(arr.toList.drop (sa+k)).take (na-k):=by
   rw[Array.toList_extract,List.extract_eq_take_drop,show sa+na-(sa+k)=na-k by omega]
  have ey:(arr.extract (sa+na) (sa+na+n2)).toList=(arr.toList.drop (sa+k+(na-k))).take n2:=by
   rw[Jg,show sa+k+(na-k)=sa+na by omega]
  have p:=md.1
  rw[ex,ey] at p
  rw[rs]
  refine((List.Perm.append_left _ p).append_right _).trans ?_
  rw[e]
 ·by_cases a1:i<sa+k
  ·rw[same i (.inl a1)]
   have k1:Af rk arr i≤Af rk arr (sa+na):=by have:=lo1 (i-sa) (by omega);rw[show sa+(i-sa)=i by omega] at this;exact this
   by_cases a2:j<sa+k
   ·rw[same j (.inl a2)];exact u1 i j i1 i2 (by omega)
   ·by_cases a3:j<sa+na+n2
    ·obtain⟨y,e,hy|hy⟩:=from_ j (by omega) a3
     ·rw[e];exact u1 i y i1 (by omega) (by omega)
     ·rw[e];have:=u2 (sa+na) y (Nat.le_refl _) (by omega) (by omega);omega
    ·rw[same j (.inr (by omega))]
     have:=u2 (sa+na) j (Nat.le_refl _) (by omega) (by omega);omega
  ·by_cases a2:i<sa+na+n2
   ·by_cases a3:j<sa+na+n2
    ·have gi:=gt i
     have gj:=gt j
     rw[if_pos (by omega)] at gi gj
     rw[Bm gi,Bm gj]
     exact Mi md.2 (by omega) (by omega)
    ·rw[same j (.inr (by omega))]
     obtain⟨y,e,hy|hy⟩:=from_ i (by omega) a2
     ·rw[e]
      have e1:=u1 y (sa+na-1) (by omega) (by omega) (by omega)
      have e2:=hi2 (j-(sa+na)) (by omega) (by omega)
      rw[show sa+na+(j-(sa+na))=j by omega] at e2
      omega
     ·rw[e];exact u2 y j (by omega) (by omega) (by omega)
   ·rw[same i (.inr (by omega)),same j (.inr (by omega))]
    exact u2 i j (by omega) i2 i3
theorem Op{arr:Array Keyed}{left:Bool}{key:Keyed}{base n:Nat}(u:UpSeg rk arr base (base+n)):∀i j,i≤j→j<n→Cw rk left key arr base j=true→Cw rk left key arr base i=true:=fun i j h1 h2 h3=>by
 have:=u (base+i) (base+j) (by omega) (by omega) (by omega)
 cases left with
 |true=>
  cases z:Cw rk true key arr base i with
  |true=>rfl
  |false=>have e1:=bey_t.1 h3;have e2:=bey_t.2 z;omega
 |false=>
  cases z:Cw rk false key arr base i with
  |true=>rfl
  |false=>have e1:=bey_f.1 h3;have e2:=bey_f.2 z;omega
theorem Ka{i sa na nb pw pw':Nat}{Q:Bool→SortSt→Prop}(ask:E4 P w A E s kd ok rk)(b:Bas rk kd ok a0 st)(h1:(pendingOf st)[i]? = some (sa,na,pw))(h2:(pendingOf st)[i+1]? = some (sa+na,nb,pw'))(hna:0<na)(hnb:0<nb)(hs:sa+na+nb≤a0.size)(u1:UpSeg rk (arrOf st) sa (sa+na))(u2:UpSeg rk (arrOf st) (sa+na) (sa+na+nb))(q:∀st',Bas rk kd ok a0 st'→pendingOf st'=((pendingOf st).setIfInBounds i (sa,na+nb,pw)).eraseIdxIfInBounds (i+1)→UpSeg rk (arrOf st') sa (sa+na+nb)→(∀x,x<sa∨sa+na+nb≤x→(arrOf st')[x]? = (arrOf st)[x]?)→Q true st'):wpS (model P w) A E s (mergeAt' i) Q st:=by
 have bs:=b.size
 have bs2:((sortPriv% PySem.Builtin.SortState.a) st).size=a0.size:=b.size
 have kk:=b.kind
 delta mergeAt'
 refine wpS_bind (wpS_get ?_)
 rw[h1,h2]
 dsimp only
 refine wpS_bind (Qr ?_)
 refine wpS_bind (Ac (by omega) ?_)
 refine wpS_bind (Aq (left:=false) ask kk b.oks (Bc (by omega) b.oks) (by omega) (by omega) (Op u1) fun k sp=>?_)
 have le1:=sp.le
 have lo1:∀i,i<k→Af rk (arrOf st) (sa+i)≤Af rk (arrOf st) (sa+na):=fun i hi=>bey_f.1 (sp.lo i hi)
 dsimp only
 refine Ab (fun z=>?_) fun z=>?_
 ·have z:na-k=0:=by simpa using z
  obtain rfl:k=na:=by omega
  refine wpS_pure (q _ ⟨kk,b.perm,b.fail,b.okA,b.dist⟩ rfl (fun x y x1 x2 x3=>?_) fun x _=>rfl)
  by_cases y1:y<sa+k
  ·exact u1 x y x1 x2 y1
  ·by_cases y2:sa+k≤x
   ·exact u2 x y y2 x2 x3
   ·have e1:=lo1 (x-sa) (by omega)
    rw[show sa+(x-sa)=x by omega] at e1
    have e2:=u2 (sa+k) y (Nat.le_refl _) (by omega) x3
    exact Int.le_trans e1 e2
 have z:¬na-k=0:=by simpa using z
 refine wpS_bind (Ac (by omega) ?_)
 refine wpS_bind (Aq (left:=true) ask kk b.oks (Bc (by omega) b.oks) (by omega) (by omega) (Op u2) fun n2 sp2=>?_)
 have le2:=sp2.le
 have kl:sa+k+(na-k)-1=sa+na-1:=by omega
 have hi2:∀i,n2≤i→i<nb→Af rk (arrOf st) (sa+na-1)≤Af rk (arrOf st) (sa+na+i):=fun i i1 i2=>by
  have:=bey_t.2 (sp2.hi i i1 i2)
  rw[kl] at this
  exact this
 have lo2:∀i,i<n2→Af rk (arrOf st) (sa+na+i)<Af rk (arrOf st) (sa+na-1):=fun i hi=>by
  have:=bey_t.1 (sp2.lo i hi)
  rw[kl] at this
  exact this
 dsimp only
 refine Ab (fun y=>?_) fun y=>?_
 ·have y:n2=0:=by simpa using y
  subst y
  refine wpS_pure (q _ ⟨kk,b.perm,b.fail,b.okA,b.dist⟩ rfl (fun x y x1 x2 x3=>?_) fun x _=>rfl)
  by_cases y1:y<sa+na
  ·exact u1 x y x1 x2 y1
  ·by_cases y2:sa+na≤x
   ·exact u2 x y y2 x2 x3
   ·have e1:=u1 x (sa+na-1) x1 (by omega) (by omega)
    have e2:=hi2 (y-(sa+na)) (by omega) (by omega)
    rw[show sa+na+(y-(sa+na))=y by omega] at e2
    exact Int.le_trans e1 e2
 have y:¬n2=0:=by simpa using y
 have xs:=Ef (a:=arrOf st) (i:=sa+k) (j:=sa+na) (by omega)
 have ys:=Ef (a:=arrOf st) (i:=sa+na) (j:=sa+na+n2) (by omega)
 have x1:1≤((arrOf st).extract (sa+k) (sa+na)).size:=by omega
 have y1:1≤((arrOf st).extract (sa+na) (sa+na+n2)).size:=by omega
 have okX:∀v∈(arrOf st).extract (sa+k) (sa+na),ok v:=fun v hv=>b.oks v (by
  obtain⟨j,h,e⟩:=Array.mem_extract_iff_getElem.mp hv
  rw[←e];exact Array.getElem_mem _)
 have okY:∀v∈(arrOf st).extract (sa+na) (sa+na+n2),ok v:=fun v hv=>b.oks v (by
  obtain⟨j,h,e⟩:=Array.mem_extract_iff_getElem.mp hv
  rw[←e];exact Array.getElem_mem _)
 have upX:Up rk ((arrOf st).extract (sa+k) (sa+na)).toList:=Gm fun i j i1 i2=>by
  rw[xs] at i2
  rw[Bn (by omega) (by omega),Bn (by omega) (by omega)]
  exact u1 _ _ (by omega) (by omega) (by omega)
 have upY:Up rk ((arrOf st).extract (sa+na) (sa+na+n2)).toList:=Gm fun i j i1 i2=>by
  rw[ys] at i2
  rw[Bn (by omega) (by omega),Bn (by omega) (by omega)]
  exact u2 _ _ (by omega) (by omega) (by omega)
 have f0:Af rk ((arrOf st).extract (sa+na) (sa+na+n2)) 0≤Af rk ((arrOf st).extract (sa+k) (sa+na)) 0:=by
  rw[Bn (by omega) (by omega),Bn (by omega) (by omega)]
  have:=bey_f.2 (sp.hi k (Nat.le_refl _) (by omega))
  exact Int.le_of_lt this
 have fl:∀i,i<n2→Af rk (arrOf st) (sa+na+i)≤Af rk ((arrOf st).extract (sa+k) (sa+na)) (((arrOf st).extract (sa+k) (sa+na)).size-1):=fun i hi=>by
  rw[xs,Bn (by omega) (by omega),show sa+k+(sa+na-(sa+k)-1)=sa+na-1 by omega]
  exact Int.le_of_lt (lo2 i hi)
 refine Ab (fun _=>?_) fun _=>?_
 ·refine wpS_bind (J8 ask kk okX okY upX upY x1 y1 f0 (fun v hv=>?_) fun r st2 md lk=>?_)
  ·obtain⟨i,hi,e⟩:=Ev (rk:=rk) hv
   rw[ys] at hi
   rw[Bn (by omega) (by omega)] at e
   rw[e];exact fl i (by omega)
  ·have sm:=Gn (by omega) u1 u2 (by omega) (by omega) le2 lo1 hi2 md
   refine wpS_bind (wpS_modify (wpS_bind (wpS_get ?_)))
   have la:arrOf st2=arrOf st:=lk.arr
   have lf:failedOf st2=none:=lk.failed.trans b.fail
   have e:(failedOf st2).isNone=true:=by rw[lf];rfl
   refine wpS_pure ?_
   show Q (failedOf st2).isNone _
   rw[e]
   have la':(sortPriv% PySem.Builtin.SortState.a) st2=arrOf st:=la
   simp only[la']
   exact q _ ⟨lk.kind.trans kk,sm.1.trans b.perm,lf,b.okA,b.dist⟩ lk.pend sm.2.1 sm.2.2
 ·refine wpS_bind (J9 ask kk okX okY upX upY x1 y1 f0 ?_ fun r st2 md lk=>?_)
  ·rw[ys,Bn (by omega) (by omega)]
   exact fl _ (by omega)
  ·have sm:=Gn (by omega) u1 u2 (by omega) (by omega) le2 lo1 hi2 md
   refine wpS_bind (wpS_modify (wpS_bind (wpS_get ?_)))
   have la:arrOf st2=arrOf st:=lk.arr
   have lf:failedOf st2=none:=lk.failed.trans b.fail
   have e:(failedOf st2).isNone=true:=by rw[lf];rfl
   refine wpS_pure ?_
   show Q (failedOf st2).isNone _
   rw[e]
   have la':(sortPriv% PySem.Builtin.SortState.a) st2=arrOf st:=la
   simp only[la']
   exact q _ ⟨lk.kind.trans kk,sm.1.trans b.perm,lf,b.okA,b.dist⟩ lk.pend sm.2.1 sm.2.2
end
end D3
set_option maxRecDepth 100000
set_option maxHeartbeats 1000000
namespace D3
open PySem PySem.Spec
open PyProof.Rows
section
variable{P:Program}{w:World}{A:Around}{E:Value→Shared→Prop}{s:Shared}{kd:SortKind}{ok:Keyed→Prop}{rk:Keyed→Int}{a0:Array Keyed}{st:SortSt}
def RunsTo(rk:Keyed→Int)(arr:Array Keyed):Nat→List (Nat×Nat×Nat)→Nat→Prop
 |x,[],y=>x=y
 |x,(a,n,_)::r,y=>a=x∧0<n∧UpSeg rk arr x (x+n)∧RunsTo rk arr (x+n) r y
theorem RunsTo.le{arr:Array Keyed}:∀{l:List (Nat×Nat×Nat)} {x y:Nat},RunsTo rk arr x l y→x+l.length≤y
 |[],x,y,h=>by have h:x=y:=h;simp;omega
 |(a,n,_)::r,x,y,⟨_,h1,_,h⟩=>by have:=RunsTo.le h;rw[List.length_cons];omega
theorem RunsTo.app{arr:Array Keyed}:∀{l r:List (Nat×Nat×Nat)} {x y:Nat},RunsTo rk arr x (l++r) y→∃z,RunsTo rk arr x l z∧RunsTo rk arr z r y
 |[],r,x,y,h=>⟨x,rfl,h⟩
 |(a,n,p)::l,r,x,y,⟨h1,h2,h3,h⟩=>by
  obtain⟨z,g1,g2⟩:=RunsTo.app h
  exact⟨z,⟨h1,h2,h3,g1⟩,g2⟩
theorem RunsTo.join{arr:Array Keyed}:∀{l r:List (Nat×Nat×Nat)} {x y z:Nat},RunsTo rk arr x l z→RunsTo rk arr z r y→RunsTo rk arr x (l++r) y
 |[],r,x,y,z,h,g=>by have h:x=z:=h;subst h;exact g
 |(a,n,p)::l,r,x,y,z,⟨h1,h2,h3,h⟩,g=>⟨h1,h2,h3,RunsTo.join h g⟩
theorem UpSeg.same{arr arr':Array Keyed}{lo hi:Nat}(u:UpSeg rk arr lo hi)(h:∀i,lo≤i→i<hi→arr'[i]? = arr[i]?):UpSeg rk arr' lo hi:=fun i j h1 h2 h3=>by
 rw[Bm (h i h1 (by omega)),Bm (h j (by omega) h3)];exact u i j h1 h2 h3
theorem RunsTo.same{arr arr':Array Keyed}:∀{l:List (Nat×Nat×Nat)} {x y:Nat},RunsTo rk arr x l y→(∀i,x≤i→i<y→arr'[i]? = arr[i]?)→RunsTo rk arr' x l y
 |[],x,y,h,_=>h
 |(a,n,p)::l,x,y,⟨h1,h2,h3,h⟩,e=>by
  have:=h.le
  exact⟨h1,h2,h3.same fun i i1 i2=>e i i1 (by omega),h.same fun i i1 i2=>e i (by omega) i2⟩
theorem O7{l:List (Nat×Nat×Nat)}{i:Nat}(h:i+1<l.length):∃l1 u v l2,l=l1++u::v::l2∧l1.length=i:=by
 refine⟨l.take i,l[i],l[i+1],l.drop (i+2),?_,by rw[List.length_take];omega⟩
 rw[←List.drop_eq_getElem_cons,←List.drop_eq_getElem_cons,List.take_append_drop]
theorem Fx{i hi:Nat}{Q:Bool→SortSt→Prop}(ask:E4 P w A E s kd ok rk)(b:Bas rk kd ok a0 st)(r:RunsTo rk (arrOf st) 0 (pendingOf st).toList hi)(hs:hi≤a0.size)(h:i+1<(pendingOf st).size)(q:∀st',Bas rk kd ok a0 st'→RunsTo rk (arrOf st') 0 (pendingOf st').toList hi→(∀x,hi≤x→(arrOf st')[x]? = (arrOf st)[x]?)→(pendingOf st').size+1=(pendingOf st).size→Q true st'):wpS (model P w) A E s (mergeAt' i) Q st:=by
 obtain⟨l1,⟨sa,na,pw⟩,⟨sb,nb,pw'⟩,l2,e,el⟩:=O7 (l:=(pendingOf st).toList) (i:=i) (by simpa using h)
 rw[e] at r
 obtain⟨z,r1,⟨rfl,hna,u1,⟨rfl,hnb,u2,r2⟩⟩⟩:=r.app
 have le2:=r2.le
 have le1:=r1.le
 refine Ka ask b (sa:=sa) (na:=na) (nb:=nb) (pw:=pw) (pw':=pw') ?_ ?_ hna hnb (by omega) u1 u2 fun st' b' ep u' same=>?_
 ·rw[←Array.getElem?_toList,e,List.getElem?_append_right (by omega),el,Nat.sub_self];rfl
 ·rw[←Array.getElem?_toList,e,List.getElem?_append_right (by omega),el,show i+1-i=1 by omega];rfl
 ·have el':(pendingOf st').toList=l1++(sa,na+nb,pw)::l2:=by
   rw[ep,Array.eraseIdxIfInBounds,dif_pos (by rw[Array.size_setIfInBounds];exact h),Array.toList_eraseIdx,Array.toList_setIfInBounds,e,←el]
   rw[List.set_append_right _ _ (Nat.le_refl _),Nat.sub_self,List.set_cons_zero]
   rw[List.eraseIdx_append_of_length_le (by omega),show l1.length+1-l1.length=1 by omega];rfl
  refine q st' b' ?_ (fun x hx=>same x (.inr (by omega))) ?_
  ·rw[el']
   refine RunsTo.join (r1.same fun x x1 x2=>same x (.inl x2)) ⟨rfl,by omega,?_,?_⟩
   ·rw[←Nat.add_assoc];exact u'
   ·rw[←Nat.add_assoc];exact r2.same fun x x1 x2=>same x (.inr x1)
  ·have e1:=congrArg List.length el'
   have e2:=congrArg List.length e
   rw[Array.length_toList,List.length_append,List.length_cons] at e1
   rw[Array.length_toList,List.length_append,List.length_cons,List.length_cons] at e2
   omega
theorem RunsTo.power{arr:Array Keyed}{pw:Nat}:∀{l:List (Nat×Nat×Nat)} {x y i:Nat},RunsTo rk arr x l y→RunsTo rk arr x (l.modify i fun u=>(u.1,u.2.1,pw)) y
 |[],x,y,i,h=>by cases i<;>exact h
 |(a,n,p)::l,x,y,0,h=>h
 |(a,n,p)::l,x,y,i+1,⟨h1,h2,h3,h⟩=>⟨h1,h2,h3,RunsTo.power h⟩
theorem Bas.pending{p:Array (Nat×Nat×Nat)}(b:Bas rk kd ok a0 st):Bas rk kd ok a0 (setPending st p):=⟨b.kind,b.perm,b.fail,b.okA,b.dist⟩
theorem Ig{Q:Unit→SortSt→Prop}(ask:E4 P w A E s kd ok rk)(b:Bas rk kd ok a0 st)(h2:2≤a0.size)(hp:pendingOf st=#[])(q:∀st',Bas rk kd ok a0 st'→UpSeg rk (arrOf st') 0 a0.size→Q () st'):wpS (model P w) A E s sortRuns' Q st:=by
 have bs:=b.size
 rw[sortRuns'_eq]
 refine wpS_bind (wpS_get ?_)
 dsimp only
 rw[bs]
 generalize minRun' a0.size a0.size 0=mr
 refine wpS_bind (wpS_mono (wpS_forRange (I:=fun i c st'=>Bas rk kd ok a0 st'∧∃lo,c=(none,lo)∧i≤lo∧lo≤a0.size∧RunsTo rk (arrOf st') 0 (pendingOf st').toList lo) (Q:=fun c st'=>Bas rk kd ok a0 st'∧c=(none,a0.size)∧RunsTo rk (arrOf st') 0 (pendingOf st').toList a0.size) ?s1 ?f1 ⟨b,0,rfl,Nat.le_refl _,Nat.zero_le _,by rw[hp];rfl⟩) ?p1)
 case f1=>
  rintro c st' ⟨b',lo,rfl,h1,h2,r⟩
  have:max 0 a0.size=a0.size:=Nat.max_eq_right (Nat.zero_le _)
  obtain rfl:lo=a0.size:=by omega
  exact⟨b',rfl,r⟩
 case s1=>
  rintro i c st1 _ hi ⟨b1,lo,rfl,h1,h3,r⟩
  dsimp only
  refine Ab (fun z=>?_) fun z=>?_
  ·obtain rfl:lo=a0.size:=by omega
   exact wpS_pure ⟨b1,rfl,r⟩
  ·refine wpS_bind (Iq ask b1 (by omega) (by omega) fun n st2 b2 ah n1 n2 u=>?_)
   have r2:RunsTo rk (arrOf st2) 0 (pendingOf st2).toList lo:=by rw[ah.pend];exact r.same fun x _ x2=>ah.at_ x x2
   dsimp only
   refine Ab (fun z1=>wpS_bind (wpS_lift (wpAny_rule ⟨rfl,wpS_bind (F6 ask b2 n1 (n:=min (a0.size-lo) mr) (by omega) (by omega) u fun st3 b3 ah3 u3=>?g1)⟩))) (fun z1=>?g2)
   case' g1=>
    rw[if_neg (by decide)]
    have r3:RunsTo rk (arrOf st3) 0 (pendingOf st3).toList lo:=by rw[ah3.pend];exact r2.same fun x _ x2=>ah3.at_ x x2
    obtain⟨m,hm⟩:∃m,min (a0.size-lo) mr=m:=⟨_,rfl⟩
    rw[hm] at u3 ⊢
    have m1:1≤m:=by omega
    have m2:lo+m≤a0.size:=by omega
   case' g2=>
    obtain⟨m,hm⟩:∃m,n=m:=⟨_,rfl⟩
    rw[hm] at n1 n2 u ⊢
    have m2:lo+m≤a0.size:=by omega
    have b3:=b2;have r3:=r2;have m1:=n1;have u3:=u
   all_goals
    refine wpS_bind (wpS_get ?_)
    have last:∀(arr:Array Keyed) (p:Array (Nat×Nat×Nat)),RunsTo rk arr 0 p.toList lo→UpSeg rk arr lo (lo+m)→RunsTo rk arr 0 (p.push (lo,m,0)).toList (lo+m):=fun arr p r4 u4=>by
      rw[Array.toList_push];exact r4.join ⟨rfl,by omega,u4,rfl⟩
    split
    ·rename_i s1 n1' p1 hb
     refine wpS_bind (wpS_mono (wpS_forRange (I:=fun j c st'=>Bas rk kd ok a0 st'∧c=(none,())∧RunsTo rk (arrOf st') 0 (pendingOf st').toList lo∧UpSeg rk (arrOf st') lo (lo+m)) (Q:=fun c st'=>Bas rk kd ok a0 st'∧c=(none,())∧RunsTo rk (arrOf st') 0 (pendingOf st').toList lo∧UpSeg rk (arrOf st') lo (lo+m)) ?s3 (fun _ _ h=>h) ⟨b3,rfl,r3,u3⟩) ?p3)
     case s3=>
      rintro j c st4 _ _ ⟨b4,rfl,r4,u4⟩
      refine wpS_bind (wpS_get ?_)
      split
      ·rename_i x1 x2 older he
       refine Ab (fun _=>wpS_pure ⟨b4,rfl,r4,u4⟩) fun _=>?_
       have hz:(pendingOf st4).size>1:=by
        by_cases hz:(pendingOf st4).size>1
        ·exact hz
        ·rw[if_neg hz] at he;cases he
       refine wpS_bind (Fx ask b4 r4 h3 (by omega) fun st5 b5 r5 same _=>?_)
       rw[if_neg (by decide)]
       exact wpS_pure ⟨b5,rfl,r5,u4.same fun x x1 x2=>same x x1⟩
      ·exact wpS_pure ⟨b4,rfl,r4,u4⟩
     case p3=>
      rintro c st4 ⟨b4,rfl,r4,u4⟩
      dsimp only
      refine wpS_bind (wpS_modify ?_)
      refine wpS_bind (wpS_modify (wpS_pure ⟨b4.pending.pending,_,rfl,by omega,m2,?_⟩))
      exact last (arrOf st4) ((pendingOf st4).modify _ _) (by rw[Array.toList_modify];exact r4.power) u4
    ·exact wpS_bind (wpS_modify (wpS_pure ⟨b3.pending,_,rfl,by omega,m2,last _ _ r3 u3⟩))
 case p1=>
  rintro c st1 ⟨b1,rfl,r⟩
  dsimp only
  refine wpS_bind (wpS_mono (wpS_forRange (I:=fun i c st'=>Bas rk kd ok a0 st'∧c=(none,())∧RunsTo rk (arrOf st') 0 (pendingOf st').toList a0.size∧(pendingOf st').size+i≤a0.size) (Q:=fun c st'=>Bas rk kd ok a0 st'∧c=(none,())∧RunsTo rk (arrOf st') 0 (pendingOf st').toList a0.size∧(pendingOf st').size≤1) ?s2 ?f2 ⟨b1,rfl,r,by have:=r.le;rw[Array.length_toList] at this;omega⟩) ?p2)
  case f2=>
   rintro c st' ⟨b',rfl,r',hn⟩
   have:max 0 a0.size=a0.size:=Nat.max_eq_right (Nat.zero_le _)
   exact⟨b',rfl,r',by omega⟩
  case p2=>
   rintro c st' ⟨b',rfl,r',hn⟩
   refine wpS_pure (q st' b' ?_)
   match e:(pendingOf st').toList,r' with
   |[],r'=>have:0=a0.size:=r';omega
   |[(x,n,p)],⟨_,_,u,(h:0+n=a0.size)⟩=>rw[h] at u;exact u
   |_::_::_,_=>
    have:=congrArg List.length e
    rw[Array.length_toList] at this
    simp at this
    omega
  case s2=>
   rintro i c st' _ hi ⟨b',rfl,r',hn⟩
   refine wpS_bind (wpS_get ?_)
   refine Ab (fun z=>wpS_pure ⟨b',rfl,r',z⟩) fun z=>?_
   have hi2:∀c:Bool,(if c=true then (pendingOf st').size-2-1 else (pendingOf st').size-2)+1<(pendingOf st').size:=fun c=>by split<;>omega
   refine wpS_bind (Fx ask b' r' (Nat.le_refl _) (hi2 _) fun st5 b5 r5 _ hn5=>?_)
   rw[if_neg (by decide)]
   exact wpS_pure ⟨b5,rfl,r5,by omega⟩
end
end D3
set_option maxRecDepth 100000
set_option maxHeartbeats 1000000
namespace D3
open PySem PySem.Spec
open PyProof.Rows
section
variable{P:Program}{w:World}{A:Around}{E:Value→Shared→Prop}{s:Shared}{kd:SortKind}{ok:Keyed→Prop}{rk:Keyed→Int}
theorem Dc:∀vs:List Value,vs.zip vs=vs.map fun v=>(v,v)
 |[]=>rfl
 |v::r=>by rw[List.zip_cons_cons,Dc r];rfl
theorem O6{vs:List Value}{arr:Array Keyed}(hp:arr.Perm (pairsOf vs))(u:UpSeg rk arr 0 (pairsOf vs).size)(hd:(vs.map fun v=>rk (v,v)).Nodup) :
  ∃out:List Value,arr.map (·.2)=out.toArray∧out.Perm vs∧out.Pairwise fun x y=>rk (x,x)<rk (y,y):=by
 have hl:arr.toList.Perm (vs.map fun v=>(v,v)):=by
  have:=Array.perm_iff_toList_perm.mp hp
  rw[pairsOf_toList,Dc] at this;exact this
 have hm:∀x∈arr.toList,(x.2,x.2)=x:=fun x hx=>by
  obtain⟨v,_,rfl⟩:=List.mem_map.mp (hl.mem_iff.mp hx);rfl
 have e1:(arr.toList.map (·.2)).map (fun v=>(v,v))=arr.toList:=by
  rw[List.map_map]
  exact(List.map_congr_left hm).trans (List.map_id _)
 have hpo:(arr.toList.map (·.2)).Perm vs:=by
  have:=hl.map (·.2)
  rw[List.map_map] at this
  exact this.trans (by rw[show((fun x:Keyed=>x.2) ∘ fun v:Value=>(v,v))=id from rfl,List.map_id])
 refine⟨arr.toList.map (·.2),by rw[←Array.toList_map],hpo,?_⟩
 have hnd:((arr.toList.map (·.2)).map fun v=>rk (v,v)).Nodup:=((hpo.map _).nodup_iff).mpr hd
 have hsz:(pairsOf vs).size=arr.size:=hp.size_eq.symm
 rw[List.pairwise_iff_getElem]
 intro i j hi hj hij
 have hi':i<arr.size:=by simpa using hi
 have hj':j<arr.size:=by simpa using hj
 have key:∀k (hk:k<arr.size),Af rk arr k=rk ((arr[k]).2,(arr[k]).2):=fun k hk=>by
  unfold Af
  rw[Array.getD_eq_getD_getElem?,Array.getElem?_eq_getElem hk,Option.getD_some,hm _ (by simp)]
 have le:=u i j (Nat.zero_le _) (Nat.le_of_lt hij) (by omega)
 rw[key i hi',key j hj'] at le
 have ne:rk ((arr[i]).2,(arr[i]).2)≠rk ((arr[j]).2,(arr[j]).2):=fun e=>by
  have:=List.pairwise_iff_getElem.mp hnd i j (by simpa using hi') (by simpa using hj') hij
  simp only[List.getElem_map,Array.getElem_toList] at this
  exact this e
 simp only[List.getElem_map,Array.getElem_toList]
 omega
theorem F4{a:Addr}{vs:List Value}{n:Nat}{Q:Fin→Shared→Prop}(ho:s.heap.get? a=some (seqObj "list" vs.toArray n))(hz:vs.length≤10000)(hkind:∀s6:Shared,(∀b o,b≠a→s.heap.get? b=some o→s6.heap.get? b=some o)→∀R:SortKind→Shared→Prop,R kd s6→2≤vs.length→wpAny (model P w) A (keyKind' vs.toArray) R E s6)(hask:∀s6:Shared,(∀b o,b≠a→s.heap.get? b=some o→s6.heap.get? b=some o)→E4 P w A E s6 kd ok rk)(okA:∀v∈vs,ok (v,v))(hd:(vs.map fun v=>rk (v,v)).Nodup)(h:∀out:List Value,out.Perm vs→(out.Pairwise fun x y=>rk (x,x)<rk (y,y))→Q (.done (.ret .none)) { s with heap:=sortedHeap s.heap a vs out.toArray }) :
  wpAny (model P w) A (Builtin.«list.sort» ⟨[.ref a],[]⟩) Q E s:=by
 rw[list_sort_plain]
 have ha:a<s.heap.objs.size:=Heap.lt_size ho
 have hsl:vs.toArray.size≤sizeLine:=by rw[List.size_toArray,sizeLine_eq];omega
 refine wpAny_bind (listItems_at ho rfl ?_)
 refine wpAny_bind (listUpdate_at ho rfl ?_ hsl (Nat.zero_le _))
 obtain⟨e1,ho1⟩:∃e1,(s.heap.update a (Obj.mapSeq fun _=>#[])).get? a=some (seqObj "list" #[] e1):=⟨_,get?_update_seq ho (fun _=>#[])⟩
 refine wpAny_bind (seqEpoch_at ho1 rfl ?_)
 refine wpAny_bind (wpAny_newTuple ?_ (by rw[sizeLine_eq];show vs.length≤_;omega))
 refine wpAny_bind (wpAny_newList ?_ (Nat.zero_le _))
 refine wpAny_holding ?_
 have ho6:(((s.heap.update a (Obj.mapSeq fun _=>#[])).push (seqObj "tuple" vs.toArray 0)).push (seqObj "list" #[] 0)).get? a=some (seqObj "list" #[] e1):=Heap.get?_push_of_some _ (Heap.get?_push_of_some _ ho1)
 have same:∀b o,b≠a→s.heap.get? b=some o→(((s.heap.update a (Obj.mapSeq fun _=>#[])).push (seqObj "tuple" vs.toArray 0)).push (seqObj "list" #[] 0)).get? b=some o:=fun b o hb e=>by
  refine Heap.get?_push_of_some _ (Heap.get?_push_of_some _ ?_)
  rw[Heap.get?_update_ne _ _ _ _ hb];exact e
 show wpAny (model P w) A _ Q E { s with heap:=((s.heap.update a (Obj.mapSeq fun _=>#[])).push (seqObj "tuple" vs.toArray 0)).push (seqObj "list" #[] 0) }
 dsimp only
 by_cases h2:vs.toArray.size<2
 ·rw[if_pos h2,if_pos h2]
  refine wpAny_bind (wpAny_pure ?_)
  rw[StateT.run_pure]
  refine wpAny_bind (wpAny_pure ?_)
  dsimp only
  have em:(arrOf (SortSt.mk' general' (vs.toArray.zip vs.toArray) #[] 7 none)).map (·.2)=vs.toArray:=by
   show(vs.toArray.zip vs.toArray).map (·.2)=_
   rw[List.zip_toArray,Dc,List.map_toArray,List.map_map,show((fun x:Keyed=>x.2) ∘ fun v:Value=>(v,v))=id from rfl,List.map_id]
  rw[em]
  refine wpAny_bind (seqEpoch_at ho6 rfl ?_)
  refine wpAny_bind (listUpdate_at ho6 rfl ?_ (Nat.zero_le _) (Nat.le_succ_of_le hsl))
  simp only[bne_self_eq_false,Bool.false_eq_true,if_false]
  refine wpAny_pure (h vs (List.Perm.refl _) ?_)
  match vs,h2 with
  |[],_=>exact .nil
  |[x],_=>exact List.pairwise_singleton _ _
  |x::y::r,h2=>simp at h2;omega
 ·rw[if_neg h2,if_neg h2]
  have h2':2≤vs.length:=by rw[List.size_toArray] at h2;omega
  refine wpAny_bind (hkind _ same _ ?_ h2')
  refine wpAny_bind (wpAny_mono (Ig (a0:=pairsOf vs) (st:=SortSt.mk' kd (vs.toArray.zip vs.toArray) #[] 7 none) (rk:=rk) (ok:=ok) (kd:=kd)
   (Q:=fun _ st'=>(arrOf st').Perm (pairsOf vs)∧failedOf st'=none∧UpSeg rk (arrOf st') 0 (pairsOf vs).size) (hask _ same) ⟨rfl,Array.Perm.refl _,rfl,?_,?_⟩ (by rw[pairsOf_size];exact h2') rfl fun st' b' u=>⟨b'.perm,b'.fail,u⟩) ?_ fun _ _ e=>e)
  ·intro x hx
   have hx:x∈(pairsOf vs).toList:=by simpa using hx
   rw[pairsOf_toList,Dc] at hx
   obtain⟨v,hv,rfl⟩:=List.mem_map.mp hx
   exact okA v hv
  ·rw[pairsOf_toList,Dc,List.map_map];exact hd
  rintro⟨⟨⟩,st'⟩ s' ⟨rfl,hp,hf,hu⟩
  obtain⟨out,e,p2,pw⟩:=O6 hp hu hd
  dsimp only
  rw[e]
  refine wpAny_bind (seqEpoch_at ho6 rfl ?_)
  refine wpAny_bind (listUpdate_at ho6 rfl ?_ (Nat.zero_le _) (by rw[List.size_toArray,p2.length_eq,sizeLine_eq];omega))
  rw[hf]
  simp only[bne_self_eq_false,Bool.false_eq_true,if_false]
  exact wpAny_pure (h out p2 pw)
def B8(h:Heap)(v:Value)(ij:Int×Int):Prop:=∃a o t u n,v=.ref a∧h.get? a=some o∧o.cls=.type "tuple"∧o.data=.seq #[.int ij.1 t,.int ij.2 u] n
def rkP(key:Value→Int×Int)(x:Keyed):Int:=(key x.1).1*1000+(key x.1).2
theorem Li{key:Value→Int×Int}{vs:List Value}(hv:∀v∈vs,B8 s.heap v (key v))(hb:∀v∈vs,0≤(key v).2∧(key v).2<1000):E4 P w A E s (tuples' true) (fun x=>x.1∈vs) (rkP key):=by
 intro x y st Q hk ox oy q
 obtain⟨a,o,t,u,n,ea,ha,ca,da⟩:=hv _ ox
 obtain⟨b,o',t',u',n',eb,hb',cb,db⟩:=hv _ oy
 have b1:=hb _ ox
 have b2:=hb _ oy
 rw[lt'_eq]
 refine wpS_bind (wpS_get ?_)
 rw[hk,ea,eb]
 refine wpS_bind (wpS_lift (wpAny_attempt (PySem.W.kat_lt ha da hb' db ?_)))
 have fin:∀c:Bool,c=decide (rkP key x<rkP key y)→s=s∧wpS (model P w) A E s (pure (some c)) Q st:=fun c hc=>⟨rfl,by rw[hc];exact wpS_pure q⟩
 unfold rkP at fin
 refine PySem.W.kat_cons (wpAny_eqBool_int (PySem.W.kat_go (fun e=>PySem.W.kat_yes ?_) fun e=>PySem.W.kat_no ?_))
 ·have e:=beq_iff_eq.mp e
  refine PySem.W.kat_cons (wpAny_eqBool_int (PySem.W.kat_go (fun e2=>PySem.W.kat_yes ?_) fun e2=>PySem.W.kat_no ?_))
  ·have e2:=beq_iff_eq.mp e2
   refine PySem.W.kat_nil (fin _ ?_)
   rw[decide_eq_false (by simp),decide_eq_false (by omega)]
  ·refine PySem.W.kat_one _ _ (wpAny_lt_int (fin _ ?_))
   rw[e];congr 1;exact propext ⟨fun z=>by omega,fun z=>by omega⟩
 ·have e:(key x.1).1≠(key y.1).1:=fun z=>by rw[z] at e;simp at e
  refine oneLt_int (fin _ ?_)
  congr 1;exact propext ⟨fun z=>by omega,fun z=>by omega⟩
theorem Lb{key:Value→Int×Int}{vs:List Value}{R:SortKind→Shared→Prop}(hv:∀v∈vs,B8 s.heap v (key v))(h2:2≤vs.length)(q:R (tuples' true) s):wpAny (model P w) A (keyKind' vs.toArray) R E s:=by
 have ht:∀{l:List Value},(∀v∈l,B8 s.heap v (key v))→∃fs:List Value,PySem.W.KatTups s.heap l fs∧fs.length=l.length∧∀f∈fs,∃i t,f=Value.int i t:=fun {l}=>by
  induction l with
  |nil=>exact fun _=>⟨[],trivial,rfl,fun _ h=>by cases h⟩
  |cons v r ih=>
   intro hl
   obtain⟨fs,k,el,hf⟩:=ih fun x hx=>hl x (List.mem_cons_of_mem _ hx)
   obtain⟨a,o,t,u,n,ea,ha,ca,da⟩:=hl v (List.mem_cons_self ..)
   subst ea
   refine⟨.int _ t::fs,.cons ha ca da rfl k,by simp[el],fun f hf'=>?_⟩
   rcases List.mem_cons.mp hf' with rfl|hf'
   ·exact⟨_,_,rfl⟩
   ·exact hf f hf'
 obtain⟨fs,k,el,hf⟩:=ht hv
 refine PySem.W.kat_kind (T:=.type "int") k (by omega) (fun v hv=>?_) (by decide) q
 obtain⟨i,t,rfl⟩:=hf v hv
 exact PySem.W.Looks.of_pure rfl
end
end D3
set_option maxRecDepth 100000
set_option maxHeartbeats 1000000
namespace D3
open PySem PySem.Spec
open PyProof.Rows
def RawD(h:Heap)(d:Addr)(es:Array DictEntry)(ep:Nat):Prop:=∃o,h.get? d=some o∧o.ExactDict∧o.data=.dict es ep
theorem RawD.keep{h g:Heap}{d:Addr}{es:Array DictEntry}{ep:Nat}(r:RawD h d es ep)(k:∀o,h.get? d=some o→g.get? d=some o):RawD g d es ep:=let ⟨o,a,b⟩:=r;⟨o,k o a,b⟩
theorem RawD.lt{h:Heap}{d:Addr}{es:Array DictEntry}{ep:Nat}(r:RawD h d es ep):d<h.objs.size:=let ⟨_,a,_⟩:=r;Heap.lt_size a
section
variable{P:Program}{w:World}{A:Around}{E:Value→Shared→Prop}{s:Shared}{d it:Addr}{es:Array DictEntry}{ep i:Nat}
theorem RawD.ty(r:RawD s.heap d es ep):s.TypeIs (.ref d) "dict":=let ⟨o,a,b,_⟩:=r;⟨o,a,b.1⟩
theorem Pb{Q:Value→Shared→Prop}(nd:(d == sysModules)=false)(r:RawD s.heap d es ep)(q:Q (.ref s.heap.objs.size) { s with heap:=s.heap.push { cls:=.type "dict_keyiterator",data:=.fields #[.ref d,.int 0 0,.int es.size 0,.int ep 0] } }):wpAny (model P w) A (pyIter (.ref d)) Q E s:=by
 obtain⟨o,a,b,c⟩:=id r
 refine wpAny_pyIter_slot r.ty F.slot_dict_iter (wpAny_call_entry F.slot_dict_iter r.ty F.entry_dict_iter ?_ (F.args_dict_iter_1 _))
 unfold Builtin.«dict.__iter__» Builtin.Dict.dictSlotNone
 refine wpAny_bind (wpAny_bind (wpAny_notOrdered_dict r.ty ?_))
 refine wpAny_pure (a:=Value.ref d) ?_
 show wpAny _ _ (Builtin.Dict.showsAll d >>= _) _ _ s
 unfold Builtin.Dict.showsAll
 rw[if_neg (by rw[nd];decide)]
 refine wpAny_bind (wpAny_pure (wpAny_bind (wpAny_dictEntries a c (wpAny_bind (wpAny_dictEpoch a c ?_)))))
 exact wpAny_bind (wpAny_newObj_type (wpAny_pure ⟨_,rfl, "dict_keyiterator",_,⟨_,Heap.get?_push_size _ rfl,rfl⟩,F.slot_dict_keyiterator_next.lookup,by simpa[rawInt] using q⟩))
theorem Pa{Q:Option Value→Shared→Prop}(hit:s.heap.IsKeyIter it d i es.size ep)(r:RawD s.heap d es ep)(hi:i<es.size)(q:∀g,g.IsKeyIter it d (i+1) es.size ep→Heap.SameBut it s.heap g→Q (some es[i].key) { s with heap:=g }):wpAny (model P w) A (pyNext (.ref it)) Q E s:=by
 obtain⟨oi,ai,bi,ci⟩:=id hit
 obtain⟨o,a,b,c⟩:=id r
 unfold pyNext
 refine wpAny_bind (wpAny_attempt (wpAny_callSpecial?_slot (name:=Str.ofString "__next__") hit.typeIs F.slot_dict_keyiterator_next (wpAny_call_entry F.slot_dict_keyiterator_next hit.typeIs F.entry_dict_keyiterator_next ?_ (F.args_dict_keyiterator_next_1 _))))
 refine wpAny_bind (wpAny_pure (wpAny_bind (wpAny_bind ?_)))
 first|refine wpAny_bind (wpAny_typeNameOfWhole_keyiter hit.typeIs (wpAny_pure (wpAny_bind (wpAny_fieldsOf ai ci ?_))))|refine wpAny_bind (wpAny_typeNameOf_keyiter hit.typeIs (wpAny_pure (wpAny_bind (wpAny_fieldsOf ai ci ?_))))
 simp only[show Builtin.Dict_items.ownsTuple "dict_keyiterator" = false by decide,Bool.false_eq_true,if_false]
 refine wpAny_ite_split (fun z=>absurd (show(Value.ref d == Value.none)=true from z) (by intro z;cases z)) fun _=>?_
 refine wpAny_bind (wpAny_pure (wpAny_bind (wpAny_dictEntries a c ?_)))
 rw[if_neg (by simp)]
 refine wpAny_bind (wpAny_pure (wpAny_bind (wpAny_dictEpoch a c ?_)))
 rw[if_neg (by simp)]
 refine wpAny_pure ?_
 simp only[show ¬((i:Int)<0) from by omega,if_false,Int.toNat_natCast,Array.getElem?_eq_getElem hi]
 refine wpAny_bind ?_
 first|refine wpAny_bind (wpAny_typeNameOfWhole_keyiter hit.typeIs (wpAny_pure (wpAny_bind (wpAny_isOneOf_keyiter hit.typeIs ?_))))|refine wpAny_bind (wpAny_typeNameOf_keyiter hit.typeIs (wpAny_pure (wpAny_bind (wpAny_isOneOf_keyiter hit.typeIs ?_))))
 have hit2:(s.heap.update it (Obj.mapFields fun x=>x.setIfInBounds 1 (rawInt ((i:Int)+1)))).IsKeyIter it d (i+1) es.size ep:=
  ⟨_,Heap.get?_update_self _ ai (Obj.isFreed_of_fields (Obj.data_mapFields ci _)),(Obj.cls_mapFields ..).trans bi,by rw[Obj.data_mapFields ci];simp[rawInt]⟩
 refine wpAny_bind (wpAny_setField (i:=1) ai ci (by simp) (wpAny_bind (wpAny_holding (wpAny_bind (wpAny_isOneOf_keyiter hit2.typeIs ?_)))))
 refine wpAny_pure (a:=es[i].key) (wpAny_pure ⟨_,rfl,wpAny_pure (q _ hit2 (Heap.SameBut.update ..))⟩)
theorem Q1{Q:Option Value→Shared→Prop}(hh:A.handled=none)(hit:s.heap.IsKeyIter it d es.size es.size ep)(r:RawD s.heap d es ep)(q:∀g,Heap.ExtBut it s.heap g→Q none { s with heap:=g }):wpAny (model P w) A (pyNext (.ref it)) Q E s:=by
 obtain⟨oi,ai,bi,ci⟩:=id hit
 obtain⟨o,a,b,c⟩:=id r
 unfold pyNext
 refine wpAny_bind (wpAny_attempt (wpAny_callSpecial?_slot (name:=Str.ofString "__next__") hit.typeIs F.slot_dict_keyiterator_next (wpAny_call_entry F.slot_dict_keyiterator_next hit.typeIs F.entry_dict_keyiterator_next ?_ (F.args_dict_keyiterator_next_1 _))))
 refine wpAny_bind (wpAny_pure (wpAny_bind (wpAny_bind ?_)))
 first|refine wpAny_bind (wpAny_typeNameOfWhole_keyiter hit.typeIs (wpAny_pure (wpAny_bind (wpAny_fieldsOf ai ci ?_))))|refine wpAny_bind (wpAny_typeNameOf_keyiter hit.typeIs (wpAny_pure (wpAny_bind (wpAny_fieldsOf ai ci ?_))))
 simp only[show Builtin.Dict_items.ownsTuple "dict_keyiterator" = false by decide,Bool.false_eq_true,if_false]
 refine wpAny_ite_split (fun z=>absurd (show(Value.ref d == Value.none)=true from z) (by intro z;cases z)) fun _=>?_
 refine wpAny_bind (wpAny_pure (wpAny_bind (wpAny_dictEntries a c ?_)))
 rw[if_neg (by simp)]
 refine wpAny_bind (wpAny_pure (wpAny_bind (wpAny_dictEpoch a c ?_)))
 rw[if_neg (by simp)]
 refine wpAny_pure ?_
 simp only[show ¬((es.size:Int)<0) from by omega,if_false,Int.toNat_natCast,Array.getElem?_eq_none (Nat.le_refl es.size)]
 refine wpAny_bind ?_
 first|refine wpAny_bind (wpAny_typeNameOfWhole_keyiter hit.typeIs (wpAny_pure ?_))|refine wpAny_bind (wpAny_typeNameOf_keyiter hit.typeIs (wpAny_pure ?_))
 refine wpAny_bind (wpAny_setField (i:=0) ai ci (by simp) (wpAny_bind ?_))
 simp only[newExc,newTuple]
 refine wpAny_bind (wpAny_newObj_type (wpAny_bind (m:=firstArgMember _ _) (wpAny_of_eq (a:=Value.none) (by first|rfl|(simp only[firstArgMember];rfl)) (wpAny_newObj_type ?_ (by size_fits)))) (by size_fits))
 simp only[raiseNew]
 refine wpAny_bind (wpAny_handled ?_)
 rw[show A.in1.handled=none from hh]
 refine wpAny_bind (wpAny_pure (wpAny_throw ?_))
 refine wpAny_bind (wpAny_isInstance (b:=true) (T:="StopIteration") ⟨_,Heap.get?_push_size _ rfl,rfl⟩ isSubtype_stop ?_)
 exact wpAny_pure (q _ (((Heap.SameBut.update ..).extBut.push _).push _))
theorem M1(hh:A.handled=none)(I:Addr)(hne:d≠I):Walks P w A I [I,d] [I] es.size (fun i v=>∃h:i<es.size,v=es[i].key) (fun i h=>h.IsKeyIter I d i es.size ep∧RawD h d es ep) where
 sub:=fun b hb=>by rw[List.mem_singleton.mp hb];exact List.mem_cons_self ..
 frame:=fun _ _ _ st hk=>⟨st.1.at fun o e=>hk I (by simp) o e,st.2.keep fun o e=>hk d (by simp) o e⟩
 item:=fun i s Q E hi st hQ=>Pa st.1 st.2 hi fun g hit' hs'=>hQ _ g s.toks ⟨hi,rfl⟩ ⟨hit',st.2.keep fun o e=>hs'.extBut d o hne e⟩ fun b o hb e=>hs'.extBut b o (fun h=>hb (by simp[h])) e
 done:=fun s Q E st hQ=>Q1 hh st.1 st.2 fun g he'=>hQ g s.toks fun b o hb e=>he' b o (fun h=>hb (by simp[h])) e
 self:=fun _ _ _ _ st hQ=>wpAny_pyIter_keyiter st.1 hQ
theorem Q0(nd:(d == sysModules)=false):PySem.W.KdlSrc P w "dict" d d es.size (fun i v=>∃h:i<es.size,v=es[i].key) (fun h=>RawD h d es ep) where
 type:=fun _ r=>r.ty
 there:=fun _ r=>⟨r.lt,r.lt⟩
 keep:=fun _ _ r k=>r.keep fun o e=>k d (.inl rfl) o e
 notList:=by decide
 notTuple:=by decide
 hint:=fun _ _ _ _ r q=>PySem.W.kdl_hint_dict r.ty q
 iter:=fun _ _ hh r=>⟨_,_,fun _ _ q=>Pb nd r q,M1 hh _ (Nat.ne_of_lt r.lt),⟨⟨_,Heap.get?_push_size _ rfl,rfl,rfl⟩,r.keep fun o e=>Heap.get?_push_of_some _ e⟩⟩
end
end D3
set_option maxRecDepth 100000
set_option maxHeartbeats 1000000
namespace D3
open PySem PySem.Spec
open PyProof.Rows hiding St
open L2 hiding St
section
variable{P:Program}{w:World}{A:Around}{E:Value→Shared→Prop}{s:Shared}{d:Addr}{es:Array DictEntry}{ep:Nat}
theorem P6{L:Addr}{R:Result→Shared→Prop}(hh:A.handled=none)(nd:(d == sysModules)=false)(r:RawD s.heap d es ep)(hz:es.size≤sizeLine)(ne:L≠d)(hL:s.heap.get? L=some { cls:=.type "list",data:=.seq #[] 0 })(q:∀h' tk acc' c',(∀b o,b≠L→s.heap.get? b=some o→h'.get? b=some o)→h'.get? L=some { cls:=.type "list",dict:=none,data:=.seq acc' c',slots:=#[] }→acc'.toList=es.toList.map (·.key)→R (.ok (.ret (.ref L))) { s with heap:=h',toks:=tk }) :
  codeAny (model P w) A (.builtin "list.__iadd__" ⟨[.ref L,.ref d],[]⟩) R s:=by
 refine codeAny_builtin PySem.F.entry_list_iadd ?_
 rw[Around.under_plainId PySem.F.plain_list_iadd _]
 refine PySem.W.kdl_extend (R:=R) (Q0 nd) hh r L ne ne (.ref L) 0 hL (fun h' tk acc' c' hk hS' hacc=>q h' tk acc' c' hk hS' ?_) hz
 apply List.ext_getElem?
 intro i
 by_cases hi:i<acc'.size
 ·obtain⟨h1,h2⟩:=hacc.2 i acc'[i] (by simp[hi])
  rw[List.getElem?_map]
  simp[hi,h2,h1]
 ·rw[List.getElem?_eq_none (by simpa using hi),List.getElem?_eq_none (by have:=hacc.1;simp;omega)]
theorem Ke{Q:List Value→Shared→Prop}(hh:A.handled=none)(nd:(d == sysModules)=false)(r:RawD s.heap d es ep)(hz:es.size≤sizeLine)(q:∀(g:Heap) (tk:Nat),s.heap.objs.size≤g.objs.size→(∀b o,s.heap.get? b=some o→g.get? b=some o)→Q (es.toList.map (·.key)) { s with heap:=g,toks:=tk }):wpAny (model P w) A (collect (.ref d)) Q E s:=by
 have hlt:=r.lt
 unfold collect
 refine wpAny_bind (wpAny_runValue (codeAny_builtin PySem.F.entry_proto_collect ?_));rw[Around.under_plainId PySem.F.plain_proto_collect _]
 show wpAny _ A.in1 (newList [] >>= fun l=>again (.builtin "list.__iadd__" ⟨[l,.ref d],[]⟩)) _ _ s
 refine wpAny_bind (wpAny_newObj_type (wpAny_pure ⟨plainId_quiet PySem.F.plain_list_iadd _,P6 hh nd (r.keep fun o e=>Heap.get?_push_of_some _ e) hz (Nat.ne_of_gt hlt) (Heap.get?_push_size _ rfl) fun h' tk acc' c' hk hS' e=>?_⟩))
 show wpAny _ A (load s.heap.objs.size >>= _) _ _ _;refine wpAny_bind (wpAny_load hS' (wpAny_pure ?_))
 rw[e]
 exact q _ _ (Nat.le_of_lt (Heap.lt_size hS')) fun b o h1=>hk b o (Nat.ne_of_lt (Heap.lt_size h1)) (Heap.get?_push_of_some _ h1)
theorem K5{key:Value→Int×Int}{Q:Value→Shared→Prop}(hh:A.handled=none)(nd:(d == sysModules)=false)(r:RawD s.heap d es ep)(hz:es.size≤10000)(hv:∀v∈es.toList.map (·.key),B8 s.heap v (key v))(hb:∀v∈es.toList.map (·.key),0≤(key v).2∧(key v).2<1000)(hd:((es.toList.map (·.key)).map fun v=>rkP key (v,v)).Nodup)(q:∀(g h':Heap) (out:List Value) (n tk:Nat),out.Perm (es.toList.map (·.key))→(out.Pairwise fun x y=>rkP key (x,x)<rkP key (y,y))→s.heap.objs.size≤g.objs.size→(∀b o,s.heap.get? b=some o→h'.get? b=some o)→h'.get? g.objs.size=some { cls:=.type "list",data:=.seq out.toArray n }→Q (.ref g.objs.size) { s with heap:=h',toks:=tk }) :
  wpAny (model P w) A (call (.builtin "sorted") [.ref d]) Q E s:=by
 refine Calls.call_function_entry kind_sorted plain_sorted entry_sorted (args_sorted1 _) ?_
 unfold Builtin.«sorted»
 refine wpAny_bind (m:=checkCount "sorted" 1 1 _) (wpAny_pure (wpAny_bind (Ke (A:=A.in1) hh nd r (by rw[sizeLine_eq];omega) fun g tk big keep=>?_)))
 have hl:(es.toList.map (·.key)).length=es.size:=by simp
 generalize es.toList.map (·.key)=vs at *
 refine wpAny_bind (wpAny_newList ?_ (by rw[sizeLine_eq];omega))
 have hoL:(g.push (seqObj "list" vs.toArray 0)).get? g.objs.size=some (seqObj "list" vs.toArray 0):=Heap.get?_push_size _ rfl
 show wpAny _ _ _ _ _ { s with toks:=tk,heap:=g.push (seqObj "list" vs.toArray 0) }
 have pairs:∀s6:Shared,(∀b o,b≠g.objs.size→(g.push (seqObj "list" vs.toArray 0)).get? b=some o→s6.heap.get? b=some o)→∀v∈vs,B8 s6.heap v (key v):=fun s6 h6 v hv'=>by
  obtain⟨a,o,t,u,n,x1,x2,x3⟩:=hv v hv'
  have x4:=keep _ _ x2
  exact⟨a,o,t,u,n,x1,h6 _ _ (Nat.ne_of_lt (Heap.lt_size x4)) (Heap.get?_push_of_some _ x4),x3⟩
 refine wpAny_bind (wpAny_holding (wpAny_call_entry slot_list_sort ⟨_,hoL,rfl⟩ entry_list_sort (F4 (kd:=tuples' true) (ok:=fun x=>x.1∈vs) (rk:=rkP key) hoL (by omega) (fun s6 h6 R qR h2=>Lb (pairs s6 h6) h2 qR) (fun s6 h6=>Li (pairs s6 h6) hb) (fun v hv=>hv) hd fun out a1 a2=>⟨_,rfl,?_⟩) (args_list_sort _)))
 obtain⟨n,hn⟩:=sortedHeap_at (vs:=vs) (out:=out.toArray) hoL
 refine wpAny_pure ⟨_,rfl,q g _ out n tk a1 a2 big (fun b o h0=>?_) hn⟩
 have h1:=keep _ _ h0
 have hb':b<g.objs.size:=Heap.lt_size h1
 show(sortedHeap _ _ _ _).get? b=some o
 rw[sortedHeap_old (Nat.ne_of_lt hb') (by rw[size_push'];exact Nat.lt_succ_of_lt hb')]
 exact Heap.get?_push_of_some _ h1
end
end D3
set_option maxRecDepth 100000
set_option maxHeartbeats 1000000
namespace D3
open PySem PySem.Spec
open PyProof.Rows hiding St
open L2 hiding St
def Ao(k:Int×Int):List Key:=[.inl k.1,.inl k.2]
def Ag(k:Int×Int):D:=.tup [.int k.1,.int k.2]
def B2(a b:Int×Int):Prop:=a.1<b.1∨(a.1=b.1∧a.2<b.2)
theorem Po{h:Heap}{v:Value}{a b:Int×Int}(x:B8 h v a)(y:B8 h v b):a=b:=by
 obtain⟨p,o,t,u,n,e1,e2,_,e3⟩:=x
 obtain⟨p',o',t',u',n',f1,f2,_,f3⟩:=y
 rw[e1] at f1;cases f1
 rw[e2] at f2;cases f2
 rw[e3] at f3
 injection f3 with g1 _
 have g2:=congrArg Array.toList g1
 simp only[List.cons.injEq,Value.int.injEq,and_true] at g2
 exact Prod.ext g2.1.1 g2.2.1
open Classical in
noncomputable def Cb(h:Heap)(v:Value):Int×Int:=if z:∃ij,B8 h v ij then Classical.choose z else (0,0)
theorem Fn{h:Heap}{v:Value}{a:Int×Int}(x:B8 h v a):Cb h v=a:=by
 have z:∃ij,B8 h v ij:=⟨a,x⟩
 unfold Cb
 rw[dif_pos z]
 exact Po (Classical.choose_spec z) x
theorem Fm{α β γ:Type}{R:β→γ→Prop}{f:α→β}:∀{ks:List α} {ys:List γ},Paired R (ks.map f) ys→Paired (fun k y=>R (f k) y) ks ys
 |[],_,.nil=>.nil
 |_::_,_,.cons h t=>.cons h (Fm t)
theorem Er{α β γ:Type}{R:α→β→Prop}{f:α→γ}{g:β→γ}(h:∀a b,R a b→f a=g b):∀{ks:List α} {ys:List β},Paired R ks ys→ks.map f=ys.map g
 |[],_,.nil=>rfl
 |_::_,_,.cons x t=>by rw[List.map_cons,List.map_cons,h _ _ x,Er h t]
theorem Jl{α β:Type}{R:α→β→Prop}:∀{ks:List α} {ys:List β},Paired R ks ys→∀y∈ys,∃k∈ks,R k y
 |[],_,.nil,y,h=>by cases h
 |k::_,_,.cons x t,y,h=>by
  rcases List.mem_cons.mp h with rfl|h
  ·exact⟨k,List.mem_cons_self ..,x⟩
  ·obtain⟨k',h1,h2⟩:=Jl t y h
   exact⟨k',List.mem_cons_of_mem _ h1,h2⟩
theorem L0{α β γ:Type}{R:β→γ→Prop}{f:α→β}{g:α→γ}:∀{l:List α},(∀x∈l,R (f x) (g x))→Paired R (l.map f) (l.map g)
 |[],_=>.nil
 |x::r,h=>.cons (h x (List.mem_cons_self ..)) (L0 fun y hy=>h y (List.mem_cons_of_mem _ hy))
def Lu:Value→Addr
 |.ref a=>a
 |_=>0
theorem Kz{α β:Type}{f:α→β}:∀{l:List α},l.Nodup→(∀x∈l,∀y∈l,f x=f y→x=y)→(l.map f).Nodup
 |[],_,_=>List.nodup_nil
 |x::r,h,hf=>by
  obtain⟨h1,h2⟩:=List.nodup_cons.mp h
  rw[List.map_cons,List.nodup_cons]
  refine⟨fun z=>?_,Kz h2 fun a ha b hb=>hf a (List.mem_cons_of_mem _ ha) b (List.mem_cons_of_mem _ hb)⟩
  obtain⟨y,hy,e⟩:=List.mem_map.mp z
  exact h1 (hf x (List.mem_cons_self ..) y (List.mem_cons_of_mem _ hy) e.symm ▸ hy)
section
variable{X:Cx}
theorem Ir(hcalm:X.calm=true):CallR X (.builtin "sorted") (fun xs H Q=>∃(a:Addr) (ks:List ((Int×Int)×V)),xs=[.ref a]∧H a=some (.dT (ks.map fun k=>(Ao k.1,k.2)))∧ks.length≤10000∧(∀k∈ks,0≤k.1.2∧k.1.2<1000)∧
  ∀p (ms:List (Int×Int)) (bs:List Addr),H p=none→ms.Perm (ks.map (·.1))→ms.Pairwise B2→Paired (fun b m=>H b=some (.tup [.int m.1,.int m.2])) bs ms→Q (.ref p) (upd H p (.lst (bs.map V.ref)))):=by
 intro pins s σ H xs us Q I r h
 obtain⟨a,ks,rfl,ha,hz,hb,q⟩:=h
 obtain⟨u,rfl,rx⟩:=Fa r
 cases rx
 obtain⟨_,nd,ys,pr,o,es,ep,h1,h2,h3,h4,h5⟩:=(show ObjOk X.prog X.w H s.heap a (.dT _) from I.hok a _ ha)
 have raw:RawD s.heap a es ep:=⟨o,h1,h2,h3⟩
 have pr:=Fm pr
 have pairs:∀y∈ys,∃k∈ks,H y.2.1=some (.tup [.int k.1.1,.int k.1.2])∧B8 s.heap (.ref y.2.1) k.1:=fun y hy=>by
  obtain⟨k,hk,_,e,_⟩:=Jl pr y hy
  have e:H y.2.1=some (.tup [.int k.1.1,.int k.1.2]):=e
  obtain⟨_,its,rv,ox,hx,hc,n,hd⟩:=(show ObjOk X.prog X.w H s.heap y.2.1 (.tup _) from I.hok _ _ e)
  match its,rv,hd with
  |[_,_],.cons ⟨t1,rfl⟩ (.cons ⟨t2,rfl⟩ .nil),hd=>exact⟨k,hk,e,_,ox,t1,t2,n,rfl,hx,hc,hd⟩
 have ek:es.toList.map (·.key)=ys.map fun y=>Value.ref y.2.1:=by rw[h4,List.map_map];rfl
 have eks:(ys.map fun y=>Value.ref y.2.1).map (Cb s.heap)=ks.map (·.1):=by
  rw[List.map_map]
  refine(Er (R:=fun k y=>H y.2.1=some (.tup [V.int k.1.1,.int k.1.2])∧y∈ys) (fun k y h=>?_) ?_).symm
  ·obtain⟨k',hk',e',pa⟩:=pairs y h.2
   rw[h.1] at e'
   injection e' with e';injection e' with e'
   simp only[List.cons.injEq,V.int.injEq,and_true] at e'
   show k.1=Cb s.heap (.ref y.2.1)
   rw[Fn pa];exact Prod.ext e'.1 e'.2
  ·have:∀{a:List ((Int×Int)×V)} {b:List (List Key×Addr×Value)},Paired (fun k y=>(Ao k.1,k.2).1=y.1∧H y.2.1=some (.tup ((Ao k.1,k.2).1.map kV))∧L2.RelV (Ao k.1,k.2).2 y.2.2) a b→(∀y∈b,y∈ys)→Paired (fun k y=>H y.2.1=some (.tup [V.int k.1.1,.int k.1.2])∧y∈ys) a b:=fun {a b} h=>by
    induction h with
    |nil=>exact fun _=>.nil
    |cons x t ih=>exact fun hm=>.cons ⟨x.2.1,hm _ (List.mem_cons_self ..)⟩ (ih fun y hy=>hm y (List.mem_cons_of_mem _ hy))
   exact this pr fun _ h=>h
 have hk1:(ks.map (·.1)).Nodup:=by
  have e:ks.map (fun k=>Ao k.1)=ys.map (·.1):=Er (fun k y h=>h.1) pr
  rw[←e] at h5
  have:(ks.map (·.1)).map Ao=ks.map fun k=>Ao k.1:=by rw[List.map_map];rfl
  rw[←this] at h5
  exact List.Pairwise.of_map Ao (fun a b h e=>h (congrArg Ao e)) h5
 have hb2:∀m∈ks.map (·.1),0≤m.2∧m.2<1000:=fun m hm=>by obtain⟨k,hk,rfl⟩:=List.mem_map.mp hm;exact hb k hk
 have rk:∀v,rkP (Cb s.heap) (v,v)=(Cb s.heap v).1*1000+(Cb s.heap v).2:=fun _=>rfl
 have hes:es.size≤10000:=by
  have:=congrArg List.length ek
  have:=congrArg List.length eks
  simp at *;omega
 refine K5 (key:=Cb s.heap) (I.ok.hd hcalm) nd raw hes ?_ ?_ ?_ fun g h' out n tk hp pw big keep hn=>?_
 ·rw[ek];intro v hv
  obtain⟨y,hy,rfl⟩:=List.mem_map.mp hv
  obtain⟨k,_,_,pa⟩:=pairs y hy
  rw[Fn pa];exact pa
 ·rw[ek];intro v hv
  have:Cb s.heap v∈ks.map (·.1):=by rw[←eks];exact List.mem_map_of_mem hv
  exact hb2 _ this
 ·rw[ek]
  have e:((ys.map fun y=>Value.ref y.2.1).map fun v=>rkP (Cb s.heap) (v,v))=(ks.map (·.1)).map fun m=>m.1*1000+m.2:=by rw[←eks];simp only[List.map_map];rfl
  rw[e]
  refine Kz hk1 fun x hx y hy e=>?_
  have:=hb2 x hx;have:=hb2 y hy
  exact Prod.ext (by omega) (by omega)
 ·rw[ek] at hp
  have hm:(out.map (Cb s.heap)).Perm (ks.map (·.1)):=by rw[←eks];exact hp.map _
  have hin:∀v∈out,∃b m,v=.ref b∧Cb s.heap v=m∧H b=some (.tup [.int m.1,.int m.2]):=fun v hv=>by
   obtain⟨y,hy,rfl⟩:=List.mem_map.mp (hp.mem_iff.mp hv)
   obtain⟨k,_,e,pa⟩:=pairs y hy
   exact⟨_,k.1,rfl,Fn pa,e⟩
  have hbs:Vals ((out.map Lu).map V.ref) out:=by
   have:∀{l:List Value},(∀v∈l,∃b m,v=Value.ref b∧Cb s.heap v=m∧H b=some (.tup [.int m.1,.int m.2]))→Vals ((l.map Lu).map V.ref) l:=fun {l}=>by
    induction l with
    |nil=>exact fun _=>.nil
    |cons v r ih=>
     intro hl
     obtain⟨b,m,rfl,_⟩:=hl v (List.mem_cons_self ..)
     exact .cons rfl (ih fun x hx=>hl x (List.mem_cons_of_mem _ hx))
   exact this hin
  have I2:=I.laid (h':=h') (t':=tk) (o:=.lst ((out.map Lu).map V.ref)) keep big (show ObjOk X.prog X.w _ _ _ (.lst _) from⟨by rw[List.length_map,List.length_map,hp.length_eq,List.length_map,sizeLine_eq];have:=congrArg List.length eks;simp at this;omega,out,n,hbs,hn⟩)
  refine⟨.ref g.objs.size,_,I2,rfl,q _ (out.map (Cb s.heap)) (out.map Lu) (I.hok.fresh big) hm ?_ ?_⟩
  ·rw[List.pairwise_map]
   refine pw.imp_of_mem fun {x y} hx hy e=>?_
   have b1:=hb2 _ (hm.mem_iff.mp (List.mem_map_of_mem hx))
   have b2:=hb2 _ (hm.mem_iff.mp (List.mem_map_of_mem hy))
   rw[rk,rk] at e
   unfold B2
   omega
  ·refine L0 fun v hv=>?_
   obtain⟨b,m,rfl,e,z⟩:=hin v hv
   rw[e];exact z
theorem Hg(hcalm:X.calm=true):QC X (.builtin "sorted") (fun ds G Q=>∃d,ds=[d]∧∃p,d=.ref p∧∃ks:List ((Int×Int)×D),G p=some (.dct (ks.map fun k=>(Ao k.1,k.2)))∧ks.length≤10000∧(∀k∈ks,0≤k.1.2∧k.1.2<1000)∧
  ∀l (ms:List (Int×Int)),G l=none→ms.Perm (ks.map (·.1))→ms.Pairwise B2→Q (.ref l) (Ae G l (.lst (ms.map Ag)))):=(Ir hcalm).imp fun xs H Q ⟨ds,G,Q',dv,rg,⟨d,e,p,ep,ks,eg,hn,hb,q⟩,cl⟩=>by
 subst e ep
 obtain⟨v,rfl,h⟩:=dv.one
 cases h
 obtain⟨ks',eh,r⟩:=rg p _ eg
 have split:∀{a:List ((Int×Int)×D)} {b:List (List Key×V)},Paired (fun k q=>Ao k.1=q.1∧DV X.K H k.2 q.2) a b→∃c:List ((Int×Int)×V),c.map (fun k=>(Ao k.1,k.2))=b∧c.map (·.1)=a.map (·.1):=fun {a b} h=>by
  induction h with
  |nil=>exact⟨[],rfl,rfl⟩
  |@cons k q ks qs x t ih=>
   obtain⟨c,e1,e2⟩:=ih
   refine⟨(k.1,q.2)::c,?_,?_⟩
   ·rw[List.map_cons,e1]
    show(Ao k.1,q.2)::qs=q::qs
    rw[x.1]
   ·rw[List.map_cons,e2];rfl
 obtain⟨c,e1,e2⟩:=split (Fm r)
 rw[←e1] at eh
 have hl:c.length=ks.length:=by have:=congrArg List.length e2;simpa using this
 refine⟨p,c,rfl,eh,by omega,fun k hk=>?_,fun l ms bs hl h1 h2 h3=>?_⟩
 ·have:k.1∈ks.map (·.1):=by rw[←e2];exact List.mem_map_of_mem hk
  obtain⟨k',hk',e⟩:=List.mem_map.mp this
  rw[←e];exact hb k' hk'
 ·rw[e2] at h1
  refine cl _ _ (q l ms (rg.free hl) h1 h2) _ (Ext.fresh hl) (rg.lst hl ?_) _ (.ref l)
  clear h1 h2
  induction h3 with
  |nil=>exact .nil
  |cons x t ih=>exact .cons (.tup x (.cons (.int _) (.cons (.int _) .nil))) ih
end
end D3
set_option maxRecDepth 100000
set_option maxHeartbeats 1000000
namespace D3
open PySem PySem.Spec
open PyProof.Rows hiding St
open L2 hiding St
section
variable{X:Cx}{k:Nat}
theorem Os(hr:Room k X.A):X.A.units+1<cLine:=by have:=hr.un;omega
theorem M5(hr:Room k X.A):OpR X (compareOp .NotIn) (fun x y H Q=>∃a kvs ks b,y=.ref a∧H a=some (.dT kvs)∧x=.ref b∧H b=some (.tup (ks.map kV))∧Q (.bl (!(Ci kvs ks).isSome)) H):=by
 intro pins s σ H x y v u Q I rx ry h
 obtain⟨a,kvs,ks,b,rfl,ea,rfl,eb,q⟩:=h
 obtain rfl:u=Value.ref a:=ry
 exact Rx (Os hr) I (DGet.t ea eb) rx fun s' I'=>⟨.bl _,H,I',rfl,q⟩
theorem Mx(hr:Room k X.A):PSet X (fun o i v H Q=>∃a kvs ks b,o=.ref a∧H a=some (.dT kvs)∧i=.ref b∧H b=some (.tup (ks.map kV))∧kvs.length<sizeLine∧Q (upd H a (.dT (Cj kvs ks v)))):=by
 intro pins s σ H o i v ov iv u Q I ro ri rv h
 obtain⟨a,kvs,ks,b,rfl,ea,rfl,eb,hl,q⟩:=h
 obtain rfl:ov=Value.ref a:=ro
 exact Nq (Os hr) I (DPut.t ea eb hl) ri rv fun s' I'=>⟨_,I',q⟩
theorem F2{pins:List (Addr×Obj)}{σ:L2.St}{H:Hp}{s:Shared}{A:Around}{E:Value→Shared→Prop}{a b:Addr}{kvs:List (List Key×V)}{ks:List Key}{v:V}{r:Value}{Q:Unit→Shared→Prop}(hu:(tupleKind (Ax X.prog X.w)).room A)(I:Inv X pins σ H s)(e:H a=some (.dT kvs))(eb:H b=some (.tup (ks.map kV)))(l:kvs.length<sizeLine)(rv:RelV v r)(h:∀s',Inv X pins σ (upd H a (.dT (Cj kvs ks v))) s'→(∀c o,c≠a→s.heap.get? c=some o→s'.heap.get? c=some o)→Q () s'):wpAny (model X.prog X.w) A (dictSet a (.ref b) r) Q E s:=by
 obtain⟨z,hd,xs,rel,dd⟩:=Sr I.hok e
 have hz:xs.length≤sizeLine:=by rw[←Paired.length rel];exact z
 have hl:(Cj kvs ks v).length≤sizeLine:=by have:=Cf kvs ks v;omega
 refine wpAny_dictSet_heap (hsz:=hz) hu (Hu I.hok eb) dd fun h' dd' hs=>h _ ?_ fun c o hc eo=>(hs.2 c hc).trans eo
 obtain⟨q,es,ep,hq,h2,h3,h4,_,h5⟩:=dd'
 refine Ib I (by rw[e];exact True.intro) hs ⟨q,hq⟩ ⟨hl,hd,_,(rel.put ks eb rv).keeps fun c ys ec=>?_,q,es,ep,hq,h2,h3,h4,h5⟩
 rw[Al (Lr ec e (fun z=>nomatch z))]
 exact ec
end
theorem Qa{P:Program}{w:World}{A:Around}{E:Value→Shared→Prop}{s:Shared}{env:Env}{k v:Expr}{pos:Pos}{Q:Value→Shared→Prop}(h:wpAny (model P w) A (eval k env) (fun kv s1=>wpAny (model P w) A (eval v env) (fun vv s2=>wpAny (model P w) A (dictSet s.heap.objs.size kv vv) (fun _ s3=>Q (.ref s.heap.objs.size) s3) E s2) E s1) E
   { s with heap:=s.heap.push { cls:=.type "dict",data:=.dict #[] } }):wpAny (model P w) A (eval (.Dict [some k] [v] pos) env) Q E s:=by
 rw[arm_eval_Dict,zip_pairTrees [some k] [v] env pos rfl rfl,dictDisplay_pairs _ (by intro z;cases z) (by rw[pairTrees_length [some k] [v] env pos rfl rfl];exact(by decide:1<17))]
 refine wpAny_bind (wpAny_standAt (wpAny_bind ?_))
 unfold subDict
 refine wpAny_bind (wpAny_alloc (wpAny_bind (wpAny_holding ?_)))
 rw[if_pos (by rw[pairTrees_length [some k] [v] env pos rfl rfl];exact(by decide:1≤15))]
 refine wpAny_bind (pairTrees_cons_walk (wpAny_mono h (fun kv s1 h1=>wpAny_mono h1 (fun vv s2 h2=>pairTrees_nil_walk ?_) fun _ _ e=>e) fun _ _ e=>e))
 refine wpAny_holding (wpAny_bind ?_)
 rw[List.forIn_cons]
 refine wpAny_bind (wpAny_bind (wpAny_mono h2 (fun _ s3 h3=>wpAny_pure ?_) fun _ _ e=>e))
 dsimp only
 rw[List.forIn_nil]
 exact wpAny_pure (wpAny_pure (wpAny_pure (wpAny_pure h3)))
section
variable{X:Cx}{k:Nat}
def Tf(tk tv:TE):TE:=fun σ H Q=>∀p,H p=none→tk σ (upd H p (.dT [])) fun x H1=>tv σ H1 fun y H2=>H2 p=some (.dT [])∧∃b ks,x=.ref b∧H2 b=some (.tup (ks.map kV))∧Q (.ref p) (upd H2 p (.dT [(ks,y)]))
theorem Ti(hr:Room k X.A):(tupleKind (Ax X.prog X.w)).room X.A:=show X.A.units<cLine by have:=hr.un;omega
theorem Pk{a b:Expr}{ta tb:TE}{pos:Pos}(hr:Room k X.A)(ha:PE X a ta)(hb:PE X b tb):PE X (.Dict [some a] [b] pos) (Tf ta tb):=by
 intro pins s σ H Q I q
 have hn:=I.hok.fresh (Nat.le_refl s.heap.objs.size)
 have I1:=I.laid (a:=s.heap.objs.size) (o:=.dT []) (h':=s.heap.push { cls:=.type "dict",data:=.dict #[] }) (t':=s.toks) (fun _ _ q=>Heap.get?_push_of_some _ q) (Nat.le_refl _) (Jx s.heap I.big)
 refine Qa (thn (ha pins _ σ _ _ I1 (q _ hn)) fun u s1 ⟨x,H1,I2,rx,q1⟩=>thn (hb pins s1 σ H1 _ I2 q1) fun u2 s2 ⟨y,H2,I3,ry,e0,c,ks,ex,ec,q2⟩=>?_)
 subst ex
 obtain rfl:u=Value.ref c:=rx
 exact F2 (Ti hr) I3 e0 ec (by decide +kernel) ry fun s3 I4 _=>⟨.ref s.heap.objs.size,_,I4,rfl,q2⟩
end
theorem Dv:entryFor table "dict.update.loop" = some Builtin.«dict.update.loop»:=entryFor_of_tree (by kernel_rfl)
theorem Bt:plainId "dict.update.loop" = true:=by decide +kernel
theorem Io:typeLookup (.type "list") "keys" = pure none:=by rw[typeLookup_type,builtinLookup_eq_fast];kernel_rfl
theorem Kb{P:Program}{w:World}{A:Around}{E:Value→Shared→Prop}{s:Shared}{a:Addr}{o:Obj}{xs:Array Value}{k:Nat}{Q:Option Value→Shared→Prop}(hx:s.heap.get? a=some o)(hc:o.cls=.type "list")(hdat:o.data=.seq xs k)(hd:o.dict=none)(hA:A.handled=none)(h:∀h' tk,(∀b o,s.heap.get? b=some o→h'.get? b=some o)→Q none { s with heap:=h',toks:=tk }):wpAny (model P w) A (getAttr? (.ref a) "keys") Q E s:=by
 obtain⟨c,dct,dat,sl⟩:=o
 simp only at hc hdat hd
 subst hc hdat hd
 obtain⟨hp,g,d,tk,os⟩:=s
 have hT:∀tk',(⟨hp,g,d,tk',os⟩:Shared).TypeIs (.ref a) "list":=fun _=>⟨_,hx,rfl⟩
 have f1:=sub_AttributeError
 have f3:=F.slot_list_getattribute.lookup
 have f4:=F.slot_list_getattribute.bind (.ref a)
 have f5:=am_list_getattr_none
 have miss:=meets_getattribute_miss_list a xs k sl "keys" (hmiss:=Io) (hname:=by decide)
 unfold getAttr? getAttrBy? getAttrBy
 repeat (any_goals (first|assumption|exact hT _|((with_reducible show wpAny _ _ (call (Value.builtin "list.__getattribute__") _ _) _ _ _);refine call_meets F.slot_list_getattribute (hT _) am_entry_list_getattribute (F.args_list_getattribute_2 _ _) (miss _) ⟨hx,hA,fun h' tk' e hx'=>?_⟩)|wp_step))
 obtain⟨t',u',he⟩:=hx'.there
 show wpAny _ _ (getattributeRaised _ _ _ _ _ _ _) _ _ _
 unfold getattributeRaised
 have hE:∀tk',(⟨h',g,d,tk',os⟩:Shared).TypeIs (.ref e) "AttributeError":=fun _=>⟨_,he,rfl⟩
 repeat (any_goals (first|assumption|exact hE _|exact h _ _ hx'.of.keeps|wp_step))
abbrev Ie(H:Hp):List V→List (List Key×V)→Prop:=Paired fun y e=>∃b c,y=.ref b∧H b=some (.tup [.ref c,e.2])∧H c=some (.tup (e.1.map kV))
def Dz(acc es:List (List Key×V)):List (List Key×V):=es.foldl (fun acc e=>Cj acc e.1 e.2) acc
theorem Du:∀(es acc:List (List Key×V)),(Dz acc es).length≤acc.length+es.length
 |[],acc=>Nat.le_refl _
 |p::r,acc=>by
  have h1:=Du r (Cj acc p.1 p.2)
  have h2:=Cf acc p.1 p.2
  show(Dz (Cj acc p.1 p.2) r).length≤_
  rw[List.length_cons];omega
theorem Gr{α β:Type}{R:α→β→Prop}:∀{as:List α} {bs:List β} {i:Nat} {a:α},Paired R as bs→as[i]? = some a→∃b,bs[i]? = some b∧R a b
 |_,_,_,_,.nil,e=>by simp at e
 |_,_,0,_,.cons h _,e=>by simp at e;subst e;exact⟨_,rfl,h⟩
 |_,_,i+1,a,.cons _ t,e=>by
  obtain⟨b,h1,h2⟩:=Gr (i:=i) (a:=a) t (by simpa using e)
  exact⟨b,by simpa using h1,h2⟩
section
variable{X:Cx}{pins:List (Addr×Obj)}{σ:L2.St}{H:Hp}{p a it:Addr}{ys:List V}{es:List (List Key×V)}
theorem O5{A:Around}{R:Result→Shared→Prop}(hu:A.units+1<cLine)(hh:A.handled=none)(hp:H p=none)(hy:SqL X.K H a ys)(pr:Ie H ys es)(hz:es.length<sizeLine)(q:∀s',Inv X pins σ (upd H p (.dT (Dz [] es))) s'→R (.ok (.ret .none)) s'):∀(m i:Nat) (s:Shared) (acc:List (List Key×V)),m+i=ys.length→acc=Dz [] (es.take i)→Inv X pins σ (upd H p (.dT acc)) s→E3 X pins (upd H p (.dT acc)) it→s.heap.IsListIter it a i→
   codeAny (model X.prog X.w) A (.builtin "dict.update.loop" ⟨[.ref p,.ref it,rawInt i,.none],[]⟩) R s:=by
 have hne:∀{b:Addr} {o u:HO},H b=some o→upd H p u b=some o:=fun {b o u} e=>by rw[Al (Aw e hp)];exact e
 have hy':∀u,SqL X.K (upd H p u) a ys:=fun u=>hy.elim (fun h=>.inl (h.elim (fun e=>.inl (hne e)) fun⟨o,e⟩=>.inr ⟨o,hne e⟩)) .inr
 intro m
 induction m with
 |zero=>
  intro i s acc hm hacc I hf st
  obtain⟨its,rv,pl,hz'⟩:=I.list (hy' _)
  obtain⟨f0,f1,f2,f3,f4,f5⟩:=hf
  have hl:=rv.length
  refine codeAny_builtin Dv ?_
  rw[Around.under_plainId Bt _]
  unfold Builtin.«dict.update.loop»
  refine wpAny_bind (wpAny_pyNext_list_end (A:=A.in1) hh st pl.isList (by simp;omega) fun h' eb=>?_)
  have I1:Inv X pins σ (upd H p (.dT acc)) { s with heap:=h' }:=I.turned (t':=s.toks) (fun b o hb e=>eb b o hb e) f0 f1 f3 f4 f5
  show wpAny _ _ (Builtin.Dict.addKeywords p [] >>= _) _ _ _
  refine wpAny_bind (wpAny_pure (wpAny_pure ?_))
  refine q _ ?_
  have e:acc=Dz [] es:=by rw[hacc,List.take_of_length_le (by have:=Paired.length pr;omega)]
  rw[←e];exact I1
 |succ m ih=>
  intro i s acc hm hacc I hf st
  obtain⟨its,rv,pl,hz'⟩:=I.list (hy' _)
  have hl:=rv.length
  have hi:i<ys.length:=by omega
  obtain⟨y,hyi⟩:∃y,ys[i]? = some y:=⟨ys[i],by simp[hi]⟩
  obtain⟨u,hu',ru⟩:=rv.get hyi
  obtain⟨e,hei,b,c,rfl,hb,hc⟩:=Gr pr hyi
  obtain rfl:u=Value.ref b:=ru
  obtain⟨f0,f1,f2,f3,f4,f5⟩:=id hf
  refine codeAny_builtin Dv ?_
  rw[Around.under_plainId Bt _]
  unfold Builtin.«dict.update.loop»
  refine wpAny_bind (wpAny_pyNext_list_item st pl.isList (x:=.ref b) (by simpa using hu') fun h' st' sb=>?_)
  have I1:Inv X pins σ (upd H p (.dT acc)) { s with heap:=h' }:=I.turned (t':=s.toks) (fun b o hb e=>(sb.2 b hb).trans e) f0 f1 f3 f4 f5
  obtain⟨_,tits,tr,o,ho,hcl,n,hdt⟩:=(show ObjOk X.prog X.w _ h' b (.tup _) from I1.hok b _ (hne hb))
  match tits,tr,hdt with
  |[_,v],.cons rfl (.cons rv2 .nil),hdt=>
   have hT:(⟨h',s.gens,s.drawn,s.toks,s.os⟩:Shared).TypeIs (.ref b) "tuple":=⟨_,ho,hcl⟩
   show wpAny _ _ (holding _ _ >>= _) _ _ _
   refine wpAny_bind (wpAny_holding (wpAny_bind (wpAny_tryCatch ?_)))
   unfold Builtin.Dict.pairItems
   refine wpAny_bind (wpAny_typeOf hT ?_)
   rw[if_pos (by decide)]
   refine wpAny_bind (wpAny_seqItems ho hdt (wpAny_pure ?_))
   show wpAny _ _ (holding [Value.ref c,v] (dictSet p (.ref c) v)) _ _ _
   have hlen:acc.length<sizeLine:=by
    have:=Du (es.take i) []
    rw[←hacc,List.length_take] at this
    simp at this;omega
   refine wpAny_holding (F2 (tupleKind_room_in1 hu) I1 A4 (hne hc) hlen rv2 fun s2 I2 kp=>?_)
   have hip:it≠p:=fun z=>by rw[z,A4] at f0;cases f0
   refine wpAny_pure ⟨plainId_quiet Bt _,?_⟩
   rw[Qt] at I2
   refine ih (i+1) s2 _ (by omega) ?_ I2 ⟨?_,f1,f2,f3,f4,f5⟩ (st'.at fun o e=>kp _ _ hip e)
   ·have et:es.take (i+1)=es.take i++[e]:=by rw[List.take_add_one,hei];rfl
    rw[et]
    show _=List.foldl _ _ _
    rw[List.foldl_append,hacc];rfl
   ·rw[Al hip];rw[Al hip] at f0;exact f0
theorem Ld{k:Nat}(hcalm:X.calm=true)(hr:Room k X.A):CallR X (.type "dict") (fun xs H Q=>∃(a:Addr) (ys:List V) (es:List (List Key×V)),xs=[.ref a]∧SqL X.K H a ys∧Ie H ys es∧es.length<sizeLine∧∀p,H p=none→Q (.ref p) (upd H p (.dT (Dz [] es)))):=by
 intro pins s σ H xs us Q I r h
 obtain⟨a,ys,es,rfl,hy,pr,hz,q⟩:=h
 obtain⟨u,rfl,rx⟩:=Fa r
 cases rx
 have hn:=I.hok.fresh (Nat.le_refl s.heap.objs.size)
 have I1:=I.laid (a:=s.heap.objs.size) (o:=.dT []) (h':=s.heap.push { cls:=.type "dict",data:=.dict #[] }) (t':=s.toks) (fun _ _ q=>Heap.get?_push_of_some _ q) (Nat.le_refl _) (Jx s.heap I.big)
 refine callType_codes (Q₁:=fun obj s₁=>obj=.ref s.heap.objs.size∧s₁={ s with heap:=s.heap.push { cls:=.type "dict",data:=.dict #[] } }) F.kt_called_dict (F.kt_typeCall_dict_1 _) F.entry_dict_init (kt_code_dict_new _ ⟨rfl,rfl⟩) ?_
 rintro obj s₁ ⟨rfl,rfl⟩
 have hty:({ s with heap:=s.heap.push { cls:=.type "dict",data:=.dict #[] } }:Shared).TypeIs (.ref s.heap.objs.size) "dict":=⟨_,Heap.get?_push_size _ rfl,rfl⟩
 refine⟨hty,F.args_dict_init_2 _ _,?_⟩
 unfold Builtin.«dict.__init__»
 refine wpAny_bind ?_
 unfold Builtin.Dict.selfAndRest
 refine wpAny_bind (wpAny_notOrdered_dict hty ?_)
 show wpAny _ _ (pure (s.heap.objs.size,[Value.ref a])) _ _ _
 refine wpAny_pure ?_
 show wpAny _ _ (Builtin.Dict.updateFrom "dict.__init__" s.heap.objs.size (.ref a) [] .none) _ _ _
 unfold Builtin.Dict.updateFrom
 have hy1:SqL X.K (upd H s.heap.objs.size (.dT [])) a ys:=hy.elim (fun h=>.inl (h.elim (fun e=>.inl (by rw[Al (Aw e hn)];exact e)) fun⟨o,e⟩=>.inr ⟨o,by rw[Al (Aw e hn)];exact e⟩)) .inr
 obtain⟨its,rv,pl,hz'⟩:=I1.list hy1
 obtain⟨o,n,ho,hcl,hdc,hdt⟩:=id pl
 refine wpAny_bind (wpAny_typeOf (show({ s with heap:=s.heap.push { cls:=.type "dict",data:=.dict #[] } }:Shared).TypeIs (.ref a) "list" from⟨_,ho,hcl⟩) ?_)
 rw[if_pos (by decide)]
 refine wpAny_bind (Kb ho hcl hdt hdc (I.ok.hd hcalm) fun h2 tk kp2=>?_)
 have I2:Inv X pins σ (upd H s.heap.objs.size (.dT [])) { s with heap:=h2,toks:=tk }:=I1.kept (h':=h2) (t':=tk) kp2
 obtain⟨its2,rv2,pl2,_⟩:=I2.list hy1
 show wpAny _ _ (rule _ >>= _) _ _ _
 refine wpAny_bind (wpAny_rule (wpAny_bind (wpAny_pyIter_list pl2.isList (wpAny_pure ⟨plainId_quiet Bt _,?_⟩))))
 have st0:Heap.IsListIter (h2.push { cls:=.type "list_iterator",data:=.fields #[.ref a,.int 0 0] }) h2.objs.size a 0:=⟨_,Heap.get?_push_size _ rfl,rfl,rfl⟩
 have I3:Inv X pins σ (upd H s.heap.objs.size (.dT [])) { s with heap:=h2.push { cls:=.type "list_iterator",data:=.fields #[.ref a,.int 0 0] },toks:=tk }:=I2.kept (t':=tk) fun b o e=>Heap.get?_push_of_some _ e
 have f3:E3 X pins (upd H s.heap.objs.size (.dT [])) h2.objs.size:=I2.fpOk (Nat.le_refl _) (I2.hok.fresh (Nat.le_refl _))
 have L:=fun R q=>O5 (X:=X) (A:=X.A.in1) (R:=R) (p:=s.heap.objs.size) (it:=h2.objs.size) (pins:=pins) (σ:=σ) (show X.A.units+1+1<cLine by have:=hr.un;omega) (I.ok.hd hcalm) hn hy pr hz q ys.length 0 _ [] (by omega) rfl I3 f3 st0
 exact L _ fun s' I'=>⟨rfl,.ref s.heap.objs.size,_,I',rfl,q _ hn⟩
end
end D3
set_option maxRecDepth 100000
set_option maxHeartbeats 1000000
namespace D3
open PySem PySem.Spec
open PyProof.Rows hiding St
open L2 hiding St
def Ls:List D→Option (List Key)
 |[]=>some []
 |d::r=>match S2 d,Ls r with
  |some k,some ks=>some (k::ks)
  |_,_=>none
def Gf:D→Option (List Key)
 |.tup ds=>Ls ds
 |_=>none
theorem Jr{K:W.Frag}{H:Hp}:∀{ds:List D} {ks:List Key} {vs:List V},Ls ds=some ks→DVs K H ds vs→vs=ks.map kV
 |[],_,_,e,.nil=>by cases e;rfl
 |d::r,ks,_,e,.cons h t=>by
  simp only[Ls] at e
  split at e
  ·rename_i k ks' h1 h2
   cases e
   rw[List.map_cons,Rt h1 h,Jr h2 t]
  ·cases e
theorem Ec{K:W.Frag}{H:Hp}{d:D}{v:V}{k:List Key}(e:Gf d=some k)(dv:DV K H d v):∃b,v=.ref b∧H b=some (.tup (k.map kV)):=by
 cases dv with
 |tup e' r=>exact⟨_,rfl,by rw[←Jr e r];exact e'⟩
 |_=>cases e
theorem K0{H:Hp}{p:Addr}{ks:List (List Key×V)}{u:HO}(e:H p=some (.dT ks)):Ext H (upd H p u):=Ext.write e (fun xs z=>by cases z) (fun ob w z=>by cases z)
theorem RelG.dtW{K:W.Frag}{H:Hp}{G:Gp}(r:RelG K H G){p:Addr}{ks ks':List (List Key×V)}{kvs':List (List Key×D)}(e:H p=some (.dT ks))(pr:Paired (Ent (List Key) K H) kvs' ks'):RelG K (upd H p (.dT ks')) (Ae G p (.dct kvs')):=by
 have x:Ext H (upd H p (.dT ks')):=K0 e
 intro a o ea
 by_cases ha:a=p
 ·subst ha
  rw[Aa] at ea
  cases ea
  exact⟨ks',A4,L2.Paired.mapP pr fun _ _ z=>⟨z.1,z.2.ext x⟩⟩
 ·rw[Am ha] at ea
  exact(r a o ea).upd x (.inr ha)
theorem RelG.dtN{K:W.Frag}{H:Hp}{G:Gp}(r:RelG K H G){p:Addr}{ks:List (List Key×V)}{kvs:List (List Key×D)}(hp:H p=none)(pr:Paired (Ent (List Key) K H) kvs ks):RelG K (upd H p (.dT ks)) (Ae G p (.dct kvs)):=by
 intro a o ea
 by_cases ha:a=p
 ·subst ha
  rw[Aa] at ea
  cases ea
  exact⟨ks,A4,L2.Paired.mapP pr fun _ _ z=>⟨z.1,z.2.ext (Ext.fresh hp)⟩⟩
 ·rw[Am ha] at ea
  exact(r a o ea).upd (Ext.fresh hp) (.inl hp)
section
variable{X:Cx}{n:Nat}{a b:Expr}{ta tb:DTE}{pos:Pos}
def Vd(neg:Bool):DR2:=fun x y G Q=>∃p,y=.ref p∧∃kvs,G p=some (.dct kvs)∧∃k,Gf x=some k∧Q (.bl (if neg=true then !(Eh kvs k).isSome else (Eh kvs k).isSome)) G
theorem Pv(hr:Room n X.A):QOp X (compareOp .NotIn) (Vd true):=L2.OpR.imp (M5 hr) fun x y H Q ⟨dx,dy,G,Q',hx,hy,rg,⟨p,ep,kvs,eg,k,ek,q⟩,cl⟩=>by
 subst ep
 cases hy
 obtain⟨ks,eh,r⟩:=rg p _ eg
 obtain⟨c,rfl,ec⟩:=Ec ek hx
 exact⟨p,ks,k,c,rfl,eh,rfl,ec,by rw[isSome_eq r];exact cl _ _ q H (Ext.refl H) rg _ (.bl _)⟩
def Og:Gi:=fun o i v G Q=>∃p,o=.ref p∧∃k,Gf i=some k∧∃kvs,G p=some (.dct kvs)∧kvs.length<sizeLine∧Q (Ae G p (.dct (Ko kvs k v)))
theorem Lx(hr:Room n X.A):S9 X Og:=(Mx hr).imp fun o i v H Q ⟨d1,d2,d3,G,Q',h1,h2,h3,rg,⟨p,e1,k,ek,kvs,eg,hl,q⟩,cl⟩=>by
 subst e1
 cases h1
 obtain⟨ks,eh,r⟩:=rg p _ eg
 obtain⟨c,rfl,ec⟩:=Ec ek h2
 exact⟨p,ks,k,c,rfl,eh,rfl,ec,by rw[←Mc r];exact hl,cl _ q _ (K0 eh) (rg.dtW eh (Ma h3 r))⟩
def Oz(tk tv:DTE):DTE:=fun σ G Q=>∀p,G p=none→tk σ (Ae G p (.dct [])) fun x G1=>tv σ G1 fun y G2=>G2 p=some (.dct [])∧∃k,Gf x=some k∧Q (.ref p) (Ae G2 p (.dct [(k,y)]))
theorem Q4(hr:Room n X.A)(ha:QE X a ta)(hb:QE X b tb):QE X (.Dict [some a] [b] pos) (Oz ta tb):=(Pk hr ha hb).imp fun σ H Q ⟨σD,G,Q',rs,rg,h,cl⟩=>by
 intro p hp
 refine⟨σD,_,_,rs.ext (Ext.fresh hp),rg.dtN hp .nil,h p (rg.free hp),fun x G1 h1 H1 x1 rg1 v dv=>?_⟩
 refine⟨σD,G1,_,(rs.ext (Ext.fresh hp)).ext x1,rg1,h1,fun y G2 ⟨eg,k,ek,q⟩ H2 x2 rg2 v2 dv2=>?_⟩
 obtain⟨ks,eh,r⟩:=rg2 p _ eg
 cases r
 obtain⟨c,rfl,ec⟩:=Ec ek (dv.ext x2)
 refine⟨eh,c,k,rfl,ec,cl _ _ q _ (((Ext.fresh hp).trans x1).trans (x2.trans (K0 eh))) (rg2.dtW eh (.cons ⟨rfl,dv2⟩ .nil)) _ (.ref p)⟩
def Dy:List D→Option (List (List Key×D))
 |[]=>some []
 |.tup [x,y]::r=>match Gf x,Dy r with
  |some k,some es=>some ((k,y)::es)
  |_,_=>none
 |_=>none
theorem Gq{K:W.Frag}{H:Hp}:∀{ds:List D} {es:List (List Key×D)} {vs:List V},Dy ds=some es→DVs K H ds vs→∃es':List (List Key×V),Ie H vs es'∧Paired (Ent (List Key) K H) es es'
 |[],_,_,e,.nil=>by cases e;exact⟨[],.nil,.nil⟩
 |.tup [x,y]::r,es,_,e,.cons h t=>by
  simp only[Dy] at e
  split at e
  ·rename_i k es' h1 h2
   cases e
   cases h with
   |tup e' rr=>
    obtain⟨v,w,rfl,dx,dy⟩:=rr.two
    obtain⟨es2,p1,p2⟩:=Gq h2 t
    obtain⟨c,rfl,ec⟩:=Ec h1 dx
    exact⟨(k,w)::es2,.cons ⟨_,c,rfl,e',ec⟩ p1,.cons ⟨rfl,dy⟩ p2⟩
  ·cases e
def Hs(acc es:List (List Key×D)):List (List Key×D):=es.foldl (fun acc e=>Ko acc e.1 e.2) acc
theorem Hd{K:W.Frag}{H:Hp}:∀{es:List (List Key×D)} {es':List (List Key×V)},Paired (Ent (List Key) K H) es es'→∀{acc:List (List Key×D)} {acc':List (List Key×V)},Paired (Ent (List Key) K H) acc acc'→Paired (Ent (List Key) K H) (Hs acc es) (Dz acc' es')
 |_,_,.nil,_,_,r=>r
 |(a,x)::_,_,.cons (b:=(b,y)) h t,acc,acc',r=>by
  cases(show a=b from h.1)
  exact Hd t (Ma h.2 r)
theorem R5(hcalm:X.calm=true)(hr:Room n X.A):QC X (.type "dict") (fun ds G Q=>∃d,ds=[d]∧∃l,d=.ref l∧∃its,G l=some (.lst its)∧∃es,Dy its=some es∧es.length<sizeLine∧∀p,G p=none→Q (.ref p) (Ae G p (.dct (Hs [] es)))):=
 (Ld hcalm hr).imp fun xs H Q ⟨ds,G,Q',dv,rg,⟨d,e,l,el,its,eg,es,ee,hz,q⟩,cl⟩=>by
 subst e el
 obtain⟨v,rfl,h⟩:=dv.one
 cases h
 obtain⟨ys,ey,r⟩:=rg l _ eg
 obtain⟨es',p1,p2⟩:=Gq ee r
 exact⟨l,ys,es',rfl,.inl (.inl ey),p1,by rw[←Mc p2];exact hz,fun p hp=>cl _ _ (q p (rg.free hp)) _ (Ext.fresh hp) (rg.dtN hp (Hd p2 .nil)) _ (.ref p)⟩
end
def Ba(rs:List (Int×Int)):GO:=.dct (rs.map fun c=>(Ao c,D.bl true))
theorem Hf{a b:Int×Int}(h:Ao a=Ao b):a=b:=by
 unfold Ao at h
 simp only[List.cons.injEq,Sum.inl.injEq,and_true] at h
 exact Prod.ext h.1 h.2
theorem C4{c:Int×Int}:Gf (Ag c)=some (Ao c):=rfl
theorem Gj{c:Int×Int}:∀{rs:List (Int×Int)},(Eh (rs.map fun c=>(Ao c,D.bl true)) (Ao c)).isSome=decide (c∈rs)
 |[]=>by simp[Eh]
 |x::r=>by
  unfold Eh
  rw[List.map_cons,List.find?_cons]
  by_cases h:x=c
  ·subst h;simp
  ·have h':Ao x≠Ao c:=fun z=>h (Hf z)
   have:=Gj (c:=c) (rs:=r)
   unfold Eh at this
   simp only[h',decide_false] at *
   rw[this]
   simp[Ne.symm h]
def Ck(rs:List (Int×Int))(c:Int×Int):List (Int×Int):=if c∈rs then rs else rs++[c]
theorem Ep{c:Int×Int}{rs:List (Int×Int)}:Ko (rs.map fun c=>(Ao c,D.bl true)) (Ao c) (D.bl true)=(Ck rs c).map fun c=>(Ao c,D.bl true):=by
 unfold Ko Ck
 have e:((rs.map fun c=>(Ao c,D.bl true)).any fun kv=>decide (kv.1=Ao c))=decide (c∈rs):=by
  rw[List.any_map,Bool.eq_iff_iff]
  simp only[List.any_eq_true,Function.comp_apply,decide_eq_true_eq]
  exact⟨fun⟨x,hx,e⟩=>Hf e ▸ hx,fun h=>⟨c,h,rfl⟩⟩
 rw[e]
 by_cases h:c∈rs
 ·rw[if_pos (by simpa using h),if_pos h,List.map_map]
  refine List.map_congr_left fun x _=>?_
  show(if Ao x=Ao c then _ else _)=_
  split<;>rfl
 ·rw[if_neg (by simpa using h),if_neg h,List.map_append];rfl
end D3
set_option maxRecDepth 100000
set_option maxHeartbeats 4000000
namespace K2
open PySem L2 D3
def top(i:Nat):Stmt:=PySem.Challenge.pw_laidmarks_k02_drift.main.body.getD i (.Pass ⟨0,0,0,0⟩)
abbrev Jz:List Str:=["len", "range", "abs", "divmod", "max", "min", "tuple", "int", "bool", "list", "isinstance", "all", "sorted", "repr", "dict"]
theorem exPow{p:Int→Int→Prop}{i j:Int}:(∃a b,D.int i=D.int a∧D.int j=D.int b∧p a b)↔p i j:=⟨fun⟨_,_,e1,e2,h⟩=>by cases e1;cases e2;exact h,fun h=>⟨i,j,rfl,rfl,h⟩⟩
theorem Dm{α:Type}{xs:List α}{i:Int}(h0:0≤i)(h1:i<xs.length):∃x,atI xs i=some x∧x∈xs:=by
 obtain⟨k,rfl⟩:=Int.eq_ofNat_of_zero_le h0
 have hk:k<xs.length:=by omega
 exact⟨xs[k],Cd (List.getElem?_eq_getElem hk),List.getElem_mem hk⟩
section
variable{P:Program}{w:World}{K:W.Frag}{mg:Str→Option Value}{base:Heap}
structure Blt(mg:Str→Option Value):Prop where
 blt:∀{x:Str},x∈Jz→mg x=none
def Ez(o:Option GO):Prop:=∃b c,o=some (.lst [.int b,.int c])
abbrev s_L_box:Stmt:=top 29
abbrev Sa:List Str:=["_law_script", "_law_k", "_law_here", "_law_number", "_law_j", "_law_piece"]
abbrev p_L_box:List Str:=["_law_script", "_law_k"]
theorem sc_L_box:FnScope Sa p_L_box (Ah s_L_box):=⟨rfl,rfl,rfl,by decide +kernel,rfl,by decide +kernel,by decide +kernel⟩
def spBox:DSp:=fun ds G Q _=>∃ns k,ds=[.lint ns,.int k]∧(0≤k∧k<1000)∧∀p,G p=none→∀b c,Q (.ref p) (Ae G p (.lst [.int b,.int c]))
theorem Uf{f:Addr}{fd:FuncData}(F:Fun K "_law_box" "_law_box" s_L_box f fd)(T:Blt mg):FnOk P w K mg base CX0 1 f fd p_L_box (Ap K spBox):=by
 refine okD F sc_L_box (fun ds G Q E h=>?_) (fun cdv A outer s H XE ds G Q E hr h=>?_)
 ·obtain⟨ns,k,rfl,_⟩:=h;rfl
 ·obtain⟨ns,k,rfl,⟨k0,k1⟩,q⟩:=h
  refine⟨_,(@qss_cons _ _ _ _ _ (@Av _ _ _ _ 2 _ _ sc_L_box.nd (@Az _ _ _ _ _ _ _ _ (@Be _) (@Az _ _ _ _ _ _ _ _ (@D4 _) (@Ad _ _ _ _) (@q_v1 _ _ 1 _ (by exact⟨rfl,rfl,rfl,rfl⟩))) (@Ad _ _ _ _)) (by rfl) (by exact .inl rfl) (by rfl) (by exact .inl rfl)) (@qss_cons _ _ _ _ _ (@Ou _ _ _ _ _ _ _ _ (@B7 _ _ _ _ _ _ _ _ (@Qm _) (@q_v1 _ _ 1 _ (by exact⟨rfl,rfl,rfl,rfl⟩)) (@q_callB _ _ _ _ _ _ _ _ _ (@c_len _) (T.blt (by decide)) (by decide +kernel) (@qa_consP _ _ _ _ _ (@q_v1 _ _ 0 _ (by exact⟨rfl,rfl,rfl,rfl⟩)) (@qa_nil _) (by rfl)) (by rfl) (by decide) (by decide) (by rfl) (by rfl)) (Bz _)) (@qss_one _ _ _ (@Av _ _ _ _ 2 _ _ sc_L_box.nd (@Bp _ _ _ _ _ _ (@q_v1 _ _ 0 _ (by exact⟨rfl,rfl,rfl,rfl⟩)) (@q_v1 _ _ 1 _ (by exact⟨rfl,rfl,rfl,rfl⟩)) (by intro _ _ ;rfl)) (by rfl) (by exact .inl rfl) (by rfl) (by exact .inl rfl))) (@qss_nil _)) (@qss_cons _ _ _ _ _ (@qs_if _ _ _ _ _ _ _ _ (@B7 _ _ _ _ _ _ _ _ (@Qn _) (@Az _ _ _ _ _ _ _ _ (@Ds _) (@q_v1 _ _ 2 _ (by exact⟨rfl,rfl,rfl,rfl⟩)) (@Ad _ _ _ _)) (@Ad _ _ _ _) (Bz _)) (@qss_one _ _ _ (@qs_ret _ _ _ _ (@B0 _ _ _ _ (@qa_consP _ _ _ _ _ (@Az _ _ _ _ _ _ _ _ (@Oy _) (@q_v1 _ _ 2 _ (by exact⟨rfl,rfl,rfl,rfl⟩)) (@Ad _ _ _ _)) (@qa_consP _ _ _ _ _ (@Az _ _ _ _ _ _ _ _ (@Ds _) (@q_callB _ _ _ _ _ _ _ _ _ (@Sv _) (T.blt (by decide)) (by decide +kernel) (@qa_consP _ _ _ _ _ (@q_v1 _ _ 2 _ (by exact⟨rfl,rfl,rfl,rfl⟩)) (@qa_nil _) (by rfl)) (by rfl) (by decide) (by decide) (by rfl) (by rfl)) (@Ad _ _ _ _)) (@qa_nil _) (by rfl)) (by rfl))))) (@qss_nil _)) (@qss_cons _ _ _ _ _ (@Av _ _ _ _ 3 _ _ sc_L_box.nd (@Ad _ _ _ _) (by rfl) (by exact .inl rfl) (by rfl) (by exact .inl rfl)) (@qss_cons _ _ _ _ _ (@C1 _ _ _ _ _ _ _ _ _ _ PassesOwn.never rfl (T.blt (by decide)) (@qa_consP _ _ _ _ _ (@Ad _ _ _ _) (@qa_nil _) (by rfl)) (@qg_name _ _ 4 _ sc_L_box.nd (by rfl) (by exact .inl rfl) (by exact .inl rfl)) (@qss_cons _ _ _ _ _ (@Av _ _ _ _ 5 _ _ sc_L_box.nd (@Az _ _ _ _ _ _ _ _ (@Ds _) (@Az _ _ _ _ _ _ _ _ (@Be _) (@Az _ _ _ _ _ _ _ _ (@Be _) (@Az _ _ _ _ _ _ _ _ (@D4 _) (@Az _ _ _ _ _ _ _ _ (@Ds _) (@q_v1 _ _ 2 _ (by exact⟨rfl,rfl,rfl,rfl⟩)) (@Ad _ _ _ _)) (@Ad _ _ _ _)) (@Az _ _ _ _ _ _ _ _ (@D4 _) (@Ad _ _ _ _) (@q_v1 _ _ 4 _ (by exact⟨rfl,rfl,rfl,rfl⟩)))) (@Ad _ _ _ _)) (@Ad _ _ _ _)) (by rfl) (by exact .inl rfl) (by rfl) (by exact .inl rfl)) (@qss_cons _ _ _ _ _ (@Av _ _ _ _ 5 _ _ sc_L_box.nd (@Az _ _ _ _ _ _ _ _ (@Ds _) (@Az _ _ _ _ _ _ _ _ (@D4 _) (@q_v1 _ _ 5 _ (by exact⟨rfl,rfl,rfl,rfl⟩)) (@q_v1 _ _ 5 _ (by exact⟨rfl,rfl,rfl,rfl⟩))) (@Ad _ _ _ _)) (by rfl) (by exact .inl rfl) (by rfl) (by exact .inl rfl)) (@qss_one _ _ _ (@Av _ _ _ _ 3 _ _ sc_L_box.nd (@Az _ _ _ _ _ _ _ _ (@Be _) (@Az _ _ _ _ _ _ _ _ (@D4 _) (@q_v1 _ _ 3 _ (by exact⟨rfl,rfl,rfl,rfl⟩)) (@Ad _ _ _ _)) (@Az _ _ _ _ _ _ _ _ (@Ds _) (@Az _ _ _ _ _ _ _ _ (@D4 _) (@q_v1 _ _ 5 _ (by exact⟨rfl,rfl,rfl,rfl⟩)) (@Az _ _ _ _ _ _ _ _ (@Be _) (@q_v1 _ _ 5 _ (by exact⟨rfl,rfl,rfl,rfl⟩)) (@Ad _ _ _ _))) (@Ad _ _ _ _))) (by rfl) (by exact .inl rfl) (by rfl) (by exact .inl rfl))))) (by rfl) (by rfl) (by intro _ ;rfl)) (@qss_one _ _ _ (@qs_ret _ _ _ _ (@B0 _ _ _ _ (@qa_consP _ _ _ _ _ (@q_v1 _ _ 3 _ (by exact⟨rfl,rfl,rfl,rfl⟩)) (@qa_consP _ _ _ _ _ (@Az _ _ _ _ _ _ _ _ (@Ds _) (@q_callB _ _ _ _ _ _ _ _ _ (@Sv _) (T.blt (by decide)) (by decide +kernel) (@qa_consP _ _ _ _ _ (@q_v1 _ _ 2 _ (by exact⟨rfl,rfl,rfl,rfl⟩)) (@qa_nil _) (by rfl)) (by rfl) (by decide) (by decide) (by rfl) (by rfl)) (@Ad _ _ _ _)) (@qa_nil _) (by rfl)) (by rfl)))))))))),?_⟩
  obtain⟨k,rfl⟩:=Int.eq_ofNat_of_zero_le k0
  have sz:=sz2
  simp only[Bw,B5,nOp,nC,Au,As,List.map_cons,List.map_nil,List.length_cons,List.length_nil,Nat.zero_add,Nat.reduceAdd,Nat.reduceSub,List.replicate,List.cons_append,List.nil_append,List.getElem?_cons_succ,List.getElem?_cons_zero,Option.some.injEq,dI,D.int.injEq,CMul,Int.reducePow,Int.reduceNeg,A5,S1,B6,List.set_cons_succ,List.set_cons_zero,nCB,Ak,A0,List.cons.injEq,and_true,dI0,D.bl.injEq,dIx,exists_eq_left',Nl,B1,decide_eq_true_eq,Jq,Dx,dEq,eqS,B3,Ei,Kq,Int.reduceLT,true_and,and_assoc,Ey,Int.reduceLE,Int.reduceToNat,Ch,and_self,true_or]
  refine⟨fun σ G'=>∃n,σ=[some (.lint ns),some (.int k),some (.int n),none,none,none]∧G=G',?_,?_⟩
  ·by_cases h:k<ns.length
   ·refine it0 (by omega) ?_
    have e:ns[k]? = some ns[k]:=by simp[h]
    exact⟨_,U2 (by rw[List.getElem?_map,e];rfl),Fs.of ⟨_,rfl,rfl⟩⟩
   ·refine it1 (by omega) ?_
    exact Fs.of ⟨_,rfl,rfl⟩
  ·rintro σ' G' ⟨n,rfl,rfl⟩
   simp only[List.getElem?_cons_succ,List.getElem?_cons_zero,Option.some.injEq,sz,true_and,exists_eq_left',D.int.injEq,List.set_cons_succ,List.set_cons_zero]
   by_cases h:n % 2=0
   ·refine it0 h ?_
    exact fun p hp=>Fq.of (q p hp _ _)
   ·refine it1 h ?_
    refine Bj (fun i σ G'=>∃m v v',σ=[some (.lint ns),some (.int k),some (.int n),some (.int m),v,v']∧G=G') ⟨0,none,none,rfl,rfl⟩ ?_ ?_
    ·rintro i σ G' hi ⟨m,v,v',rfl,rfl⟩
     simp only[A5,Bw,B5,nOp,Au,List.set_cons_succ,List.set_cons_zero,List.getElem?_cons_succ,List.getElem?_cons_zero,Option.some.injEq,nC,dI,D.int.injEq,CMul,Int.reducePow,Int.reduceNeg,Ch,exists_eq_left',Int.reduceLT,true_and,and_self,or_true,true_or]
     have p1:∀x:Int,0≤x % 2147483647∧x % 2147483647<2147483647:=fun x=>⟨Int.emod_nonneg _ (by decide),Int.emod_lt_of_pos _ (by decide)⟩
     have p2:∀x:Int,0≤x % 2147483629∧x % 2147483629<2147483629:=fun x=>⟨Int.emod_nonneg _ (by decide),Int.emod_lt_of_pos _ (by decide)⟩
     exact⟨.inl ⟨Int.lt_of_lt_of_le (by decide) (p1 _).1,Int.lt_trans (p1 _).2 (by decide)⟩,.inl ⟨Int.lt_of_lt_of_le (by decide) (p2 _).1,Int.lt_trans (p2 _).2 (by decide)⟩,Fs.of ⟨_,_,_,rfl,rfl⟩⟩
    ·rintro σ G' ⟨m,v,v',rfl,rfl⟩
     simp only[B3,Ei,Ak,Au,List.getElem?_cons_succ,List.getElem?_cons_zero,Option.some.injEq,nOp,nCB,A0,List.cons.injEq,and_true,nC,dI,D.int.injEq,List.length_cons,List.length_nil,Nat.zero_add,Nat.reduceAdd,sz,true_and,exists_eq_left',Int.reduceLT]
     exact fun p hp=>Fq.of (q p hp _ _)
abbrev s_L_more:Stmt:=top 30
abbrev Qk:List Str:=["_law_box_here", "_law_number", "_law_j"]
abbrev Cs:List Str:=["_law_box_here"]
theorem sc_L_more:FnScope Qk Cs (Ah s_L_more):=⟨rfl,rfl,rfl,by decide +kernel,rfl,by decide +kernel,by decide +kernel⟩
def Hq:DSp:=fun ds G Q _=>∃a,ds=[.ref a]∧∃b c,G a=some (.lst [.int b,.int c])∧∀n c',Q (.int n) (Ae G a (.lst [.int b,.int c']))
theorem Rl{f:Addr}{fd:FuncData}(F:Fun K "_law_more" "_law_more" s_L_more f fd)(T:Blt mg):FnOk P w K mg base CX0 1 f fd Cs (Ap K Hq):=by
 refine okD F sc_L_more (fun ds G Q E h=>?_) (fun cdv A outer s H XE ds G Q E hr h=>?_)
 ·obtain⟨a,rfl,_⟩:=h;rfl
 ·obtain⟨a,rfl,b,c,hG,k⟩:=h
  refine⟨_,(@qss_cons _ _ _ _ _ (@Av _ _ _ _ 1 _ _ sc_L_more.nd (@Ad _ _ _ _) (by rfl) (by exact .inl rfl) (by rfl) (by exact .inl rfl)) (@qss_cons _ _ _ _ _ (@C1 _ _ _ _ _ _ _ _ _ _ PassesOwn.never rfl (T.blt (by decide)) (@qa_consP _ _ _ _ _ (@Ad _ _ _ _) (@qa_nil _) (by rfl)) (@qg_name _ _ 2 _ sc_L_more.nd (by rfl) (by exact .inl rfl) (by exact .inl rfl)) (@qss_cons _ _ _ _ _ (@C0 _ _ _ _ _ _ (@Az _ _ _ _ _ _ _ _ (@Ds _) (@Az _ _ _ _ _ _ _ _ (@Be _) (@Az _ _ _ _ _ _ _ _ (@D4 _) (@Bp _ _ _ _ _ _ (@q_v1 _ _ 0 _ (by exact⟨rfl,rfl,rfl,rfl⟩)) (@Ad _ _ _ _) (by intro _ _ ;rfl)) (@Ad _ _ _ _)) (@Ad _ _ _ _)) (@Ad _ _ _ _)) (@Fh _ _ _ _ _ _ _ (@q_v1 _ _ 0 _ (by exact⟨rfl,rfl,rfl,rfl⟩)) (@Ad _ _ _ _) (@Ku _) (by intro _ ;rfl)) (by rfl) (by rfl) (by rfl)) (@qss_one _ _ _ (@Av _ _ _ _ 1 _ _ sc_L_more.nd (@Az _ _ _ _ _ _ _ _ (@Be _) (@Az _ _ _ _ _ _ _ _ (@D4 _) (@q_v1 _ _ 1 _ (by exact⟨rfl,rfl,rfl,rfl⟩)) (@Ad _ _ _ _)) (@Az _ _ _ _ _ _ _ _ (@Ds _) (@Az _ _ _ _ _ _ _ _ (@Oy _) (@Bp _ _ _ _ _ _ (@q_v1 _ _ 0 _ (by exact⟨rfl,rfl,rfl,rfl⟩)) (@Ad _ _ _ _) (by intro _ _ ;rfl)) (@Ad _ _ _ _)) (@Ad _ _ _ _))) (by rfl) (by exact .inl rfl) (by rfl) (by exact .inl rfl)))) (by rfl) (by rfl) (by intro _ ;rfl)) (@qss_one _ _ _ (@qs_ret _ _ _ _ (@q_v1 _ _ 1 _ (by exact⟨rfl,rfl,rfl,rfl⟩)))))),?_⟩
  obtain⟨G,rfl⟩:=O0 hG
  simp only[Bw,B5,nC,A5,Ey,Ak,A0,List.cons.injEq,D.int.injEq,and_true,Int.reducePow,Int.reduceNeg,As,List.map_cons,List.map_nil,List.length_cons,List.length_nil,Nat.zero_add,Nat.reduceAdd,Nat.reduceSub,List.replicate,List.cons_append,List.nil_append,List.set_cons_succ,List.set_cons_zero,and_assoc,exists_eq_left',Int.reduceLE,Int.reduceLT,Int.reduceToNat,true_and]
  refine Bj (fun i σ G'=>∃c' n v,σ=[some (.ref a),some (.int n),v]∧G'=Ae G a (.lst [.int b,.int c'])) ⟨c,0,none,rfl,rfl⟩ ?_ ?_
  ·rintro i σ G' hi ⟨c',n,v,rfl,rfl⟩
   simp only[A5,Bw,B5,nOp,Au,List.set_cons_succ,List.set_cons_zero,List.getElem?_cons_zero,Option.some.injEq,nC,dIx,D.int.injEq,dI,CMul,Int.reducePow,Int.reduceNeg,N5,Oh,List.getElem?_cons_succ,Kq,Ch,exists_eq_left',Int.reduceLT,true_and,and_assoc,and_self,or_true,D.ref.injEq,By Aa,Aa,GO.lst.injEq,A6,List.length_cons,List.length_nil,Nat.zero_add,Nat.reduceAdd,ix1,atI1]
   exact Fs.of ⟨_,_,_,rfl,rfl⟩
  ·rintro σ G' ⟨c',n,v,rfl,rfl⟩
   simp only[B3,Au,List.getElem?_cons_succ,List.getElem?_cons_zero,Option.some.injEq,exists_eq_left']
   have k:=k n c'
   rw[A6] at k
   exact Fq.of k
abbrev s_L_take:Stmt:=top 31
abbrev Qj:List Str:=["_law_box_here", "_law_count", "_law_rest_of", "_law_digit"]
abbrev p_L_take:List Str:=["_law_box_here", "_law_count"]
theorem sc_L_take:FnScope Qj p_L_take (Ah s_L_take):=⟨rfl,rfl,rfl,by decide +kernel,rfl,by decide +kernel,by decide +kernel⟩
def spTake:DSp:=fun ds G Q _=>∃a c,ds=[.ref a,.int c]∧Ez (G a)∧(0<c∧c<1073741824)∧∀r b' c',0≤r→r<c→Q (.int r) (Ae G a (.lst [.int b',.int c']))
theorem Rk{f:Addr}{fd:FuncData}(F:Fun K "_law_take" "_law_take" s_L_take f fd)(T:Blt mg)(W7:Def P w K mg base CX0 1 "_law_more" Cs Hq):FnOk P w K mg base CX0 2 f fd p_L_take (Ap K spTake):=by
 refine okD F sc_L_take (fun ds G Q E h=>?_) (fun cdv A outer s H XE ds G Q E hr h=>?_)
 ·obtain⟨a,c,rfl,_⟩:=h;rfl
 ·obtain⟨a,c,rfl,⟨b,d,hG⟩,⟨c0,c1⟩,q⟩:=h
  refine⟨_,(@qss_cons _ _ _ _ _ (@qs_if _ _ _ _ _ _ _ _ (@qt_chain _ _ _ _ _ _ _ _ _ _ _ _ (@o_le _) (@Qm _) (@Ad _ _ _ _) (@Bp _ _ _ _ _ _ (@q_v1 _ _ 0 _ (by exact⟨rfl,rfl,rfl,rfl⟩)) (@Ad _ _ _ _) (by intro _ _ ;rfl)) (@q_v1 _ _ 1 _ (by exact⟨rfl,rfl,rfl,rfl⟩)) (by with_unfolding_all rfl)) (@qss_one _ _ _ (@C0 _ _ _ _ _ _ (@Az _ _ _ _ _ _ _ _ (@Be _) (@Bp _ _ _ _ _ _ (@q_v1 _ _ 0 _ (by exact⟨rfl,rfl,rfl,rfl⟩)) (@Ad _ _ _ _) (by intro _ _ ;rfl)) (@Az _ _ _ _ _ _ _ _ (@D4 _) (@q_v1 _ _ 1 _ (by exact⟨rfl,rfl,rfl,rfl⟩)) (@q_call _ _ _ _ _ _ _ _ noX _ _ _ W7 (hr.mono (by decide)) (@passN _ _) (@qa_consP _ _ _ _ _ (@q_v1 _ _ 0 _ (by exact⟨rfl,rfl,rfl,rfl⟩)) (@qa_nil _) (by rfl)) (by rfl) (by decide) (by rfl) (by rfl)))) (@Fh _ _ _ _ _ _ _ (@q_v1 _ _ 0 _ (by exact⟨rfl,rfl,rfl,rfl⟩)) (@Ad _ _ _ _) (@Ku _) (by intro _ ;rfl)) (by rfl) (by rfl) (by rfl))) (@qss_nil _)) (@qss_cons _ _ _ _ _ (@C0 _ _ _ _ _ _ (@q_callB _ _ _ _ _ _ _ _ _ (@Qd _) (T.blt (by decide)) (by decide +kernel) (@qa_consP _ _ _ _ _ (@Bp _ _ _ _ _ _ (@q_v1 _ _ 0 _ (by exact⟨rfl,rfl,rfl,rfl⟩)) (@Ad _ _ _ _) (by intro _ _ ;rfl)) (@qa_consP _ _ _ _ _ (@q_v1 _ _ 1 _ (by exact⟨rfl,rfl,rfl,rfl⟩)) (@qa_nil _) (by rfl)) (by rfl)) (by rfl) (by decide) (by decide) (by rfl) (by rfl)) (@Ff _ _ _ _ _ 2 rfl (@Bg _ _ _ _ _ (@qg_name _ _ 2 _ sc_L_take.nd (by rfl) (by exact .inl rfl) (by exact .inl rfl)) (@Bg _ _ _ _ _ (@qg_name _ _ 3 _ sc_L_take.nd (by rfl) (by exact .inl rfl) (by exact .inl rfl)) (@D5 _) (by rfl)) (by rfl)) (by rfl) (by rfl)) (by rfl) (by rfl) (by rfl)) (@qss_cons _ _ _ _ _ (@C0 _ _ _ _ _ _ (@q_v1 _ _ 2 _ (by exact⟨rfl,rfl,rfl,rfl⟩)) (@Fh _ _ _ _ _ _ _ (@q_v1 _ _ 0 _ (by exact⟨rfl,rfl,rfl,rfl⟩)) (@Ad _ _ _ _) (@Ku _) (by intro _ ;rfl)) (by rfl) (by rfl) (by rfl)) (@qss_one _ _ _ (@qs_ret _ _ _ _ (@q_v1 _ _ 3 _ (by exact⟨rfl,rfl,rfl,rfl⟩))))))),?_⟩
  have h2 : -18446744073709551616<c∧c<18446744073709551616:=by omega
  obtain⟨G,rfl⟩:=O0 hG
  simp only[Bw,Dx,B6,C9,nC,nOp,Au,As,List.map_cons,List.map_nil,List.length_cons,List.length_nil,Nat.zero_add,Nat.reduceAdd,Nat.reduceSub,List.replicate,List.cons_append,List.nil_append,List.getElem?_cons_zero,Option.some.injEq,dIx,D.int.injEq,dI0,D.bl.injEq,List.getElem?_cons_succ,B5,Bd,Ak,A0,Hq,List.cons.injEq,and_true,dI,CMul,Int.reducePow,Int.reduceNeg,N5,Oh,nCB,Kq,Mo,D.tup.injEq,Gc,A5,Mp,List.set_cons_succ,List.set_cons_zero,B3,exists_eq_left',D.ref.injEq,and_assoc,exists_and_left,true_and,c0,c1,By Aa,Aa,GO.lst.injEq,A6,List.length_set,h2,and_self,true_or,S6,Ch,ix0,B1,decide_eq_true_eq,reduceCtorEq,if_false]
  have fin:∀(n d':Int),Fq Q (.int (n % c)) (Ae G a (.lst [.int (n / c),.int d'])):=fun n d'=>by
   have:=q (n % c) (n / c) d' (Int.emod_nonneg _ (by omega)) (Int.emod_lt_of_pos _ c0)
   rw[A6] at this
   exact Fq.of this
  by_cases h0:0≤b
  ·refine it0 h0 ?_
   by_cases h1:b<c
   ·refine it0 h1 ?_
    intro n d'
    exact fin _ _
   ·refine it1 h1 ?_
    exact fin _ _
  ·refine it1 h0 ?_
   exact fin _ _
def hid(G:Gp)(a:Addr):Gp:=fun b=>if b=a then none else G b
theorem Ru{G:Gp}{a:Addr}:Sub (hid G a) G:=fun b o h=>by
 unfold hid at h
 split at h
 ·cases h
 ·exact h
theorem Rv{G:Gp}{a:Addr}{o:GO}:hid (Ae G a o) a=hid G a:=by
 funext b;unfold hid Ae
 by_cases e:b=a<;>simp[e]
theorem L7{G:Gp}{a p:Addr}{o:GO}(h:a≠p):hid (Ae G p o) a=Ae (hid G a) p o:=by
 funext b;unfold hid Ae
 by_cases e:b=a
 ·subst e;simp[h]
 ·simp[e]
theorem Fp{G:Gp}{a p:Addr}(h:G p=none):hid G a p=none:=by
 unfold hid;split<;>first|rfl|exact h
structure Step(a:Addr)(G G':Gp):Prop where
 box:Ez (G' a)
 sub:Sub (hid G a) (hid G' a)
theorem Step.trans{a:Addr}{G G1 G2:Gp}(x:Step a G G1)(y:Step a G1 G2):Step a G G2:=⟨y.box,x.sub.trans y.sub⟩
theorem Step.refl{a:Addr}{G:Gp}(h:Ez (G a)):Step a G G:=⟨h,Sub.refl _⟩
theorem Step.take{a:Addr}{G G1:Gp}(x:Step a G G1)(b c:Int):Step a G (Ae G1 a (.lst [.int b,.int c])):=⟨⟨b,c,Aa⟩,by rw[Rv];exact x.sub⟩
theorem Step.ne{a p:Addr}{G:Gp}(x:Ez (G a))(h:G p=none):a≠p:=fun e=>by subst e;obtain⟨b,c,hb⟩:=x;rw[h] at hb;cases hb
theorem Step.lay{a p:Addr}{G G1:Gp}{o:GO}(x:Step a G G1)(h:G1 p=none):Step a G (Ae G1 p o):=by
 have n:=Step.ne x.box h
 obtain⟨b,c,hb⟩:=x.box
 exact⟨⟨b,c,by rw[Am n];exact hb⟩,by rw[L7 n];exact x.sub.skip (Fp h)⟩
theorem Step.get{a p:Addr}{G G1:Gp}{o:GO}(x:Step a G G1)(n:a≠p)(h:G p=some o):G1 p=some o:=by
 have e:hid G a p=some o:=by unfold hid;rw[if_neg (Ne.symm n)];exact h
 exact Ru _ _ (x.sub p o e)
theorem Step.back{a b:Addr}{G G1:Gp}(x:Step a G G1)(h:G1 b=none):G b=none:=by
 have n:=Step.ne x.box h
 have e:=x.sub.none (Fp (a:=a) h)
 unfold hid at e
 rwa [if_neg (Ne.symm n)] at e
theorem Step.write{a p:Addr}{G G1:Gp}{o:GO}(x:Step a G G1)(h:G p=none)(n:a≠p):Step a G (Ae G1 p o):=by
 obtain⟨b,c,hb⟩:=x.box
 refine⟨⟨b,c,by rw[Am n];exact hb⟩,?_⟩
 rw[L7 n]
 intro d u e
 by_cases ed:d=p
 ·subst ed
  have:=Fp (a:=a) h
  rw[this] at e;cases e
 ·rw[Am ed];exact x.sub d u e
theorem C6{G:Gp}{a p:Addr}{o u:GO}(g:G a=some o)(h:G p=none):Ae G p u a=some o:=by rw[Am (gne g h)];exact g
theorem Bh{G:Gp}{a:Addr}{c:Int}{Q:DK}{E:DX}(hb:Ez (G a))(c0:0<c)(c1:c<1073741824)(h:∀r G',0≤r→r<c→Step a G G'→Q (.int r) G'):spTake [.ref a,.int c] G Q E:=
 ⟨a,c,rfl,hb,⟨c0,c1⟩,fun r b' c' h0 h1=>h r _ h0 h1 ((Step.refl hb).take b' c')⟩
end
end K2
set_option maxRecDepth 100000
set_option maxHeartbeats 4000000
namespace K2
open PySem L2 D3
section
variable{P:Program}{w:World}{K:W.Frag}{mg:Str→Option Value}{base:Heap}
def Cy(lo hi:Int):D→Bool
 |.int i=>decide (lo≤i)&&decide (i≤hi)
 |_=>false
structure Nums(mg:Str→Option Value):Prop extends Blt mg where
 LEAST_COLUMNS:∃t,mg "LEAST_COLUMNS" = some (.int 2 t)
 MOST_COLUMNS:∃t,mg "MOST_COLUMNS" = some (.int 16 t)
 LEAST_ROWS:∃t,mg "LEAST_ROWS" = some (.int 1 t)
 MOST_ROWS:∃t,mg "MOST_ROWS" = some (.int 9 t)
 LAND:∃t,mg "LAND" = some (.int 0 t)
 MOST_DEPTH:∃t,mg "MOST_DEPTH" = some (.int 9 t)
 LAST_DAY:∃t,mg "LAST_DAY" = some (.int 400 t)
abbrev s_is_whole_within:Stmt:=top 6
abbrev Eg:List Str:=["thing", "low", "high"]
abbrev Aj:List Str:=["thing", "low", "high"]
theorem D0:FnScope Eg Aj (Ah s_is_whole_within):=⟨rfl,rfl,rfl,by decide +kernel,rfl,by decide +kernel,by decide +kernel⟩
def Cc:DSp:=fun ds G Q _=>∃d lo hi,ds=[d,.int lo,.int hi]∧Kn G d∧Q (.bl (Cy lo hi d)) G
theorem Pq{f:Addr}{fd:FuncData}(F:Fun K "is_whole_within" "is_whole_within" s_is_whole_within f fd)(T:Nums mg):FnOk P w K mg base CX0 1 f fd Aj (Ap K Cc):=by
 refine okD F D0 (fun ds G Q E h=>?_) (fun cdv A outer s H XE ds G Q E hr h=>?_)
 ·obtain⟨d,lo,hi,rfl,_⟩:=h;rfl
 ·obtain⟨d,lo,hi,rfl,⟨t,ht⟩,k⟩:=h
  refine⟨_,(@qss_one _ _ _ (@qs_ret _ _ _ _ (@q_and _ _ _ _ _ _ _ (@q_callB _ _ _ _ _ _ _ _ _ (@c_isinst _) (T.blt (by decide)) (by decide +kernel) (@qa_consP _ _ _ _ _ (@q_v1 _ _ 0 _ (by exact⟨rfl,rfl,rfl,rfl⟩)) (@qa_consP _ _ _ _ _ (@q_globty _ _ _ "int" (T.blt (by decide)) (by decide +kernel) (by rfl) (by decide) (by decide)) (@qa_nil _) (by rfl)) (by rfl)) (by rfl) (by decide) (by decide) (by rfl) (by rfl)) (@q_and _ _ _ _ _ _ _ (@q_not _ _ _ _ (@q_callB _ _ _ _ _ _ _ _ _ (@c_isinst _) (T.blt (by decide)) (by decide +kernel) (@qa_consP _ _ _ _ _ (@q_v1 _ _ 0 _ (by exact⟨rfl,rfl,rfl,rfl⟩)) (@qa_consP _ _ _ _ _ (@q_globty _ _ _ "bool" (T.blt (by decide)) (by decide +kernel) (by rfl) (by decide) (by decide)) (@qa_nil _) (by rfl)) (by rfl)) (by rfl) (by decide) (by decide) (by rfl) (by rfl))) (@Sf _ _ _ _ _ (@Q5 _ _ _ _ _ _ _ _ _ _ _ _ (@o_le _) (@o_le _) (@q_v1 _ _ 1 _ (by exact⟨rfl,rfl,rfl,rfl⟩)) (@q_v1 _ _ 0 _ (by exact⟨rfl,rfl,rfl,rfl⟩)) (@q_v1 _ _ 2 _ (by exact⟨rfl,rfl,rfl,rfl⟩)) (by with_unfolding_all rfl))))))),?_⟩
  simp only[B3,Oc,nCB,Ak,Au,As,List.map_cons,List.map_nil,List.length_cons,List.length_nil,Nat.zero_add,Nat.reduceAdd,Nat.reduceSub,List.replicate,List.cons_append,List.nil_append,List.getElem?_cons_zero,Option.some.injEq,nC,A0,List.cons.injEq,D.ty.injEq,and_true,D.bl.injEq,Sj,C9,List.getElem?_cons_succ,dI0,exists_eq_left',D.int.injEq,decide_eq_true_eq,and_assoc,exists_and_left,Rz,true_and,ht,Uy]
  have other:(pyIs t "int" = false∨pyIs t "bool" = true)→Q (.bl false) G→if pyIs t "int" = true then if (!pyIs t "bool")=true then ∃j,d=D.int j∧if lo≤j then ∃i,d=D.int i∧Fq Q (D.bl (decide (i≤hi))) G else Fq Q (D.bl false) G else Fq Q (D.bl false) G else Fq Q (D.bl false) G:=fun h q=>by
   rcases h with h|h
   ·rw[h,if_neg Bool.false_ne_true];exact Fq.of q
   ·rw[h];split
    ·rw[if_neg (by decide)];exact Fq.of q
    ·exact Fq.of q
  cases d with
  |int i=>
   cases ht
   rw[if_pos (by decide),if_pos (by decide)]
   refine⟨i,rfl,?_⟩
   by_cases h:lo≤i
   ·rw[if_pos h]
    refine⟨i,rfl,Fq.of ?_⟩
    simpa[Cy,h] using k
   ·rw[if_neg h]
    refine Fq.of ?_
    simpa[Cy,h] using k
  |bl b=>cases ht;exact other (.inr (by decide)) k
  |non=>cases ht;exact other (.inl (by decide)) k
  |str x=>cases ht;exact other (.inl (by decide)) k
  |tup ds=>cases ht;exact other (.inl (by decide)) k
  |ty n=>cases ht
  |lint ns=>cases ht
  |ref a=>
   refine other (.inl ?_) k
   simp only[C8] at ht
   split at ht<;>first|(cases ht;decide)|cases ht
def Ca(c:List Int):D:=.tup (c.map D.int)
def Bl(s:List (List Int)):D:=.tup (s.map Ca)
structure SeaOk(s:List (List Int))(h:Nat):Prop where
 wide:2≤s.length∧s.length≤16
 high:1≤h∧h≤9
 col:∀c∈s,c.length=h∧∀x∈c,0≤x∧x≤9
def Iz(lo hi:Int):DSp:=fun ds G Q _=>∃i,ds=[.int i]∧lo≤i∧i≤hi∧Q (.bl true) G
def spChk(lo hi:Int):DSp:=fun ds G Q _=>∃i,ds=[.int i]∧lo≤i∧i≤hi∧Q .non G
abbrev s_is_depth:Stmt:=top 15
abbrev Ll:List Str:=["thing"]
abbrev Br:List Str:=["thing"]
theorem J2:FnScope Ll Br (Ah s_is_depth):=⟨rfl,rfl,rfl,by decide +kernel,rfl,by decide +kernel,by decide +kernel⟩
theorem Pu{f:Addr}{fd:FuncData}(F:Fun K "is_depth" "is_depth" s_is_depth f fd)(T:Nums mg)(W3:Def P w K mg base CX0 1 "is_whole_within" Aj Cc):FnOk P w K mg base CX0 2 f fd Br (Ap K (Iz 0 9)):=by
 refine okD F J2 (fun ds G Q E h=>?_) (fun cdv A outer s H XE ds G Q E hr h=>?_)
 ·obtain⟨i,rfl,_⟩:=h;rfl
 ·obtain⟨i,rfl,h1,h2,k⟩:=h
  refine⟨_,(@qss_one _ _ _ (@qs_ret _ _ _ _ (@q_call _ _ _ _ _ _ _ _ noX _ _ _ W3 (hr.mono (by decide)) (@passN _ _) (@qa_consP _ _ _ _ _ (@q_v1 _ _ 0 _ (by exact⟨rfl,rfl,rfl,rfl⟩)) (@qa_consP _ _ _ _ _ (@q_globx _ _ _ _ T.LAND (by rfl) (by decide)) (@qa_consP _ _ _ _ _ (@q_globx _ _ _ _ T.MOST_DEPTH (by rfl) (by decide)) (@qa_nil _) (by rfl)) (by rfl)) (by rfl)) (by rfl) (by decide) (by rfl) (by rfl)))),?_⟩
  have kn:Kn G (.int i):=⟨_,rfl⟩
  simp only[B3,Bd,Ak,Au,As,List.map_cons,List.map_nil,List.length_cons,List.length_nil,Nat.zero_add,Nat.reduceSub,List.replicate,List.cons_append,List.nil_append,List.getElem?_cons_zero,Option.some.injEq,nC,A0,Cc,List.cons.injEq,D.int.injEq,and_true,Cy,and_assoc,exists_and_left,exists_eq_left',kn,h1,decide_true,h2,true_and]
  exact Fq.of k
abbrev s_is_day:Stmt:=top 16
abbrev Qi:List Str:=["thing"]
abbrev Cr:List Str:=["thing"]
theorem M0:FnScope Qi Cr (Ah s_is_day):=⟨rfl,rfl,rfl,by decide +kernel,rfl,by decide +kernel,by decide +kernel⟩
theorem Ue{f:Addr}{fd:FuncData}(F:Fun K "is_day" "is_day" s_is_day f fd)(T:Nums mg)(W3:Def P w K mg base CX0 1 "is_whole_within" Aj Cc):FnOk P w K mg base CX0 2 f fd Cr (Ap K (Iz 0 400)):=by
 refine okD F M0 (fun ds G Q E h=>?_) (fun cdv A outer s H XE ds G Q E hr h=>?_)
 ·obtain⟨i,rfl,_⟩:=h;rfl
 ·obtain⟨i,rfl,h1,h2,k⟩:=h
  refine⟨_,(@qss_one _ _ _ (@qs_ret _ _ _ _ (@q_call _ _ _ _ _ _ _ _ noX _ _ _ W3 (hr.mono (by decide)) (@passN _ _) (@qa_consP _ _ _ _ _ (@q_v1 _ _ 0 _ (by exact⟨rfl,rfl,rfl,rfl⟩)) (@qa_consP _ _ _ _ _ (@Ad _ _ _ _) (@qa_consP _ _ _ _ _ (@q_globx _ _ _ _ T.LAST_DAY (by rfl) (by decide)) (@qa_nil _) (by rfl)) (by rfl)) (by rfl)) (by rfl) (by decide) (by rfl) (by rfl)))),?_⟩
  have kn:Kn G (.int i):=⟨_,rfl⟩
  simp only[B3,Bd,Ak,Au,As,List.map_cons,List.map_nil,List.length_cons,List.length_nil,Nat.zero_add,Nat.reduceSub,List.replicate,List.cons_append,List.nil_append,List.getElem?_cons_zero,Option.some.injEq,nC,A0,Cc,List.cons.injEq,D.int.injEq,and_true,Cy,and_assoc,exists_and_left,exists_eq_left',kn,h1,decide_true,h2,true_and]
  exact Fq.of k
theorem Ee{α:Type}{xs:List α}:xs.filter (fun _=>true)=xs:=List.filter_eq_self.mpr fun _ _=>rfl
theorem Fw{α:Type}(c:List α):(c.map fun _=>true).all id=true:=by simp
abbrev s_is_column:Stmt:=top 17
abbrev Kj:List Str:=["thing"]
abbrev Bk:List Str:=["thing"]
theorem Ii:FnScope Kj Bk (Ah s_is_column):=⟨rfl,rfl,rfl,by decide +kernel,rfl,by decide +kernel,by decide +kernel⟩
theorem F3:((["depth"]:List Str)++(["thing"]:List Str)).Nodup:=by decide +kernel
def D9:DSp:=fun ds G Q _=>∃c,ds=[Ca c]∧1≤c.length∧c.length≤9∧(∀x∈c,0≤x∧x≤9)∧Q (.bl true) G
theorem M7{f:Addr}{fd:FuncData}(F:Fun K "is_column" "is_column" s_is_column f fd)(T:Nums mg)(W8:Def P w K mg base CX0 2 "is_depth" Br (Iz 0 9)):FnOk P w K mg base CX0 3 f fd Bk (Ap K D9):=by
 refine okD F Ii (fun ds G Q E h=>?_) (fun cdv A outer s H XE ds G Q E hr h=>?_)
 ·obtain⟨c,rfl,_⟩:=h;rfl
 ·obtain⟨c,rfl,h1,h9,hx,k⟩:=h
  refine⟨_,(@qss_cons _ _ _ _ _ (@qs_if _ _ _ _ _ _ _ _ (@Fb _ _ _ (@Lq _ _ _ _ _ _ _ (@qt_not _ _ _ _ (@qt_tru _ _ _ (@q_callB _ _ _ _ _ _ _ _ _ (@c_isinst _) (T.blt (by decide)) (by decide +kernel) (@qa_consP _ _ _ _ _ (@q_v1 _ _ 0 _ (by exact⟨rfl,rfl,rfl,rfl⟩)) (@qa_consP _ _ _ _ _ (@q_globty _ _ _ "tuple" (T.blt (by decide)) (by decide +kernel) (by rfl) (by decide) (by decide)) (@qa_nil _) (by rfl)) (by rfl)) (by rfl) (by decide) (by decide) (by rfl) (by rfl)) (by intro _ ;rfl))) (@qw_or1 _ _ _ _ (@qt_not _ _ _ _ (@qt_chain _ _ _ _ _ _ _ _ _ _ _ _ (@o_le _) (@o_le _) (@q_globx _ _ _ _ T.LEAST_ROWS (by rfl) (by decide)) (@q_callB _ _ _ _ _ _ _ _ _ (@c_len _) (T.blt (by decide)) (by decide +kernel) (@qa_consP _ _ _ _ _ (@q_v1 _ _ 0 _ (by exact⟨rfl,rfl,rfl,rfl⟩)) (@qa_nil _) (by rfl)) (by rfl) (by decide) (by decide) (by rfl) (by rfl)) (@q_globx _ _ _ _ T.MOST_ROWS (by rfl) (by decide)) (by with_unfolding_all rfl)))))) (@qss_one _ _ _ (@qs_ret _ _ _ _ (@q_bl _ _ _ _))) (@qss_nil _)) (@qss_one _ _ _ (@qs_ret _ _ _ _ (@q_callB _ _ _ _ _ _ _ _ _ (@c_all _ rfl) (T.blt (by decide)) (by decide +kernel) (@qa_consP _ _ _ _ _ (@q_compz _ _ _ _ _ _ _ _ _ _ _ ["depth"] ["thing"] rfl (@compOz _ _ _ _ (by rfl) (by rfl) (by rfl) (by rfl) (by rfl)) (@q_v1 _ _ 0 _ (by exact⟨rfl,rfl,rfl,rfl⟩)) (fun _ _ _=>(@qg_name _ _ 0 _ F3 (by rfl) (by exact .inl rfl) (by exact .inr rfl))) (fun _ _ _=>(@qf_nil _)) (fun _ _ _=>(@q_call _ _ _ _ _ _ _ _ noX _ _ _ W8 (hr.mono (by decide)) (@passN _ _) (@qa_consP _ _ _ _ _ (@q_v1 _ _ 0 _ (by exact⟨rfl,rfl,rfl,rfl⟩)) (@qa_nil _) (by rfl)) (by rfl) (by decide) (by rfl) (by rfl))) (by intro _ ;rfl)) (@qa_nil _) (by rfl)) (by rfl) (by decide) (by decide) (by rfl) (by rfl))))),?_⟩
  unfold Ca
  simp only[Bw,Dx,nOr,Ja,F7,nCB,Ak,Au,As,List.map_cons,List.map_nil,List.length_cons,List.length_nil,Nat.zero_add,Nat.reduceSub,List.replicate,List.cons_append,List.nil_append,List.getElem?_cons_zero,Option.some.injEq,nC,A0,List.cons.injEq,D.ty.injEq,and_true,B3,B1,Fi,exists_eq_left',Js,if_true,B6,C9,dI0,D.int.injEq,D.bl.injEq,Bool.not_false,decide_eq_true_eq,E9,and_assoc,exists_and_left,Fv,true_and,Kr]
  refine⟨true,rfl,it1 (by decide) (it0 (by simp;omega) (it1 (by simp;omega) fun p hp=>?_))⟩
  have hz:(c.map D.int).length<sizeLine:=by rw[List.length_map,sizeLine_eq];omega
  refine B9 (fun x=>.bl true) (fun _=>true) hz (fun _=>by first|rfl|trivial) (by decide) (fun x ys hx' hl R1 R2 g1 _=>?_) ?_
  ·obtain⟨i,hi,rfl⟩:=List.mem_map.mp hx'
   simp only[Jd,Bd,Ak,Au,List.replicate,List.cons_append,List.nil_append,List.set_cons_zero,List.getElem?_cons_zero,Option.some.injEq,A0,Iz,List.cons.injEq,and_true,Aa,hl,A6,true_and,exists_eq_left',D.int.injEq,if_true]
   exact⟨(hx i hi).1,(hx i hi).2,Fg.of (g1 rfl)⟩
  ·refine⟨p,rfl,c.map (fun _=>true),by rw[Aa,Ee,List.map_map,List.map_map];rfl,?_⟩
   refine⟨G,Sub.new hp,?_⟩
   rw[Fw];exact k
abbrev s_is_sea:Stmt:=top 18
abbrev Qh:List Str:=["thing"]
abbrev Cq:List Str:=["thing"]
theorem Mz:FnScope Qh Cq (Ah s_is_sea):=⟨rfl,rfl,rfl,by decide +kernel,rfl,by decide +kernel,by decide +kernel⟩
theorem nd_is_sea_1:((["column"]:List Str)++(["thing"]:List Str)).Nodup:=by decide +kernel
theorem J5:((["column"]:List Str)++(["thing"]:List Str)).Nodup:=by decide +kernel
def Lo:DSp:=fun ds G Q _=>∃s h,ds=[Bl s]∧SeaOk s h∧Q (.bl true) G
theorem Uc{f:Addr}{fd:FuncData}(F:Fun K "is_sea" "is_sea" s_is_sea f fd)(T:Nums mg)(W9:Def P w K mg base CX0 3 "is_column" Bk D9):FnOk P w K mg base CX0 4 f fd Cq (Ap K Lo):=by
 refine okD F Mz (fun ds G Q E h=>?_) (fun cdv A outer s H XE ds G Q E hr h=>?_)
 ·obtain⟨c,_,rfl,_⟩:=h;rfl
 ·obtain⟨c,h,rfl,ok,k⟩:=h
  refine⟨_,(@qss_cons _ _ _ _ _ (@qs_if _ _ _ _ _ _ _ _ (@Fb _ _ _ (@Lq _ _ _ _ _ _ _ (@qt_not _ _ _ _ (@qt_tru _ _ _ (@q_callB _ _ _ _ _ _ _ _ _ (@c_isinst _) (T.blt (by decide)) (by decide +kernel) (@qa_consP _ _ _ _ _ (@q_v2 _ _ 0 _ (by exact⟨rfl,rfl,rfl,rfl⟩)) (@qa_consP _ _ _ _ _ (@q_globty _ _ _ "tuple" (T.blt (by decide)) (by decide +kernel) (by rfl) (by decide) (by decide)) (@qa_nil _) (by rfl)) (by rfl)) (by rfl) (by decide) (by decide) (by rfl) (by rfl)) (by intro _ ;rfl))) (@qw_or1 _ _ _ _ (@qt_not _ _ _ _ (@qt_chain _ _ _ _ _ _ _ _ _ _ _ _ (@o_le _) (@o_le _) (@q_globx _ _ _ _ T.LEAST_COLUMNS (by rfl) (by decide)) (@q_callB _ _ _ _ _ _ _ _ _ (@c_len _) (T.blt (by decide)) (by decide +kernel) (@qa_consP _ _ _ _ _ (@q_v2 _ _ 0 _ (by exact⟨rfl,rfl,rfl,rfl⟩)) (@qa_nil _) (by rfl)) (by rfl) (by decide) (by decide) (by rfl) (by rfl)) (@q_globx _ _ _ _ T.MOST_COLUMNS (by rfl) (by decide)) (by with_unfolding_all rfl)))))) (@qss_one _ _ _ (@qs_ret _ _ _ _ (@q_bl _ _ _ _))) (@qss_nil _)) (@qss_cons _ _ _ _ _ (@qs_if _ _ _ _ _ _ _ _ (@qt_not _ _ _ _ (@qt_tru _ _ _ (@q_callB _ _ _ _ _ _ _ _ _ (@c_all _ rfl) (T.blt (by decide)) (by decide +kernel) (@qa_consP _ _ _ _ _ (@q_compz _ _ _ _ _ _ _ _ _ _ _ ["column"] ["thing"] rfl (@compOz _ _ _ _ (by rfl) (by rfl) (by rfl) (by rfl) (by rfl)) (@q_v2 _ _ 0 _ (by exact⟨rfl,rfl,rfl,rfl⟩)) (fun _ _ _=>(@qg_name _ _ 0 _ nd_is_sea_1 (by rfl) (by exact .inl rfl) (by exact .inr rfl))) (fun _ _ _=>(@qf_nil _)) (fun _ _ _=>(@q_call _ _ _ _ _ _ _ _ noX _ _ _ W9 (hr.mono (by decide)) (@passN _ _) (@qa_consP _ _ _ _ _ (@q_v1 _ _ 0 _ (by exact⟨rfl,rfl,rfl,rfl⟩)) (@qa_nil _) (by rfl)) (by rfl) (by decide) (by rfl) (by rfl))) (by intro _ ;rfl)) (@qa_nil _) (by rfl)) (by rfl) (by decide) (by decide) (by rfl) (by rfl)) (by intro _ ;rfl))) (@qss_one _ _ _ (@qs_ret _ _ _ _ (@q_bl _ _ _ _))) (@qss_nil _)) (@qss_one _ _ _ (@qs_ret _ _ _ _ (@q_callB _ _ _ _ _ _ _ _ _ (@c_all _ rfl) (T.blt (by decide)) (by decide +kernel) (@qa_consP _ _ _ _ _ (@q_compz _ _ _ _ _ _ _ _ _ _ _ ["column"] ["thing"] rfl (@compOz _ _ _ _ (by rfl) (by rfl) (by rfl) (by rfl) (by rfl)) (@q_v2 _ _ 0 _ (by exact⟨rfl,rfl,rfl,rfl⟩)) (fun _ _ _=>(@qg_name _ _ 0 _ J5 (by rfl) (by exact .inl rfl) (by exact .inr rfl))) (fun _ _ _=>(@qf_nil _)) (fun _ _ _=>(@Sg _ _ _ _ _ _ _ _ (@Qn _) (@q_callB _ _ _ _ _ _ _ _ _ (@c_len _) (T.blt (by decide)) (by decide +kernel) (@qa_consP _ _ _ _ _ (@q_v1 _ _ 0 _ (by exact⟨rfl,rfl,rfl,rfl⟩)) (@qa_nil _) (by rfl)) (by rfl) (by decide) (by decide) (by rfl) (by rfl)) (@q_callB _ _ _ _ _ _ _ _ _ (@c_len _) (T.blt (by decide)) (by decide +kernel) (@qa_consP _ _ _ _ _ (@Bp _ _ _ _ _ _ (@q_v2 _ _ 1 _ (by exact⟨rfl,rfl,rfl,rfl⟩)) (@Ad _ _ _ _) (by intro _ _ ;rfl)) (@qa_nil _) (by rfl)) (by rfl) (by decide) (by decide) (by rfl) (by rfl)) (Bz _))) (by intro _ ;rfl)) (@qa_nil _) (by rfl)) (by rfl) (by decide) (by decide) (by rfl) (by rfl)))))),?_⟩
  unfold Bl
  simp only[Bw,Dx,nOr,Ja,F7,nCB,Ak,Au,As,List.map_cons,List.map_nil,List.length_cons,List.length_nil,Nat.zero_add,Nat.reduceSub,List.replicate,List.cons_append,List.nil_append,List.getElem?_cons_zero,Option.some.injEq,nC,A0,List.cons.injEq,D.ty.injEq,and_true,B3,B1,Fi,exists_eq_left',Js,if_true,B6,C9,dI0,D.int.injEq,D.bl.injEq,Bool.not_false,decide_eq_true_eq,E9,and_assoc,exists_and_left,Fv,true_and,Kr]
  have hw:=ok.wide
  refine⟨true,rfl,it1 (by decide) (it0 (by simp;omega) (it1 (by simp;omega) fun p hp=>?_))⟩
  have hz:(c.map Ca).length<sizeLine:=by rw[List.length_map,sizeLine_eq];omega
  refine B9 (fun x=>.bl true) (fun _=>true) hz (fun _=>by first|rfl|trivial) (by decide) (fun x ys hx' hl R1 R2 g1 _=>?_) ?_
  ·obtain⟨i,hi,rfl⟩:=List.mem_map.mp hx'
   obtain⟨e,hx⟩:=ok.col i hi
   have h1:=ok.high
   simp only[Jd,Bd,Ak,Au,List.replicate,List.cons_append,List.nil_append,List.set_cons_zero,List.getElem?_cons_zero,Option.some.injEq,A0,D9,List.cons.injEq,and_true,Aa,hl,A6,true_and,exists_eq_left',if_true]
   exact⟨i,rfl,by omega,by omega,hx,Fg.of (g1 rfl)⟩
  ·refine⟨p,rfl,c.map (fun _=>true),by rw[Aa,Ee,List.map_map,List.map_map];rfl,true,by rw[Fw];rfl,it1 (by decide) fun p2 hp2=>?_⟩
   have at0:atI (c.map Ca) 0=some (Ca (c.headD [])):=by
    cases c with
    |nil=>simp at hw
    |cons x r=>rw[List.map_cons,S6];rfl
   have hc0:(c.headD []).length=h:=(ok.col _ (by cases c with|nil=>simp at hw|cons x r=>simp)).1
   refine B9 (fun x=>.bl true) (fun _=>true) hz (fun _=>by first|rfl|trivial) (by decide) (fun x ys hx' hl R1 R2 g1 _=>?_) ?_
   ·obtain⟨i,hi,rfl⟩:=List.mem_map.mp hx'
    obtain⟨e,hx⟩:=ok.col i hi
    simp only[Jd,nOp,nCB,Ak,Au,List.replicate,List.cons_append,List.nil_append,List.set_cons_zero,List.getElem?_cons_zero,Option.some.injEq,A0,List.cons.injEq,and_true,List.getElem?_cons_succ,nC,dIx,D.int.injEq,dEq,eqS,Aa,hl,A6,true_and,exists_eq_left',Ed,if_true]
    refine⟨h,by simp[Ca,Hm,e],Ca (c.headD []),at0,h,by rw[←hc0];simp only[Ca,Hm,List.length_map],?_⟩
    rw[decide_eq_true rfl]
    exact Fg.of (g1 rfl)
   ·refine⟨p2,rfl,c.map (fun _=>true),by rw[Aa,Ee,List.map_map,List.map_map];rfl,?_⟩
    refine⟨G,(Sub.new hp).trans (Sub.new hp2),?_⟩
    rw[Fw];exact k
abbrev s_check_sea:Stmt:=top 20
abbrev Kk:List Str:=["thing"]
abbrev p_check_sea:List Str:=["thing"]
theorem Ij:FnScope Kk p_check_sea (Ah s_check_sea):=⟨rfl,rfl,rfl,by decide +kernel,rfl,by decide +kernel,by decide +kernel⟩
def spCheckSea:DSp:=fun ds G Q _=>∃s h,ds=[Bl s]∧SeaOk s h∧Q .non G
theorem J3{f:Addr}{fd:FuncData}(F:Fun K "check_sea" "check_sea" s_check_sea f fd)(T:Nums mg)(Xa:Def P w K mg base CX0 4 "is_sea" Cq Lo):FnOk P w K mg base CX0 5 f fd p_check_sea (Ap K spCheckSea):=by
 refine okD F Ij (fun ds G Q E h=>?_) (fun cdv A outer s H XE ds G Q E hr h=>?_)
 ·obtain⟨c,_,rfl,_⟩:=h;rfl
 ·obtain⟨c,h,rfl,ok,k⟩:=h
  refine⟨_,(@qss_one _ _ _ (@qs_if _ _ _ _ _ _ _ _ (@qt_not _ _ _ _ (@qt_tru _ _ _ (@q_call _ _ _ _ _ _ _ _ noX _ _ _ Xa (hr.mono (by decide)) (@passN _ _) (@qa_consP _ _ _ _ _ (@q_v1 _ _ 0 _ (by exact⟨rfl,rfl,rfl,rfl⟩)) (@qa_nil _) (by rfl)) (by rfl) (by decide) (by rfl) (by rfl)) (by intro _ ;rfl))) (@qss_one _ _ _ (@Fl _ _)) (@qss_nil _))),?_⟩
  simp only[Dx,Ja,F7,Bd,Ak,Au,As,List.map_cons,List.map_nil,List.length_cons,List.length_nil,Nat.zero_add,Nat.reduceSub,List.replicate,List.cons_append,List.nil_append,List.getElem?_cons_zero,Option.some.injEq,A0,Lo,List.cons.injEq,and_true,B1,exists_and_left,exists_eq_left']
  refine⟨c,rfl,h,ok,?_⟩
  first|exact Fq.of k|exact⟨true,rfl,it1 (by decide) (Fq.of k)⟩
abbrev s_check_day:Stmt:=top 22
abbrev Kl:List Str:=["thing"]
abbrev p_check_day:List Str:=["thing"]
theorem Ik:FnScope Kl p_check_day (Ah s_check_day):=⟨rfl,rfl,rfl,by decide +kernel,rfl,by decide +kernel,by decide +kernel⟩
theorem J4{f:Addr}{fd:FuncData}(F:Fun K "check_day" "check_day" s_check_day f fd)(T:Nums mg)(Xb:Def P w K mg base CX0 2 "is_day" Cr (Iz 0 400)):FnOk P w K mg base CX0 3 f fd p_check_day (Ap K (spChk 0 400)):=by
 refine okD F Ik (fun ds G Q E h=>?_) (fun cdv A outer s H XE ds G Q E hr h=>?_)
 ·obtain⟨c,rfl,_⟩:=h;rfl
 ·obtain⟨c,rfl,h1,h2,k⟩:=h
  refine⟨_,(@qss_one _ _ _ (@qs_if _ _ _ _ _ _ _ _ (@qt_not _ _ _ _ (@qt_tru _ _ _ (@q_call _ _ _ _ _ _ _ _ noX _ _ _ Xb (hr.mono (by decide)) (@passN _ _) (@qa_consP _ _ _ _ _ (@q_v1 _ _ 0 _ (by exact⟨rfl,rfl,rfl,rfl⟩)) (@qa_nil _) (by rfl)) (by rfl) (by decide) (by rfl) (by rfl)) (by intro _ ;rfl))) (@qss_one _ _ _ (@Fl _ _)) (@qss_nil _))),?_⟩
  simp only[Dx,Ja,F7,Bd,Ak,Au,As,List.map_cons,List.map_nil,List.length_cons,List.length_nil,Nat.zero_add,Nat.reduceSub,List.replicate,List.cons_append,List.nil_append,List.getElem?_cons_zero,Option.some.injEq,A0,Iz,List.cons.injEq,and_true,B1,exists_eq_left',D.int.injEq]
  exact⟨h1,h2,true,rfl,it1 (by decide) (Fq.of k)⟩
def Da(s:List (List Int))(c r:Nat):Int:=(s.getD c []).getD r 0
abbrev s_depth_at:Stmt:=top 23
abbrev Lm:List Str:=["sea", "cell", "column", "row"]
abbrev Bs:List Str:=["sea", "cell"]
theorem sc_depth_at:FnScope Lm Bs (Ah s_depth_at):=⟨rfl,rfl,rfl,by decide +kernel,rfl,by decide +kernel,by decide +kernel⟩
def Dn:DSp:=fun ds G Q _=>∃s c r,ds=[Bl s,.tup [.int (c:Nat),.int (r:Nat)]]∧c<s.length∧r<(s.getD c []).length∧Q (.int (Da s c r)) G
theorem K9{f:Addr}{fd:FuncData}(F:Fun K "depth_at" "depth_at" s_depth_at f fd)(T:Nums mg):FnOk P w K mg base CX0 1 f fd Bs (Ap K Dn):=by
 refine okD F sc_depth_at (fun ds G Q E h=>?_) (fun cdv A outer s H XE ds G Q E hr h=>?_)
 ·obtain⟨_,_,_,rfl,_⟩:=h;rfl
 ·obtain⟨s,c,r,rfl,hc,hr',k⟩:=h
  refine⟨_,(@qss_cons _ _ _ _ _ (@C0 _ _ _ _ _ _ (@q_v1 _ _ 1 _ (by exact⟨rfl,rfl,rfl,rfl⟩)) (@Ff _ _ _ _ _ 2 rfl (@Bg _ _ _ _ _ (@qg_name _ _ 2 _ sc_depth_at.nd (by rfl) (by exact .inl rfl) (by exact .inl rfl)) (@Bg _ _ _ _ _ (@qg_name _ _ 3 _ sc_depth_at.nd (by rfl) (by exact .inl rfl) (by exact .inl rfl)) (@D5 _) (by rfl)) (by rfl)) (by rfl) (by rfl)) (by rfl) (by rfl) (by rfl)) (@qss_one _ _ _ (@qs_ret _ _ _ _ (@Bp _ _ _ _ _ _ (@Bp _ _ _ _ _ _ (@q_v1 _ _ 0 _ (by exact⟨rfl,rfl,rfl,rfl⟩)) (@q_v1 _ _ 2 _ (by exact⟨rfl,rfl,rfl,rfl⟩)) (by intro _ _ ;rfl)) (@q_v1 _ _ 3 _ (by exact⟨rfl,rfl,rfl,rfl⟩)) (by intro _ _ ;rfl))))),?_⟩
  unfold Bl
  simp only[Bw,B5,Au,As,List.map_cons,List.map_nil,List.length_cons,List.length_nil,Nat.zero_add,Nat.reduceAdd,Nat.reduceSub,List.replicate,List.cons_append,List.nil_append,List.getElem?_cons_succ,List.getElem?_cons_zero,Option.some.injEq,Mo,Gc,A5,Mp,B3,nOp,List.set_cons_succ,List.set_cons_zero,dIx,exists_eq_left',Ed,D.tup.injEq,List.cons.injEq,and_assoc,exists_and_left,true_and,D.int.injEq]
  refine⟨Ca (s.getD c []),Cd (by simp[hc]),.int (Da s c r),?_,Fq.of k⟩
  show atI ((s.getD c []).map D.int) (r:Int)=_
  unfold Da
  generalize s.getD c []=col at *
  refine Cd ?_
  rw[List.getElem?_map,List.getElem?_eq_getElem hr',List.getD_eq_getElem?_getD,List.getElem?_eq_getElem hr'];rfl
abbrev Cl:=Int×Int
def InS(s:List (List Int))(h:Nat)(c:Cl):Prop:=0≤c.1∧c.1<s.length∧0≤c.2∧c.2<h
instance (s:List (List Int)) (h:Nat) (c:Cl):Decidable (InS s h c):=inferInstanceAs (Decidable (_∧_))
theorem InS.nat{s:List (List Int)}{h:Nat}{c:Cl}(i:InS s h c):∃x y:Nat,c=((x:Int),(y:Int))∧x<s.length∧y<h:=by
 obtain⟨a,b,c',d⟩:=i
 refine⟨c.1.toNat,c.2.toNat,Prod.ext ?_ ?_,?_,?_⟩<;>omega
theorem SeaOk.colD{s:List (List Int)}{h:Nat}(ok:SeaOk s h){x:Nat}(hx:x<s.length):(s.getD x []).length=h∧∀y∈s.getD x [],0≤y∧y≤9:=by
 have e:s.getD x []=s[x]:=by rw[List.getD_eq_getElem?_getD,List.getElem?_eq_getElem hx];rfl
 rw[e];exact ok.col _ (List.getElem_mem hx)
theorem SeaOk.head{s:List (List Int)}{h:Nat}(ok:SeaOk s h):atI (s.map Ca) 0=some (Ca (s.getD 0 []))∧(s.getD 0 []).length=h:=by
 have hw:=ok.wide
 refine⟨?_,(ok.colD (by omega)).1⟩
 cases s with
 |nil=>simp at hw
 |cons x r=>rw[List.map_cons,S6];rfl
abbrev s_is_cell:Stmt:=top 19
abbrev N2:List Str:=["sea", "thing", "column", "row"]
abbrev p_is_cell:List Str:=["sea", "thing"]
theorem sc_is_cell:FnScope N2 p_is_cell (Ah s_is_cell):=⟨rfl,rfl,rfl,by decide +kernel,rfl,by decide +kernel,by decide +kernel⟩
def spCell:DSp:=fun ds G Q _=>∃s h c,ds=[Bl s,Ag c]∧SeaOk s h∧Q (.bl (decide (InS s h c))) G
theorem Rn{f:Addr}{fd:FuncData}(F:Fun K "is_cell" "is_cell" s_is_cell f fd)(T:Nums mg)(W3:Def P w K mg base CX0 1 "is_whole_within" Aj Cc):FnOk P w K mg base CX0 2 f fd p_is_cell (Ap K spCell):=by
 refine okD F sc_is_cell (fun ds G Q E h=>?_) (fun cdv A outer s H XE ds G Q E hr h=>?_)
 ·obtain⟨_,_,_,rfl,_⟩:=h;rfl
 ·obtain⟨s,h,c,rfl,ok,k⟩:=h
  refine⟨_,(@qss_cons _ _ _ _ _ (@qs_if _ _ _ _ _ _ _ _ (@Fb _ _ _ (@Lq _ _ _ _ _ _ _ (@qt_not _ _ _ _ (@qt_tru _ _ _ (@q_callB _ _ _ _ _ _ _ _ _ (@c_isinst _) (T.blt (by decide)) (by decide +kernel) (@qa_consP _ _ _ _ _ (@q_v1 _ _ 1 _ (by exact⟨rfl,rfl,rfl,rfl⟩)) (@qa_consP _ _ _ _ _ (@q_globty _ _ _ "tuple" (T.blt (by decide)) (by decide +kernel) (by rfl) (by decide) (by decide)) (@qa_nil _) (by rfl)) (by rfl)) (by rfl) (by decide) (by decide) (by rfl) (by rfl)) (by intro _ ;rfl))) (@qw_or1 _ _ _ _ (@B7 _ _ _ _ _ _ _ _ (@Ql _) (@q_callB _ _ _ _ _ _ _ _ _ (@c_len _) (T.blt (by decide)) (by decide +kernel) (@qa_consP _ _ _ _ _ (@q_v1 _ _ 1 _ (by exact⟨rfl,rfl,rfl,rfl⟩)) (@qa_nil _) (by rfl)) (by rfl) (by decide) (by decide) (by rfl) (by rfl)) (@Ad _ _ _ _) (Bz _))))) (@qss_one _ _ _ (@qs_ret _ _ _ _ (@q_bl _ _ _ _))) (@qss_nil _)) (@qss_cons _ _ _ _ _ (@C0 _ _ _ _ _ _ (@q_v1 _ _ 1 _ (by exact⟨rfl,rfl,rfl,rfl⟩)) (@Ff _ _ _ _ _ 2 rfl (@Bg _ _ _ _ _ (@qg_name _ _ 2 _ sc_is_cell.nd (by rfl) (by exact .inl rfl) (by exact .inl rfl)) (@Bg _ _ _ _ _ (@qg_name _ _ 3 _ sc_is_cell.nd (by rfl) (by exact .inl rfl) (by exact .inl rfl)) (@D5 _) (by rfl)) (by rfl)) (by rfl) (by rfl)) (by rfl) (by rfl) (by rfl)) (@qss_one _ _ _ (@qs_ret _ _ _ _ (@q_and _ _ _ _ _ _ _ (@q_call _ _ _ _ _ _ _ _ noX _ _ _ W3 (hr.mono (by decide)) (@passN _ _) (@qa_consP _ _ _ _ _ (@q_v1 _ _ 2 _ (by exact⟨rfl,rfl,rfl,rfl⟩)) (@qa_consP _ _ _ _ _ (@Ad _ _ _ _) (@qa_consP _ _ _ _ _ (@Az _ _ _ _ _ _ _ _ (@Fc _) (@q_callB _ _ _ _ _ _ _ _ _ (@c_len _) (T.blt (by decide)) (by decide +kernel) (@qa_consP _ _ _ _ _ (@q_v1 _ _ 0 _ (by exact⟨rfl,rfl,rfl,rfl⟩)) (@qa_nil _) (by rfl)) (by rfl) (by decide) (by decide) (by rfl) (by rfl)) (@Ad _ _ _ _)) (@qa_nil _) (by rfl)) (by rfl)) (by rfl)) (by rfl) (by decide) (by rfl) (by rfl)) (@Sf _ _ _ _ _ (@q_call _ _ _ _ _ _ _ _ noX _ _ _ W3 (hr.mono (by decide)) (@passN _ _) (@qa_consP _ _ _ _ _ (@q_v1 _ _ 3 _ (by exact⟨rfl,rfl,rfl,rfl⟩)) (@qa_consP _ _ _ _ _ (@Ad _ _ _ _) (@qa_consP _ _ _ _ _ (@Az _ _ _ _ _ _ _ _ (@Fc _) (@q_callB _ _ _ _ _ _ _ _ _ (@c_len _) (T.blt (by decide)) (by decide +kernel) (@qa_consP _ _ _ _ _ (@Bp _ _ _ _ _ _ (@q_v1 _ _ 0 _ (by exact⟨rfl,rfl,rfl,rfl⟩)) (@Ad _ _ _ _) (by intro _ _ ;rfl)) (@qa_nil _) (by rfl)) (by rfl) (by decide) (by decide) (by rfl) (by rfl)) (@Ad _ _ _ _)) (@qa_nil _) (by rfl)) (by rfl)) (by rfl)) (by rfl) (by decide) (by rfl) (by rfl)))))))),?_⟩
  obtain⟨a0,hl⟩:=ok.head
  have kn:∀i,Kn G (.int i):=fun i=>⟨_,rfl⟩
  unfold Bl Ag
  simp only[Bw,Dx,nOr,Ja,F7,nCB,Ak,Au,As,List.map_cons,List.map_nil,List.length_cons,List.length_nil,Nat.zero_add,Nat.reduceAdd,Nat.reduceSub,List.replicate,List.cons_append,List.nil_append,List.getElem?_cons_succ,List.getElem?_cons_zero,Option.some.injEq,nC,A0,List.cons.injEq,D.ty.injEq,and_true,B3,B1,B5,Mo,Gc,A5,Mp,Oc,Bd,List.set_cons_succ,List.set_cons_zero,nOp,dI0,D.int.injEq,Cc,D.bl.injEq,dIx,and_assoc,exists_and_left,exists_eq_left',Ed,a0,Ca,E9,List.length_map,D.tup.injEq,true_and,kn,if_true,B6,dNe,eqS,Fv,Kr]
  refine⟨true,rfl,it1 (by decide) (it1 (by decide) ?_)⟩
  by_cases h1:Cy 0 (s.length-1) (.int c.1)=true
  ·refine it0 h1 ?_
   have e:decide (InS s h c)=Cy 0 (((s.getD 0 []).length:Nat)-1) (.int c.2):=by
    rw[hl]
    simp only[Cy,Bool.and_eq_true,decide_eq_true_eq] at h1 ⊢
    rw[Bool.eq_iff_iff,decide_eq_true_iff]
    simp only[decide_eq_true_eq,Bool.and_eq_true,InS]
    omega
   rw[e] at k
   exact Fq.of k
  ·refine it1 h1 ?_
   have e:decide (InS s h c)=false:=by
    simp only[Cy,Bool.and_eq_true,decide_eq_true_eq] at h1
    rw[decide_eq_false_iff_not]
    unfold InS
    omega
   rw[e] at k
   exact Fq.of k
abbrev s_check_cell:Stmt:=top 21
abbrev Iy:List Str:=["sea", "thing"]
abbrev Bb:List Str:=["sea", "thing"]
theorem F9:FnScope Iy Bb (Ah s_check_cell):=⟨rfl,rfl,rfl,by decide +kernel,rfl,by decide +kernel,by decide +kernel⟩
def Ce:DSp:=fun ds G Q _=>∃s h c,ds=[Bl s,Ag c]∧SeaOk s h∧InS s h c∧Q .non G
theorem Im{f:Addr}{fd:FuncData}(F:Fun K "check_cell" "check_cell" s_check_cell f fd)(T:Nums mg)(W4:Def P w K mg base CX0 2 "is_cell" p_is_cell spCell):FnOk P w K mg base CX0 3 f fd Bb (Ap K Ce):=by
 refine okD F F9 (fun ds G Q E h=>?_) (fun cdv A outer s H XE ds G Q E hr h=>?_)
 ·obtain⟨_,_,_,rfl,_⟩:=h;rfl
 ·obtain⟨s,h,c,rfl,ok,hc,k⟩:=h
  refine⟨_,(@qss_one _ _ _ (@qs_if _ _ _ _ _ _ _ _ (@qt_not _ _ _ _ (@qt_tru _ _ _ (@q_call _ _ _ _ _ _ _ _ noX _ _ _ W4 (hr.mono (by decide)) (@passN _ _) (@qa_consP _ _ _ _ _ (@q_v1 _ _ 0 _ (by exact⟨rfl,rfl,rfl,rfl⟩)) (@qa_consP _ _ _ _ _ (@q_v1 _ _ 1 _ (by exact⟨rfl,rfl,rfl,rfl⟩)) (@qa_nil _) (by rfl)) (by rfl)) (by rfl) (by decide) (by rfl) (by rfl)) (by intro _ ;rfl))) (@qss_one _ _ _ (@Fl _ _)) (@qss_nil _))),?_⟩
  simp only[Dx,Ja,F7,Bd,Ak,Au,As,List.map_cons,List.map_nil,List.length_cons,List.length_nil,Nat.zero_add,Nat.reduceAdd,Nat.reduceSub,List.replicate,List.cons_append,List.nil_append,List.getElem?_cons_zero,Option.some.injEq,List.getElem?_cons_succ,A0,spCell,List.cons.injEq,and_true,B1,and_assoc,exists_and_left,exists_eq_left']
  refine⟨s,rfl,h,c,rfl,ok,?_⟩
  rw[decide_eq_true hc]
  exact⟨true,rfl,it1 (by decide) (Fq.of k)⟩
def Ho(s:List (List Int))(c:Cl):Int:=Da s c.1.toNat c.2.toNat
theorem Jt{G:Gp}{s:List (List Int)}{i:Int}:Dt G (Bl s) i=atI (s.map Ca) i:=rfl
theorem Rr{G:Gp}{s:List (List Int)}:Hm G (Bl s)=some s.length:=congrArg some (List.length_map ..)
theorem Rs{G:Gp}{c:List Int}:Hm G (Ca c)=some c.length:=congrArg some (List.length_map ..)
theorem P4{G:Gp}{c:List Int}{i:Int}:Dt G (Ca c) i=atI (c.map D.int) i:=rfl
theorem F0{G:Gp}{o:Cl}:Dt G (Ag o) 0=some (.int o.1):=rfl
theorem Fz{G:Gp}{o:Cl}:Dt G (Ag o) 1=some (.int o.2):=rfl
theorem Oq{s:List (List Int)}{h:Nat}(ok:SeaOk s h){o:Cl}(ho:InS s h o):atI (s.map Ca) o.1=some (Ca (s.getD o.1.toNat []))∧atI ((s.getD o.1.toNat []).map D.int) o.2=some (.int (Ho s o))∧0≤Ho s o∧Ho s o≤9:=by
 obtain⟨x,y,rfl,hx,hy⟩:=ho.nat
 have hc:=ok.colD hx
 have hy':y<(s.getD x []).length:=by rw[hc.1];exact hy
 have e:(s.getD x [])[y]? = some (Da s x y):=by unfold Da;rw[List.getD_eq_getElem?_getD (l:=s.getD x []),List.getElem?_eq_getElem hy'];rfl
 refine⟨Cd (by simp[hx]),?_,hc.2 _ (List.mem_of_getElem? e)⟩
 show atI ((s.getD x []).map D.int) (y:Int)=some (.int (Da s x y))
 exact Cd (by rw[List.getElem?_map,e];rfl)
def wat(s:List (List Int))(h:Nat)(c:Cl):Bool:=decide (InS s h c)&&decide (Ho s c≠0)
theorem Ej{s:List (List Int)}{h:Nat}{c:Cl}(w:wat s h c=true):InS s h c:=by
 unfold wat at w
 simp only[Bool.and_eq_true,decide_eq_true_eq] at w
 exact w.1
abbrev s_is_water:Stmt:=top 24
abbrev Lk:List Str:=["sea", "cell"]
abbrev p_is_water:List Str:=["sea", "cell"]
theorem J1:FnScope Lk p_is_water (Ah s_is_water):=⟨rfl,rfl,rfl,by decide +kernel,rfl,by decide +kernel,by decide +kernel⟩
def spWater:DSp:=fun ds G Q _=>∃s h c,ds=[Bl s,Ag c]∧SeaOk s h∧InS s h c∧Q (.bl (wat s h c)) G
theorem Pr{f:Addr}{fd:FuncData}(F:Fun K "is_water" "is_water" s_is_water f fd)(T:Nums mg)(Xc:Def P w K mg base CX0 1 "depth_at" Bs Dn):FnOk P w K mg base CX0 2 f fd p_is_water (Ap K spWater):=by
 refine okD F J1 (fun ds G Q E h=>?_) (fun cdv A outer s H XE ds G Q E hr h=>?_)
 ·obtain⟨_,_,_,rfl,_⟩:=h;rfl
 ·obtain⟨s,h,c,rfl,ok,hc,k⟩:=h
  refine⟨_,(@qss_one _ _ _ (@qs_ret _ _ _ _ (@Sg _ _ _ _ _ _ _ _ (@Ql _) (@q_call _ _ _ _ _ _ _ _ noX _ _ _ Xc (hr.mono (by decide)) (@passN _ _) (@qa_consP _ _ _ _ _ (@q_v1 _ _ 0 _ (by exact⟨rfl,rfl,rfl,rfl⟩)) (@qa_consP _ _ _ _ _ (@q_v1 _ _ 1 _ (by exact⟨rfl,rfl,rfl,rfl⟩)) (@qa_nil _) (by rfl)) (by rfl)) (by rfl) (by decide) (by rfl) (by rfl)) (@q_globx _ _ _ _ T.LAND (by rfl) (by decide)) (Bz _)))),?_⟩
  obtain⟨x,y,rfl,hx,hy⟩:=hc.nat
  simp only[B3,nOp,Bd,Ak,Au,As,Ag,List.map_cons,List.map_nil,List.length_cons,List.length_nil,Nat.zero_add,Nat.reduceAdd,Nat.reduceSub,List.replicate,List.cons_append,List.nil_append,List.getElem?_cons_zero,Option.some.injEq,List.getElem?_cons_succ,A0,Dn,List.cons.injEq,and_true,nC,dNe,eqS,exists_eq_left',and_assoc,exists_and_left,D.tup.injEq,D.int.injEq]
  refine⟨s,rfl,x,rfl,y,rfl,hx,by rw[(ok.colD hx).1];exact hy,?_⟩
  have e:wat s h ((x:Int),(y:Int)) = !decide (Da s x y=0):=by
   unfold wat Ho
   rw[decide_eq_true hc,Bool.true_and,decide_not];rfl
  rw[e] at k
  first|exact Fq.of k|exact⟨_,rfl,Fq.of k⟩
def S4:D→Cl
 |.tup [.int x,.int y]=>(x,y)
 |_=>(0,0)
theorem Nt{c:Cl}:S4 (Ag c)=c:=rfl
theorem Np{q:Cl→Bool}{l:List Cl}:((l.map Ag).filter fun d=>q (S4 d))=(l.filter q).map Ag:=by
 rw[List.filter_map];rfl
def beside(c:Cl):List Cl:=[(c.1-1,c.2),(c.1,c.2-1),(c.1,c.2+1),(c.1+1,c.2)]
def Bv(s:List (List Int))(h:Nat)(c:Cl):List Cl:=(beside c).filter (wat s h)
abbrev s_waters_beside:Stmt:=top 25
abbrev E6:List Str:=["sea", "cell", "column", "row", "beside"]
abbrev Ay:List Str:=["sea", "cell"]
theorem sc_waters_beside:FnScope E6 Ay (Ah s_waters_beside):=⟨rfl,rfl,rfl,by decide +kernel,rfl,by decide +kernel,by decide +kernel⟩
theorem D1:((["other"]:List Str)++(["sea", "cell", "column", "row", "beside"]:List Str)).Nodup:=by decide +kernel
def Ea:DSp:=fun ds G Q _=>∃s h c,ds=[Bl s,Ag c]∧SeaOk s h∧∀p,G p=none→Q (.ref p) (Ae G p (.lst ((Bv s h c).map Ag)))
theorem M9{f:Addr}{fd:FuncData}(F:Fun K "waters_beside" "waters_beside" s_waters_beside f fd)(T:Nums mg)(W4:Def P w K mg base CX0 2 "is_cell" p_is_cell spCell)(W5:Def P w K mg base CX0 2 "is_water" p_is_water spWater):FnOk P w K mg base CX0 3 f fd Ay (Ap K Ea):=by
 refine okD F sc_waters_beside (fun ds G Q E h=>?_) (fun cdv A outer s H XE ds G Q E hr h=>?_)
 ·obtain⟨_,_,_,rfl,_⟩:=h;rfl
 ·obtain⟨s,h,c,rfl,ok,k⟩:=h
  refine⟨_,(@qss_cons _ _ _ _ _ (@C0 _ _ _ _ _ _ (@q_v1 _ _ 1 _ (by exact⟨rfl,rfl,rfl,rfl⟩)) (@Ff _ _ _ _ _ 2 rfl (@Bg _ _ _ _ _ (@qg_name _ _ 2 _ sc_waters_beside.nd (by rfl) (by exact .inl rfl) (by exact .inl rfl)) (@Bg _ _ _ _ _ (@qg_name _ _ 3 _ sc_waters_beside.nd (by rfl) (by exact .inl rfl) (by exact .inl rfl)) (@D5 _) (by rfl)) (by rfl)) (by rfl) (by rfl)) (by rfl) (by rfl) (by rfl)) (@qss_cons _ _ _ _ _ (@Av _ _ _ _ 4 _ _ sc_waters_beside.nd (@B0 _ _ _ _ (@qa_consP _ _ _ _ _ (@C7 _ _ _ _ _ (@qa_consP _ _ _ _ _ (@Az _ _ _ _ _ _ _ _ (@Fc _) (@q_v1 _ _ 2 _ (by exact⟨rfl,rfl,rfl,rfl⟩)) (@Ad _ _ _ _)) (@qa_consP _ _ _ _ _ (@q_v1 _ _ 3 _ (by exact⟨rfl,rfl,rfl,rfl⟩)) (@qa_nil _) (by rfl)) (by rfl))) (@qa_consP _ _ _ _ _ (@C7 _ _ _ _ _ (@qa_consP _ _ _ _ _ (@q_v1 _ _ 2 _ (by exact⟨rfl,rfl,rfl,rfl⟩)) (@qa_consP _ _ _ _ _ (@Az _ _ _ _ _ _ _ _ (@Fc _) (@q_v1 _ _ 3 _ (by exact⟨rfl,rfl,rfl,rfl⟩)) (@Ad _ _ _ _)) (@qa_nil _) (by rfl)) (by rfl))) (@qa_consP _ _ _ _ _ (@C7 _ _ _ _ _ (@qa_consP _ _ _ _ _ (@q_v1 _ _ 2 _ (by exact⟨rfl,rfl,rfl,rfl⟩)) (@qa_consP _ _ _ _ _ (@Az _ _ _ _ _ _ _ _ (@Be _) (@q_v1 _ _ 3 _ (by exact⟨rfl,rfl,rfl,rfl⟩)) (@Ad _ _ _ _)) (@qa_nil _) (by rfl)) (by rfl))) (@qa_consP _ _ _ _ _ (@C7 _ _ _ _ _ (@qa_consP _ _ _ _ _ (@Az _ _ _ _ _ _ _ _ (@Be _) (@q_v1 _ _ 2 _ (by exact⟨rfl,rfl,rfl,rfl⟩)) (@Ad _ _ _ _)) (@qa_consP _ _ _ _ _ (@q_v1 _ _ 3 _ (by exact⟨rfl,rfl,rfl,rfl⟩)) (@qa_nil _) (by rfl)) (by rfl))) (@qa_nil _) (by rfl)) (by rfl)) (by rfl)) (by rfl))) (by rfl) (by exact .inl rfl) (by rfl) (by exact .inl rfl)) (@qss_one _ _ _ (@qs_ret _ _ _ _ (@q_compz _ _ _ _ _ _ _ _ _ _ _ ["other"] ["sea", "cell", "column", "row", "beside"] rfl (@compOz _ _ _ _ (by rfl) (by rfl) (by rfl) (by rfl) (by rfl)) (@q_v1 _ _ 4 _ (by exact⟨rfl,rfl,rfl,rfl⟩)) (fun _ _ _=>(@qg_name _ _ 0 _ D1 (by rfl) (by exact .inl rfl) (by exact .inr rfl))) (fun _ _ _=>(@Tk _ _ _ (@Fb _ _ _ (@Kv _ _ _ _ _ _ _ (@qt_tru _ _ _ (@q_call _ _ _ _ _ _ _ _ noX _ _ _ W4 (hr.mono (by decide)) (@passN _ _) (@qa_consP _ _ _ _ _ (@q_v2 _ _ 1 _ (by exact⟨rfl,rfl,rfl,rfl⟩)) (@qa_consP _ _ _ _ _ (@q_v1 _ _ 0 _ (by exact⟨rfl,rfl,rfl,rfl⟩)) (@qa_nil _) (by rfl)) (by rfl)) (by rfl) (by decide) (by rfl) (by rfl)) (by intro _ ;rfl)) (@Hz _ _ _ _ (@qt_tru _ _ _ (@q_call _ _ _ _ _ _ _ _ noX _ _ _ W5 (hr.mono (by decide)) (@passN _ _) (@qa_consP _ _ _ _ _ (@q_v2 _ _ 1 _ (by exact⟨rfl,rfl,rfl,rfl⟩)) (@qa_consP _ _ _ _ _ (@q_v1 _ _ 0 _ (by exact⟨rfl,rfl,rfl,rfl⟩)) (@qa_nil _) (by rfl)) (by rfl)) (by rfl) (by decide) (by rfl) (by rfl)) (by intro _ ;rfl))))))) (fun _ _ _=>(@q_v1 _ _ 0 _ (by exact⟨rfl,rfl,rfl,rfl⟩))) (by intro _ ;rfl)))))),?_⟩
  unfold Ag
  have sz4:4≤sizeLine:=szl (by decide)
  have sz2:=sz2
  simp only[Bw,B5,Au,As,List.map_cons,List.map_nil,List.length_cons,List.length_nil,Nat.zero_add,Nat.reduceAdd,Nat.reduceSub,List.replicate,List.cons_append,List.nil_append,List.getElem?_cons_succ,List.getElem?_cons_zero,Option.some.injEq,Mo,Gc,A5,Mp,Ei,Ak,Mm,nOp,List.set_cons_succ,List.set_cons_zero,nC,dI0,D.int.injEq,A0,sz2,sz4,B3,Fi,exists_eq_left',true_and,D.tup.injEq,List.cons.injEq,and_assoc,exists_and_left,Ch]
  intro p hp
  have e:[D.tup [.int (c.1-1),.int c.2],.tup [.int c.1,.int (c.2-1)],.tup [.int c.1,.int (c.2+1)],.tup [.int (c.1+1),.int c.2]]=(beside c).map Ag:=rfl
  rw[e,Ai Aa]
  refine⟨_,rfl,fun p2 hp2=>?_⟩
  have hz:((beside c).map Ag).length<sizeLine:=by rw[List.length_map,sizeLine_eq];exact(by decide:4<16777216)
  refine B9 id (fun d=>wat s h (S4 d)) hz (fun _=>Ai (C6 Aa hp2)) (by decide) (fun x ys hx' hl R1 R2 g1 g2=>?_) ?_
  ·obtain⟨o,ho,rfl⟩:=List.mem_map.mp hx'
   simp only[Qp,F7,Bd,Ak,Au,List.replicate,List.cons_append,List.nil_append,List.set_cons_zero,List.getElem?_cons_succ,List.getElem?_cons_zero,Option.some.injEq,A0,spCell,List.cons.injEq,and_true,spWater,Aa,hl,A6,true_and,exists_eq_left',and_assoc,exists_and_left,reduceCtorEq,if_false]
   simp only[Nt,id] at g1 g2
   refine⟨s,rfl,h,o,rfl,ok,_,rfl,?_⟩
   by_cases hi:InS s h o
   ·refine it0 (decide_eq_true hi) ⟨s,rfl,h,o,rfl,ok,hi,_,rfl,?_⟩
    by_cases hw:wat s h o=true
    ·exact it0 hw (Fg.of (g1 hw))
    ·exact it1 hw (Fg.of (g2 (by simpa using hw)))
   ·refine it1 (by simpa using hi) (Fg.of (g2 ?_))
    cases e:wat s h o with
    |false=>rfl
    |true=>exact absurd (Ej e) hi
  ·rw[List.map_id,Np]
   have hp3:=D6 hp2
   refine⟨_,?_,k p2 hp3.2⟩
   exact Sub.upd (Sub.new hp) _ _
end
end K2
set_option maxRecDepth 100000
set_option maxHeartbeats 4000000
namespace K2
open PySem L2 D3
def Ball(s:List (List Int))(h:Nat)(c:Cl):Nat→Cl→Prop
 |0,x=>x=c
 |n+1,x=>Ball s h c n x∨∃y,Ball s h c n y∧x∈Bv s h y
theorem Lv{s:List (List Int)}{h:Nat}{x y:Cl}(hx:x∈Bv s h y):InS s h x:=Ej (List.mem_filter.mp hx).2
theorem Ball.inS{s:List (List Int)}{h:Nat}{c:Cl}(hc:InS s h c):∀{n:Nat} {x:Cl},Ball s h c n x→InS s h x
 |0,_,e=>by cases e;exact hc
 |_+1,_,.inl e=>Ball.inS hc e
 |_+1,_,.inr ⟨_,_,hx⟩=>Lv hx
theorem Ball.stop{s:List (List Int)}{h:Nat}{c:Cl}{n:Nat}{rs:List Cl}(he:∀x,x∈rs↔Ball s h c n x)(cl:∀y∈rs,∀x∈Bv s h y,x∈rs):∀(k:Nat) (x:Cl),x∈rs↔Ball s h c (n+k) x
 |0,x=>he x
 |k+1,x=>by
  have ih:=Ball.stop he cl k
  show x∈rs↔Ball s h c (n+k) x∨∃y,Ball s h c (n+k) y∧x∈Bv s h y
  refine⟨fun hx=>.inl ((ih x).mp hx),fun hx=>?_⟩
  rcases hx with hx|⟨y,hy,hx⟩
  ·exact(ih x).mpr hx
  ·exact cl y ((ih y).mpr hy) x hx
def Drift(s:List (List Int))(h:Nat)(c:Cl)(n:Nat)(x:Cl):Prop:=if wat s h c=true then Ball s h c n x else x=c
theorem Drift.inS{s:List (List Int)}{h:Nat}{c x:Cl}{n:Nat}(hc:InS s h c)(hx:Drift s h c n x):InS s h x:=by
 unfold Drift at hx
 split at hx
 ·exact Ball.inS hc hx
 ·subst hx;exact hc
theorem Ia{a:Cl}:¬B2 a a:=by unfold B2;omega
theorem P1{a b:Cl}(h:B2 a b):¬B2 b a:=by unfold B2 at *;omega
theorem O1:∀{a b:List Cl},a.Pairwise B2→b.Pairwise B2→(∀x,x∈a↔x∈b)→a=b
 |[],[],_,_,_=>rfl
 |[],y::q,_,_,h=>absurd ((h y).mpr (by simp)) (by simp)
 |x::r,[],_,_,h=>absurd ((h x).mp (by simp)) (by simp)
 |x::r,y::q,ha,hb,h=>by
  obtain⟨a1,a2⟩:=List.pairwise_cons.mp ha
  obtain⟨b1,b2⟩:=List.pairwise_cons.mp hb
  have exy:x=y:=by
   rcases List.mem_cons.mp ((h x).mp (by simp)) with e|e
   ·exact e
   ·rcases List.mem_cons.mp ((h y).mpr (by simp)) with e'|e'
    ·exact e'.symm
    ·exact absurd (b1 x e) (P1 (a1 y e'))
  subst exy
  have:r=q:=O1 a2 b2 fun z=>by
   have hz:=h z
   rw[List.mem_cons,List.mem_cons] at hz
   constructor
   ·intro hr
    rcases hz.mp (.inr hr) with e|e
    ·subst e;exact absurd (a1 z hr) Ia
    ·exact e
   ·intro hr
    rcases hz.mpr (.inr hr) with e|e
    ·subst e;exact absurd (b1 z hr) Ia
    ·exact e
  rw[this]
theorem H0:∀(n:Nat) (l:List Nat),l.Nodup→(∀x∈l,x<n)→l.length≤n
 |0,l,_,h=>by
  cases l with
  |nil=>exact Nat.le_refl _
  |cons x r=>exact absurd (h x (by simp)) (by omega)
 |n+1,l,nd,h=>by
  by_cases hn:n∈l
  ·have:=H0 n (l.erase n) (nd.erase n) fun x hx=>by
    have:=nd.mem_erase_iff.mp hx
    have:=h x this.2
    omega
   rw[List.length_erase_of_mem hn] at this
   omega
  ·have:=H0 n l nd fun x hx=>by
    have:=h x hx
    have:x≠n:=fun e=>hn (e ▸ hx)
    omega
   omega
theorem Nu{s:List (List Int)}{h:Nat}{l:List Cl}(nd:l.Nodup)(hl:∀x∈l,InS s h x):l.length≤s.length*h:=by
 have e:=H0 (s.length*h) (l.map fun x=>x.1.toNat*h+x.2.toNat) (Kz nd fun x hx y hy e=>?_) fun z hz=>?_
 ·rwa [List.length_map] at e
 ·obtain⟨a,b,c,d⟩:=hl x hx
  obtain⟨a',b',c',d'⟩:=hl y hy
  have e:=(show x.1.toNat*h+x.2.toNat=y.1.toNat*h+y.2.toNat from e)
  have hd:x.2.toNat<h:=by omega
  have hd':y.2.toNat<h:=by omega
  have e1:x.1.toNat=y.1.toNat:=by
   have h1:(x.1.toNat*h+x.2.toNat) / h=x.1.toNat:=by rw[Nat.mul_comm,Nat.mul_add_div (by omega),Nat.div_eq_of_lt hd];omega
   have h2:(y.1.toNat*h+y.2.toNat) / h=y.1.toNat:=by rw[Nat.mul_comm,Nat.mul_add_div (by omega),Nat.div_eq_of_lt hd'];omega
   rw[←h1,←h2,e]
  rw[e1] at e
  exact Prod.ext (by omega) (by omega)
 ·obtain⟨x,hx,rfl⟩:=List.mem_map.mp hz
  obtain⟨a,b,c,d⟩:=hl x hx
  have h1:x.1.toNat+1≤s.length:=by omega
  have h2:(x.1.toNat+1)*h≤s.length*h:=Nat.mul_le_mul_right _ h1
  have h3:(x.1.toNat+1)*h=x.1.toNat*h+h:=by rw[Nat.add_mul,Nat.one_mul]
  have h4:x.2.toNat<h:=by omega
  show x.1.toNat*h+x.2.toNat<_
  omega
theorem Eu{s:List (List Int)}{h:Nat}(ok:SeaOk s h){l:List Cl}(nd:l.Nodup)(hl:∀x∈l,InS s h x):l.length≤144:=by
 have h1:=Nu nd hl
 have h2:=ok.wide
 have h3:=ok.high
 have h4:s.length*h≤16*9:=Nat.mul_le_mul h2.2 h3.2
 omega
theorem Gx{l:List Cl}(h:l.Pairwise B2):l.Nodup:=h.imp fun {a b} h e=>by subst e;exact Ia h
def Bq(a:List Cl×List Cl)(o:Cl):List Cl×List Cl:=if o∈a.1 then a else (a.1++[o],a.2++[o])
def Hl(s:List (List Int))(h:Nat)(a:List Cl×List Cl)(c:Cl):List Cl×List Cl:=(Bv s h c).foldl Bq a
def Dj(s:List (List Int))(h:Nat)(edge rs:List Cl):List Cl×List Cl:=edge.foldl (Hl s h) (rs,[])
structure Stepped(r0:List Cl)(L:Cl→Prop)(a:List Cl×List Cl):Prop where
 eq:a.1=r0++a.2
 nd:a.1.Nodup
 mem:∀x,x∈a.1↔x∈r0∨L x
theorem Stepped.congr{r0:List Cl}{L L':Cl→Prop}{a:List Cl×List Cl}(S:Stepped r0 L a)(h:∀x,L x↔L' x):Stepped r0 L' a:=⟨S.eq,S.nd,fun x=>by rw[S.mem,h]⟩
theorem Stepped.step{r0:List Cl}{L:Cl→Prop}{a:List Cl×List Cl}(S:Stepped r0 L a)(o:Cl):Stepped r0 (fun x=>L x∨x=o) (Bq a o):=by
 unfold Bq
 by_cases ho:o∈a.1
 ·rw[if_pos ho]
  refine⟨S.eq,S.nd,fun x=>?_⟩
  rw[S.mem]
  constructor
  ·rintro(h|h)
   ·exact .inl h
   ·exact .inr (.inl h)
  ·rintro(h|h|h)
   ·exact .inl h
   ·exact .inr h
   ·subst h;exact(S.mem x).mp ho
 ·rw[if_neg ho]
  refine⟨by rw[S.eq,List.append_assoc],?_,fun x=>?_⟩
  ·rw[List.nodup_append]
   refine⟨S.nd,by simp,fun x hx y hy e=>?_⟩
   rw[List.mem_singleton] at hy
   subst hy;subst e;exact ho hx
  ·rw[List.mem_append,List.mem_singleton,S.mem,or_assoc]
theorem Stepped.fold{r0:List Cl}:∀(l:List Cl) {L:Cl→Prop} {a:List Cl×List Cl},Stepped r0 L a→Stepped r0 (fun x=>L x∨x∈l) (l.foldl Bq a)
 |[],_,_,S=>S.congr fun x=>by simp
 |o::l,L,a,S=>((S.step o).fold l).congr fun x=>by rw[List.mem_cons,or_assoc]
theorem Stepped.one{s:List (List Int)}{h:Nat}{r0:List Cl}:∀(edge:List Cl) {L:Cl→Prop} {a:List Cl×List Cl},Stepped r0 L a→Stepped r0 (fun x=>L x∨∃y∈edge,x∈Bv s h y) (edge.foldl (Hl s h) a)
 |[],_,_,S=>S.congr fun x=>by simp
 |o::l,L,a,S=>(Stepped.one l (S.fold (Bv s h o))).congr fun x=>by
  rw[or_assoc]
  simp only[List.mem_cons,exists_eq_or_imp]
theorem K7{s:List (List Int)}{h:Nat}{r0:List Cl}(nd:r0.Nodup)(edge:List Cl):Stepped r0 (fun x=>∃y∈edge,x∈Bv s h y) (Dj s h edge r0):=
 (Stepped.one (s:=s) (h:=h) edge (L:=fun _=>False) (a:=(r0,[])) ⟨by simp,nd,fun x=>by simp⟩).congr fun x=>by simp
structure Bfs(s:List (List Int))(h:Nat)(c:Cl)(n:Nat)(rs edge:List Cl):Prop where
 nd:rs.Nodup
 mem:∀x,x∈rs↔Ball s h c n x
 sub:∀x∈edge,x∈rs
 len:edge.length≤rs.length
 old:∀y∈rs,y ∉ edge→∀x∈Bv s h y,x∈rs
theorem Bfs.start{s:List (List Int)}{h:Nat}{c:Cl}:Bfs s h c 0 [c] [c]:=⟨by simp,fun x=>by rw[List.mem_singleton];exact Iff.rfl,fun x h=>h,Nat.le_refl _,fun y hy hn=>absurd hy hn⟩
theorem Bfs.step{s:List (List Int)}{h:Nat}{c:Cl}{n:Nat}{rs edge:List Cl}(b:Bfs s h c n rs edge):Bfs s h c (n+1) (Dj s h edge rs).1 (Dj s h edge rs).2:=by
 have S:=K7 (s:=s) (h:=h) b.nd edge
 have all:∀x,x∈(Dj s h edge rs).1↔x∈rs∨∃y∈rs,x∈Bv s h y:=fun x=>by
  rw[S.mem]
  constructor
  ·rintro(h|⟨y,hy,hx⟩)
   ·exact .inl h
   ·exact .inr ⟨y,b.sub y hy,hx⟩
  ·rintro(h|⟨y,hy,hx⟩)
   ·exact .inl h
   ·by_cases he:y∈edge
    ·exact .inr ⟨y,he,hx⟩
    ·exact .inl (b.old y hy he x hx)
 refine⟨S.nd,fun x=>?_,fun x hx=>?_,?_,fun y hy hn x hx=>?_⟩
 ·rw[all,b.mem]
  show _↔_∨_
  constructor
  ·rintro(h|⟨y,hy,hx⟩)
   ·exact .inl h
   ·exact .inr ⟨y,(b.mem y).mp hy,hx⟩
  ·rintro(h|⟨y,hy,hx⟩)
   ·exact .inl h
   ·exact .inr ⟨y,(b.mem y).mpr hy,hx⟩
 ·rw[S.eq];exact List.mem_append_right _ hx
 ·rw[S.eq,List.length_append];omega
 ·have hr:y∈rs:=by
   rw[S.eq] at hy
   exact(List.mem_append.mp hy).resolve_right hn
  exact(all x).mpr (.inr ⟨y,hr,hx⟩)
theorem Bfs.stop{s:List (List Int)}{h:Nat}{c:Cl}{n:Nat}{rs:List Cl}(b:Bfs s h c n rs [])(k:Nat)(x:Cl):x∈rs↔Ball s h c (n+k) x:=Ball.stop b.mem (fun y hy=>b.old y hy (by simp)) k x
theorem Bfs.inS{s:List (List Int)}{h:Nat}{c:Cl}{n:Nat}{rs edge:List Cl}(b:Bfs s h c n rs edge)(hc:InS s h c):∀x∈rs,InS s h x:=fun x hx=>Ball.inS hc ((b.mem x).mp hx)
theorem Mt(a:List Cl×List Cl)(o:Cl):(Bq a o).1.length≤a.1.length+1∧(Bq a o).2.length≤a.2.length+1:=by
 unfold Bq
 split
 ·omega
 ·simp
theorem Sub.over{G0 G:Gp}(s:Sub G0 G){p:Addr}(h:G0 p=none)(o:GO):Sub G0 (Ae G p o):=fun a u e=>by rw[Am (gne e h)];exact s a u e
def Cn(c:Cl):PyData:=.tuple [.int c.1,.int c.2]
theorem O9{G:Gp}{c:Cl}:RepD G (Ag c) (Cn c):=.tup (.cons (.int _) (.cons (.int _) .nil))
theorem Do{G:Gp}:∀{cs:List Cl},RepDs G (cs.map Ag) (cs.map Cn)
 |[]=>.nil
 |_::_=>.cons O9 Do
theorem P2(c:Cl):(Cn c).canLay0=true:=by simp[Cn,PyData.canLay0,PyData.canLayAll0]
theorem Dp:∀cs:List Cl,PyData.canLayAll0 (cs.map Cn)=true
 |[]=>rfl
 |c::r=>by rw[List.map_cons,PyData.canLayAll0,P2,Dp r];rfl
theorem Qb(c:Cl):(Cn c).depth=1:=by simp[Cn,PyData.depth,PyData.depthAll]
theorem Es:∀cs:List Cl,PyData.depthAll (cs.map Cn)≤1
 |[]=>Nat.zero_le _
 |c::r=>by
  rw[List.map_cons,PyData.depthAll,Qb]
  exact Nat.max_le.mpr ⟨Nat.le_refl _,Es r⟩
theorem P9(a b:Cl):PyData.eqv (Cn a) (Cn b)=decide (a=b):=by
 unfold Cn
 simp only[PyData.eqv,PyData.eqvAll]
 show((a.1 == b.1)&&((a.2 == b.2)&&true))=_
 rw[Bool.and_true,Bool.eq_iff_iff]
 simp only[Bool.and_eq_true,beq_iff_eq,decide_eq_true_eq]
 exact⟨fun h=>Prod.ext h.1 h.2,fun h=>by rw[h];exact⟨rfl,rfl⟩⟩
theorem Hc:∀a b:List Cl,PyData.eqvAll (a.map Cn) (b.map Cn)=decide (a=b)
 |[],[]=>by simp[PyData.eqvAll]
 |[],y::r=>by simp[PyData.eqvAll]
 |x::r,[]=>by simp[PyData.eqvAll]
 |x::r,y::q=>by
  simp only[List.map_cons,PyData.eqvAll,Hc r q,P9]
  rw[Bool.eq_iff_iff]
  simp
theorem Nc{G:Gp}{p q:Addr}{a b:List Cl}{Q:DK}(hp:G p=some (.lst (a.map Ag)))(hq:G q=some (.lst (b.map Ag)))(h:Q (.bl (!decide (a=b))) G):S3 (.ref p) (.ref q) G Q:=
 ⟨_,_,.lst hp Do,.lst hq Do,by rw[PyData.canLay0];exact Dp a,by rw[PyData.canLay0];exact Dp b,by rw[PyData.depth,PyData.depth];have:=Es a;omega,by rw[PyData.eqv,Hc];exact h⟩
theorem Nb{G:Gp}{p:Addr}{a:List Cl}{Q:DK}(hp:G p=some (.lst (a.map Ag)))(h:Q (.bl true) G):S3 (.ref p) .non G Q:=
 ⟨_,_,.lst hp Do,.non,by rw[PyData.canLay0];exact Dp a,rfl,by rw[PyData.depth];have:=Es a;omega,by simpa[PyData.eqv] using h⟩
end K2
set_option maxRecDepth 100000
set_option maxHeartbeats 4000000
namespace K2
open PySem L2 D3
section
variable{P:Program}{w:World}{K:W.Frag}{mg:Str→Option Value}{base:Heap}
theorem Fu:∀(l:List Cl) (a:List Cl×List Cl),(l.foldl Bq a).1.length≤a.1.length+l.length∧(l.foldl Bq a).2.length≤a.2.length+l.length
 |[],a=>⟨Nat.le_refl _,Nat.le_refl _⟩
 |o::l,a=>by
  have h1:=Mt a o
  have h2:=Fu l (Bq a o)
  rw[List.foldl_cons,List.length_cons];omega
theorem Jh(s:List (List Int))(h:Nat)(c:Cl):(Bv s h c).length≤4:=Nat.le_trans (List.length_filter_le _ _) (Nat.le_refl _)
theorem L1(s:List (List Int))(h:Nat):∀(l:List Cl) (a:List Cl×List Cl),(l.foldl (Hl s h) a).1.length≤a.1.length+4*l.length∧(l.foldl (Hl s h) a).2.length≤a.2.length+4*l.length
 |[],a=>⟨Nat.le_refl _,Nat.le_refl _⟩
 |o::l,a=>by
  have h1:=Fu (Bv s h o) a
  have h0:=Jh s h o
  have h2:=L1 s h l (Hl s h a o)
  rw[List.foldl_cons,List.length_cons]
  have e:Hl s h a o=(Bv s h o).foldl Bq a:=rfl
  rw[e] at h2 ⊢;omega
theorem Ha{α β:Type}{f:β→α→β}{l:List α}{i:Nat}{x:α}{b:β}(h:l[i]? = some x):(l.take (i+1)).foldl f b=f ((l.take i).foldl f b) x:=by
 rw[List.take_add_one,h,Option.toList_some,List.foldl_append];rfl
theorem Dq{l:List Cl}{i:Nat}{x:D}(h:(l.map Ag)[i]? = some x):∃c,l[i]? = some c∧x=Ag c:=by
 rw[List.getElem?_map] at h
 cases e:l[i]? with
 |none=>rw[e] at h;cases h
 |some c=>rw[e] at h;cases h;exact⟨c,rfl,rfl⟩
theorem szm{n:Nat}(h:n<20000):n<sizeLine:=by rw[sizeLine_eq];omega
abbrev s_one_step_on:Stmt:=top 26
abbrev Gb:List Str:=["sea", "edge", "reached", "beyond", "cell", "other"]
abbrev A8:List Str:=["sea", "edge", "reached"]
theorem sc_one_step_on:FnScope Gb A8 (Ah s_one_step_on):=⟨rfl,rfl,rfl,by decide +kernel,rfl,by decide +kernel,by decide +kernel⟩
def Eo:DSp:=fun ds G Q _=>∃s h e p edge r0,ds=[Bl s,.ref e,.ref p]∧SeaOk s h∧G e=some (.lst (edge.map Ag))∧G p=some (Ba r0)∧r0.length+4*edge.length<10000∧
 ∀q,G q=none→Q (.ref q) (Ae (Ae G p (Ba (Dj s h edge r0).1)) q (.lst ((Dj s h edge r0).2.map Ag)))
theorem K8{f:Addr}{fd:FuncData}(F:Fun K "one_step_on" "one_step_on" s_one_step_on f fd)(T:Nums mg)(Xd:Def P w K mg base CX0 3 "waters_beside" Ay Ea):FnOk P w K mg base CX0 4 f fd A8 (Ap K Eo):=by
 refine okD F sc_one_step_on (fun ds G Q E h=>?_) (fun cdv A outer s H XE ds G Q E hr h=>?_)
 ·obtain⟨_,_,_,_,_,_,rfl,_⟩:=h;rfl
 ·obtain⟨s,h,e,p,edge,r0,rfl,ok,he,hp,hz,k⟩:=h
  refine⟨_,(@qss_cons _ _ _ _ _ (@Av _ _ _ _ 3 _ _ sc_one_step_on.nd (@B0 _ _ _ _ (@qa_nil _)) (by rfl) (by exact .inl rfl) (by rfl) (by exact .inl rfl)) (@qss_cons _ _ _ _ _ (@Fe _ _ _ _ _ _ _ _ PassesOwn.never rfl (@q_v1 _ _ 1 _ (by exact⟨rfl,rfl,rfl,rfl⟩)) (@qg_name _ _ 4 _ sc_one_step_on.nd (by rfl) (by exact .inl rfl) (by exact .inl rfl)) (@qss_one _ _ _ (@Fe _ _ _ _ _ _ _ _ PassesOwn.never rfl (@q_call _ _ _ _ _ _ _ _ noX _ _ _ Xd (hr.mono (by decide)) (@passN _ _) (@qa_consP _ _ _ _ _ (@q_v1 _ _ 0 _ (by exact⟨rfl,rfl,rfl,rfl⟩)) (@qa_consP _ _ _ _ _ (@q_v1 _ _ 4 _ (by exact⟨rfl,rfl,rfl,rfl⟩)) (@qa_nil _) (by rfl)) (by rfl)) (by rfl) (by decide) (by rfl) (by rfl)) (@qg_name _ _ 5 _ sc_one_step_on.nd (by rfl) (by exact .inl rfl) (by exact .inl rfl)) (@qss_one _ _ _ (@qs_if _ _ _ _ _ _ _ _ (@B7 _ _ _ _ _ _ _ _ (@Pv _ _ hr) (@q_v1 _ _ 5 _ (by exact⟨rfl,rfl,rfl,rfl⟩)) (@q_v1 _ _ 2 _ (by exact⟨rfl,rfl,rfl,rfl⟩)) (by with_unfolding_all rfl)) (@qss_cons _ _ _ _ _ (@C0 _ _ _ _ _ _ (@q_bl _ _ _ _) (@Fh _ _ _ _ _ _ _ (@q_v1 _ _ 2 _ (by exact⟨rfl,rfl,rfl,rfl⟩)) (@q_v1 _ _ 5 _ (by exact⟨rfl,rfl,rfl,rfl⟩)) (@Lx _ _ hr) (by intro _ ;rfl)) (by rfl) (by rfl) (by rfl)) (@qss_one _ _ _ (@Dg _ _ _ _ (@Oa _ _ _ _ _ _ _ (@q_v1 _ _ 3 _ (by exact⟨rfl,rfl,rfl,rfl⟩)) (@q_v1 _ _ 5 _ (by exact⟨rfl,rfl,rfl,rfl⟩)) (by rfl) (by rfl) (by rfl) (by rfl) (by rfl)) (by rfl)))) (@qss_nil _))) (by intro _ ;rfl))) (by intro _ ;rfl)) (@qss_one _ _ _ (@qs_ret _ _ _ _ (@q_v1 _ _ 3 _ (by exact⟨rfl,rfl,rfl,rfl⟩)))))),?_⟩
  have sz0:0≤sizeLine:=Nat.zero_le _
  simp only[Bw,B5,Ei,A0,List.length_nil,sz0,A5,Mn,Au,As,List.map_cons,List.map_nil,List.length_cons,Nat.zero_add,Nat.reduceAdd,Nat.reduceSub,List.replicate,List.cons_append,List.nil_append,List.set_cons_succ,List.set_cons_zero,List.getElem?_cons_succ,List.getElem?_cons_zero,Option.some.injEq,exists_eq_left',true_and]
  intro q hq
  have nep:e≠p:=fun z=>by rw[z,hp] at he;cases he
  have neq:e≠q:=gne he hq
  have npq:p≠q:=gne hp hq
  let GG:=fun(a:List Cl×List Cl)=>Ae (Ae G p (Ba a.1)) q (.lst (a.2.map Ag))
  have g0:∀a,Bf (GG a) (.ref e)=some (edge.map Ag):=fun a=>Ai (by show Ae (Ae G _ _) _ _ _=_;rw[Am neq,Am nep];exact he)
  refine⟨edge.map Ag,Ai (C6 he hq),?_⟩
  refine Cv (fun i σ G'=>∃v4 v5,σ=[some (Bl s),some (.ref e),some (.ref p),some (.ref q),v4,v5]∧GG ((edge.take i).foldl (Hl s h) (r0,[]))=G') ⟨none,none,rfl,?_⟩ ?_ ?_ ?_
  ·show Ae (Ae G p (Ba r0)) q _=_
   rw[Gk hp];rfl
  ·rintro i σ _ _ ⟨v4,v5,rfl,rfl⟩
   exact g0 _
  ·rintro i x σ _ hx ⟨v4,v5,rfl,rfl⟩
   obtain⟨c,hc,rfl⟩:=Dq hx
   have hi:i<edge.length:=(List.getElem?_eq_some_iff.mp hc).1
   have ea:=Ha (f:=Hl s h) (b:=(r0,[])) hc
   have hal:=L1 s h (edge.take i) (r0,[])
   rw[List.length_take,Nat.min_eq_left (Nat.le_of_lt hi)] at hal
   generalize (edge.take i).foldl (Hl s h) (r0,[])=a at *
   rw[ea]
   simp only[A5,Mn,Bd,Ak,Au,List.set_cons_succ,List.set_cons_zero,List.getElem?_cons_zero,Option.some.injEq,List.getElem?_cons_succ,A0,Ea,List.cons.injEq,and_true,and_assoc,exists_and_left,exists_eq_left']
   refine⟨s,rfl,h,c,rfl,ok,fun l hl=>?_⟩
   have hl0:=D6 hl
   have hl1:=D6 hl0.2
   refine⟨_,Ai Aa,?_⟩
   refine Cv (fun j σ G'=>∃v5,σ=[some (Bl s),some (.ref e),some (.ref p),some (.ref q),some (Ag c),v5]∧Ae (GG (((Bv s h c).take j).foldl Bq a)) l (.lst ((Bv s h c).map Ag))=G') ⟨_,rfl,rfl⟩ ?_ ?_ ?_
   ·rintro j σ _ _ ⟨v5,rfl,rfl⟩
    exact Ai Aa
   ·rintro j x σ _ hx ⟨v5,rfl,rfl⟩
    obtain⟨o,ho,rfl⟩:=Dq hx
    have hj:j<(Bv s h c).length:=(List.getElem?_eq_some_iff.mp ho).1
    have hw:=Jh s h c
    have eb:=Ha (f:=Bq) (b:=a) ho
    have hbl:=Fu ((Bv s h c).take j) a
    rw[List.length_take,Nat.min_eq_left (Nat.le_of_lt hj)] at hbl
    generalize ((Bv s h c).take j).foldl Bq a=b at *
    have gp:Ae (GG b) l (.lst ((Bv s h c).map Ag)) p=some (Ba b.1):=by
     show Ae (Ae (Ae G _ _) _ _) _ _ _=_
     rw[Am hl1.1,Am npq,Aa]
    have sz1:(b.1.map fun c=>(Ao c,D.bl true)).length<sizeLine:=by rw[List.length_map];exact szm (by simp at hal;omega)
    simp only[A5,Dx,B6,nOp,Au,List.set_cons_succ,List.set_cons_zero,List.getElem?_cons_succ,List.getElem?_cons_zero,Option.some.injEq,Vd,if_true,D.bl.injEq,Bw,B5,nC,N5,Og,Je,Qo,exists_eq_left',D.ref.injEq,C4,gp,Ba,B1]
    refine⟨_,rfl,?_⟩
    rw[Gj,eb]
    by_cases hm:o∈b.1
    ·refine it1 (by simp[hm]) ?_
     have e2:Bq b o=b:=by unfold Bq;rw[if_pos hm]
     rw[e2]
     exact Fs.of ⟨_,rfl,rfl⟩
    ·refine it0 (by simp[hm]) ?_
     have gq:∀u,Ae (Ae (GG b) l (.lst ((Bv s h c).map Ag))) p u q=some (.lst (b.2.map Ag)):=fun u=>by
      show Ae (Ae (Ae (Ae G _ _) _ _) _ _) _ _ _=_
      rw[Am npq.symm,Am hl0.1,Aa]
     refine⟨_,rfl,sz1,⟨_,gq _⟩,_,gq _,by rw[List.length_map];exact szm (by simp at hal;omega),?_⟩
     rw[Ep]
     have e2:Bq b o=(b.1++[o],b.2++[o]):=by unfold Bq;rw[if_neg hm]
     have e3:Ck b.1 o=b.1++[o]:=by unfold Ck;rw[if_neg hm]
     rw[e2,e3]
     refine Fs.of ⟨_,rfl,?_⟩
     show Ae (Ae (Ae G p (Ba (b.1++[o]))) q (.lst ((b.2++[o]).map Ag))) l _=Ae (Ae (Ae (Ae (Ae G p (Ba b.1)) q (.lst (b.2.map Ag))) l _) p (Ba (b.1++[o]))) q (.lst (b.2.map Ag++[Ag o]))
     rw[En (a:=l) (b:=p) hl1.1.symm,En (a:=q) (b:=p) npq.symm,A6,En (a:=l) (b:=q) hl0.1.symm,A6,List.map_append];rfl
   ·rintro σ _ ⟨v5,rfl,rfl⟩
    rw[List.length_map,List.take_length]
    exact⟨_,Sub.new (by show Ae (Ae G _ _) _ _ _=_;rw[Am hl0.1.symm,Am hl1.1.symm];exact hl1.2),_,_,rfl,rfl⟩
  ·rintro σ _ ⟨v4,v5,rfl,rfl⟩
   rw[List.length_map,List.take_length]
   simp only[B3,Au,List.getElem?_cons_succ,List.getElem?_cons_zero,Option.some.injEq,exists_eq_left']
   exact Fq.of (k q hq)
abbrev s_drift:Stmt:=top 27
abbrev R8:List Str:=["sea", "cell", "days", "reached", "edge", "left"]
abbrev Dh:List Str:=["sea", "cell", "days"]
theorem sc_drift:FnScope R8 Dh (Ah s_drift):=⟨rfl,rfl,rfl,by decide +kernel,rfl,by decide +kernel,by decide +kernel⟩
def spDrift:DSp:=fun ds G Q _=>∃s h c days,ds=[Bl s,Ag c,.int days]∧SeaOk s h∧InS s h c∧0≤days∧days≤400∧∀ms:List Cl,ms.Pairwise B2→(∀x,x∈ms↔Drift s h c days.toNat x)→Q (.tup (ms.map Ag)) G
def WDr(s:List (List Int))(h:Nat)(c:Cl)(days:Int)(p:Addr)(G:Gp)(m:Nat)(σ:DSt)(G':Gp):Prop:=∃(n:Nat) (left:Int) (rs edge:List Cl) (e:Addr),σ=[some (Bl s),some (Ag c),some (.int days),some (.ref p),some (.ref e),some (.int left)]∧
 G' p=some (Ba rs)∧G' e=some (.lst (edge.map Ag))∧Bfs s h c n rs edge∧left+n=days∧0≤left∧m=left.toNat∧Sub G G'
theorem Pt{f:Addr}{fd:FuncData}(F:Fun K "drift" "drift" s_drift f fd)(T:Nums mg)(Xe:Def P w K mg base CX0 5 "check_sea" p_check_sea spCheckSea)(Xf:Def P w K mg base CX0 3 "check_cell" Bb Ce)(Xg:Def P w K mg base CX0 3 "check_day" p_check_day (spChk 0 400))(W5:Def P w K mg base CX0 2 "is_water" p_is_water spWater)(Xh:Def P w K mg base CX0 4 "one_step_on" A8 Eo) :
  FnOk P w K mg base CX0 6 f fd Dh (Ap K spDrift):=by
 refine okD F sc_drift (fun ds G Q E h=>?_) (fun cdv A outer s H XE ds G Q E hr h=>?_)
 ·obtain⟨_,_,_,_,rfl,_⟩:=h;rfl
 ·obtain⟨s,h,c,days,rfl,ok,hc,d0,d1,k⟩:=h
  refine⟨_,(@qss_cons _ _ _ _ _ (@Dg _ _ _ _ (@q_call _ _ _ _ _ _ _ _ noX _ _ _ Xe (hr.mono (by decide)) (@passN _ _) (@qa_consP _ _ _ _ _ (@q_v1 _ _ 0 _ (by exact⟨rfl,rfl,rfl,rfl⟩)) (@qa_nil _) (by rfl)) (by rfl) (by decide) (by rfl) (by rfl)) (by rfl)) (@qss_cons _ _ _ _ _ (@Dg _ _ _ _ (@q_call _ _ _ _ _ _ _ _ noX _ _ _ Xf (hr.mono (by decide)) (@passN _ _) (@qa_consP _ _ _ _ _ (@q_v1 _ _ 0 _ (by exact⟨rfl,rfl,rfl,rfl⟩)) (@qa_consP _ _ _ _ _ (@q_v1 _ _ 1 _ (by exact⟨rfl,rfl,rfl,rfl⟩)) (@qa_nil _) (by rfl)) (by rfl)) (by rfl) (by decide) (by rfl) (by rfl)) (by rfl)) (@qss_cons _ _ _ _ _ (@Dg _ _ _ _ (@q_call _ _ _ _ _ _ _ _ noX _ _ _ Xg (hr.mono (by decide)) (@passN _ _) (@qa_consP _ _ _ _ _ (@q_v1 _ _ 2 _ (by exact⟨rfl,rfl,rfl,rfl⟩)) (@qa_nil _) (by rfl)) (by rfl) (by decide) (by rfl) (by rfl)) (by rfl)) (@qss_cons _ _ _ _ _ (@qs_if _ _ _ _ _ _ _ _ (@qt_not _ _ _ _ (@qt_tru _ _ _ (@q_call _ _ _ _ _ _ _ _ noX _ _ _ W5 (hr.mono (by decide)) (@passN _ _) (@qa_consP _ _ _ _ _ (@q_v1 _ _ 0 _ (by exact⟨rfl,rfl,rfl,rfl⟩)) (@qa_consP _ _ _ _ _ (@q_v1 _ _ 1 _ (by exact⟨rfl,rfl,rfl,rfl⟩)) (@qa_nil _) (by rfl)) (by rfl)) (by rfl) (by decide) (by rfl) (by rfl)) (by intro _ ;rfl))) (@qss_one _ _ _ (@qs_ret _ _ _ _ (@C7 _ _ _ _ _ (@qa_consP _ _ _ _ _ (@q_v1 _ _ 1 _ (by exact⟨rfl,rfl,rfl,rfl⟩)) (@qa_nil _) (by rfl))))) (@qss_nil _)) (@qss_cons _ _ _ _ _ (@Av _ _ _ _ 3 _ _ sc_drift.nd (@Q4 _ _ _ _ _ _ _ hr (@q_v1 _ _ 1 _ (by exact⟨rfl,rfl,rfl,rfl⟩)) (@q_bl _ _ _ _)) (by rfl) (by exact .inl rfl) (by rfl) (by exact .inl rfl)) (@qss_cons _ _ _ _ _ (@Av _ _ _ _ 4 _ _ sc_drift.nd (@B0 _ _ _ _ (@qa_consP _ _ _ _ _ (@q_v1 _ _ 1 _ (by exact⟨rfl,rfl,rfl,rfl⟩)) (@qa_nil _) (by rfl))) (by rfl) (by exact .inl rfl) (by rfl) (by exact .inl rfl)) (@qss_cons _ _ _ _ _ (@Av _ _ _ _ 5 _ _ sc_drift.nd (@q_v1 _ _ 2 _ (by exact⟨rfl,rfl,rfl,rfl⟩)) (by rfl) (by exact .inl rfl) (by rfl) (by exact .inl rfl)) (@qss_cons _ _ _ _ _ (@Pd _ _ _ _ _ _ PassesOwn.never (@Fb _ _ _ (@Kv _ _ _ _ _ _ _ (@qt_tru _ _ _ (@q_v1 _ _ 4 _ (by exact⟨rfl,rfl,rfl,rfl⟩)) (by intro _ ;rfl)) (@Hz _ _ _ _ (@B7 _ _ _ _ _ _ _ _ (@Vb _) (@q_v1 _ _ 5 _ (by exact⟨rfl,rfl,rfl,rfl⟩)) (@Ad _ _ _ _) (Bz _))))) (@qss_cons _ _ _ _ _ (@Av _ _ _ _ 4 _ _ sc_drift.nd (@q_call _ _ _ _ _ _ _ _ noX _ _ _ Xh (hr.mono (by decide)) (@passN _ _) (@qa_consP _ _ _ _ _ (@q_v1 _ _ 0 _ (by exact⟨rfl,rfl,rfl,rfl⟩)) (@qa_consP _ _ _ _ _ (@q_v1 _ _ 4 _ (by exact⟨rfl,rfl,rfl,rfl⟩)) (@qa_consP _ _ _ _ _ (@q_v1 _ _ 3 _ (by exact⟨rfl,rfl,rfl,rfl⟩)) (@qa_nil _) (by rfl)) (by rfl)) (by rfl)) (by rfl) (by decide) (by rfl) (by rfl)) (by rfl) (by exact .inl rfl) (by rfl) (by exact .inl rfl)) (@qss_one _ _ _ (@Tj _ _ _ _ 5 _ _ _ _ sc_drift.nd (@Uv _) (@Ad _ _ _ _) (by rfl) (by exact .inl rfl) (by exact .inl rfl))))) (@qss_one _ _ _ (@qs_ret _ _ _ _ (@Cp _ _ _ _ _ _ _ _ _ (@D8 _) (T.blt (by decide)) (by decide +kernel) (@qa_consP _ _ _ _ _ (@q_callB _ _ _ _ _ _ _ _ _ (@Hg _ rfl) (T.blt (by decide)) (by decide +kernel) (@qa_consP _ _ _ _ _ (@q_v1 _ _ 3 _ (by exact⟨rfl,rfl,rfl,rfl⟩)) (@qa_nil _) (by rfl)) (by rfl) (by decide) (by decide) (by rfl) (by rfl)) (@qa_nil _) (by rfl)) (by rfl) (by decide) (by decide) (by rfl) (by rfl)))))))))))),?_⟩
  have sz1:1≤sizeLine:=szl (by decide)
  simp only[Bw,Je,Bd,Ak,Au,As,List.map_cons,List.map_nil,List.length_cons,List.length_nil,Nat.zero_add,Nat.reduceAdd,Nat.reduceSub,List.replicate,List.cons_append,List.nil_append,List.getElem?_cons_zero,Option.some.injEq,A0,spCheckSea,List.cons.injEq,and_true,List.getElem?_cons_succ,Ce,spChk,Dx,Ja,F7,spWater,B3,Mm,sz1,true_and,exists_eq_left',B1,B5,Oz,nC,Aa,A5,Ei,List.set_cons_succ,List.set_cons_zero,A6,and_assoc,exists_and_left,D.int.injEq]
  refine⟨s,rfl,h,ok,s,rfl,h,c,rfl,ok,hc,d0,d1,s,rfl,h,c,rfl,ok,hc,?_⟩
  refine⟨_,rfl,?_⟩
  by_cases hw:wat s h c=true
  ·refine it1 (by simp[hw]) fun p hp=>⟨_,C4,fun q hq=>?_⟩
   have hq0:=D6 hq
   refine⟨WDr s h c days p G,⟨days.toNat,0,days,[c],[c],q,rfl,by rw[Am hq0.1,Aa];rfl,Aa,Bfs.start,by omega,d0,rfl,(Sub.new hp).trans (Sub.new hq)⟩,?_⟩
   rintro m σ G' ⟨n,left,rs,edge,e,rfl,gp,ge,B,hn,hl,rfl,sb⟩
   have te:Ml G' (.ref e)=some (!(edge.map Ag).isEmpty):=by simp only[Ml,ge]
   have h144:rs.length≤144:=Eu ok B.nd (B.inS hc)
   have hlen:=B.len
   have fin:(∀x,x∈rs↔Ball s h c days.toNat x)→∃ks:List ((Int×Int)×D),G' p=some (.dct (ks.map fun k=>(Ao k.1,k.2)))∧ks.length≤10000∧(∀k∈ks,0≤k.1.2∧k.1.2<1000)∧∀(l:Addr) (ms:List (Int×Int)),G' l=none→ms.Perm (ks.map (·.1))→ms.Pairwise B2→∃es,Bf (Ae G' l (.lst (ms.map Ag))) (.ref l)=some es∧Fq Q (.tup es) (Ae G' l (.lst (ms.map Ag))):=fun hall=>by
    refine⟨rs.map fun x=>(x,D.bl true),by rw[gp,List.map_map];rfl,by rw[List.length_map];omega,fun k hk=>?_,fun l ms hl hm hp=>?_⟩
    ·obtain⟨x,hx,rfl⟩:=List.mem_map.mp hk
     obtain⟨_,_,a3,a4⟩:=B.inS hc x hx
     have:=ok.high
     exact⟨a3,by show x.2<1000;omega⟩
    ·refine⟨_,Ai Aa,G,sb.trans (Sub.new hl),k ms hp fun x=>?_⟩
     have e1:(rs.map fun x=>(x,D.bl true)).map (·.1)=rs:=by rw[List.map_map];exact List.map_id _
     rw[e1] at hm
     rw[hm.mem_iff,hall,Drift,if_pos hw]
   simp only[Qp,F7,Au,List.getElem?_cons_succ,List.getElem?_cons_zero,Option.some.injEq,B6,nOp,nC,dI0,D.int.injEq,D.bl.injEq,Bw,B5,Bd,Ak,A0,A5,Vc,List.set_cons_succ,List.set_cons_zero,exists_eq_left',B3,nCB,List.cons.injEq,and_true,D.ref.injEq,decide_eq_true_eq,reduceCtorEq,if_false,te]
   cases edge with
   |nil=>
    refine it1 (by simp) (fin fun x=>?_)
    have:=B.stop left.toNat x
    rw[show n+left.toNat=days.toNat by omega] at this;exact this
   |cons e0 er=>
    refine it0 (by simp) ?_
    by_cases h0:0<left
    ·refine it0 h0 ⟨WDr s h c days p G (left-1).toNat,fun σ' G'' hW=>⟨_,by omega,hW⟩,s,h,e,p,e0::er,rs,rfl,ok,ge,gp,by omega,fun q2 hq2=>?_⟩
     exact Fs.of ⟨n+1,left-1,_,_,q2,rfl,by rw[Am (gne gp hq2),Aa],Aa,B.step,by omega,by omega,rfl,Sub.over (Sub.over sb hp _) (sb.none hq2) _⟩
    ·refine it1 h0 (fin fun x=>?_)
     rw[B.mem,show n=days.toNat by omega]
  ·refine it0 (by simpa using hw) (Fq.of ?_)
   have:=k [c] (List.pairwise_singleton _ _) fun x=>by rw[List.mem_singleton,Drift,if_neg hw]
   exact this
end
end K2
set_option maxRecDepth 100000
set_option maxHeartbeats 4000000
namespace K2
open PySem L2 D3
section
variable{P:Program}{w:World}{K:W.Frag}{mg:Str→Option Value}{base:Heap}
abbrev s_L_sea:Stmt:=top 32
abbrev R9:List Str:=["_law_box_here", "_law_wide", "_law_high", "_law_columns", "_law_rows", "_law_way", "_law_found", "_law_column", "_law_depths", "_law_row", "_law_depth"]
abbrev Di:List Str:=["_law_box_here", "_law_wide", "_law_high"]
theorem sc_L_sea:FnScope R9 Di (Ah s_L_sea):=⟨rfl,rfl,rfl,by decide +kernel,rfl,by decide +kernel,by decide +kernel⟩
def Kt:DSp:=fun ds G Q _=>∃a wide high,ds=[.ref a,.int wide,.int high]∧Ez (G a)∧(2≤wide∧wide≤16∧1≤high∧high≤9)∧∀s h G',SeaOk s h→Step a G G'→Q (Bl s) G'
theorem Rm{f:Addr}{fd:FuncData}(F:Fun K "_law_sea" "_law_sea" s_L_sea f fd)(T:Blt mg)(W2:Def P w K mg base CX0 2 "_law_take" p_L_take spTake):FnOk P w K mg base CX0 3 f fd Di (Ap K Kt):=by
 refine okD F sc_L_sea (fun ds G Q E h=>?_) (fun cdv A outer s H XE ds G Q E hr h=>?_)
 ·obtain⟨a,wide,high,rfl,_⟩:=h;rfl
 ·obtain⟨a,wide,high,rfl,hb,⟨w0,w1,g0,g1⟩,k⟩:=h
  refine⟨_,(@qss_cons _ _ _ _ _ (@Kw _ _ _ _ 3 4 _ _ _ _ _ _ _ _ _ rfl sc_L_sea.nd (@qa_consP _ _ _ _ _ (@Az _ _ _ _ _ _ _ _ (@Be _) (@Ad _ _ _ _) (@q_call _ _ _ _ _ _ _ _ noX _ _ _ W2 (hr.mono (by decide)) (@passN _ _) (@qa_consP _ _ _ _ _ (@q_v1 _ _ 0 _ (by exact⟨rfl,rfl,rfl,rfl⟩)) (@qa_consP _ _ _ _ _ (@Az _ _ _ _ _ _ _ _ (@Fc _) (@q_v1 _ _ 1 _ (by exact⟨rfl,rfl,rfl,rfl⟩)) (@Ad _ _ _ _)) (@qa_nil _) (by rfl)) (by rfl)) (by rfl) (by decide) (by rfl) (by rfl))) (@qa_consP _ _ _ _ _ (@Az _ _ _ _ _ _ _ _ (@Be _) (@Ad _ _ _ _) (@q_call _ _ _ _ _ _ _ _ noX _ _ _ W2 (hr.mono (by decide)) (@passN _ _) (@qa_consP _ _ _ _ _ (@q_v1 _ _ 0 _ (by exact⟨rfl,rfl,rfl,rfl⟩)) (@qa_consP _ _ _ _ _ (@q_v1 _ _ 2 _ (by exact⟨rfl,rfl,rfl,rfl⟩)) (@qa_nil _) (by rfl)) (by rfl)) (by rfl) (by decide) (by rfl) (by rfl))) (@qa_nil _) (by rfl)) (by rfl)) (by rfl) (by rfl) (by decide) (by rfl) (by rfl) (by rfl) (by rfl)) (@qss_cons _ _ _ _ _ (@Kw _ _ _ _ 5 6 _ _ _ _ _ _ _ _ _ rfl sc_L_sea.nd (@qa_consP _ _ _ _ _ (@q_call _ _ _ _ _ _ _ _ noX _ _ _ W2 (hr.mono (by decide)) (@passN _ _) (@qa_consP _ _ _ _ _ (@q_v1 _ _ 0 _ (by exact⟨rfl,rfl,rfl,rfl⟩)) (@qa_consP _ _ _ _ _ (@Ad _ _ _ _) (@qa_nil _) (by rfl)) (by rfl)) (by rfl) (by decide) (by rfl) (by rfl)) (@qa_consP _ _ _ _ _ (@B0 _ _ _ _ (@qa_nil _)) (@qa_nil _) (by rfl)) (by rfl)) (by rfl) (by rfl) (by decide) (by rfl) (by rfl) (by rfl) (by rfl)) (@qss_cons _ _ _ _ _ (@C1 _ _ _ _ _ _ _ _ _ _ PassesOwn.never rfl (T.blt (by decide)) (@qa_consP _ _ _ _ _ (@q_v1 _ _ 3 _ (by exact⟨rfl,rfl,rfl,rfl⟩)) (@qa_nil _) (by rfl)) (@qg_name _ _ 7 _ sc_L_sea.nd (by rfl) (by exact .inl rfl) (by exact .inl rfl)) (@qss_cons _ _ _ _ _ (@Av _ _ _ _ 8 _ _ sc_L_sea.nd (@B0 _ _ _ _ (@qa_nil _)) (by rfl) (by exact .inl rfl) (by rfl) (by exact .inl rfl)) (@qss_cons _ _ _ _ _ (@C1 _ _ _ _ _ _ _ _ _ _ PassesOwn.never rfl (T.blt (by decide)) (@qa_consP _ _ _ _ _ (@q_v1 _ _ 4 _ (by exact⟨rfl,rfl,rfl,rfl⟩)) (@qa_nil _) (by rfl)) (@qg_name _ _ 9 _ sc_L_sea.nd (by rfl) (by exact .inl rfl) (by exact .inl rfl)) (@qss_cons _ _ _ _ _ (@Av _ _ _ _ 10 _ _ sc_L_sea.nd (@Bp _ _ _ _ _ _ (@B0 _ _ _ _ (@qa_consP _ _ _ _ _ (@Ad _ _ _ _) (@qa_consP _ _ _ _ _ (@Ad _ _ _ _) (@qa_consP _ _ _ _ _ (@Ad _ _ _ _) (@qa_consP _ _ _ _ _ (@Az _ _ _ _ _ _ _ _ (@Be _) (@Ad _ _ _ _) (@q_call _ _ _ _ _ _ _ _ noX _ _ _ W2 (hr.mono (by decide)) (@passN _ _) (@qa_consP _ _ _ _ _ (@q_v1 _ _ 0 _ (by exact⟨rfl,rfl,rfl,rfl⟩)) (@qa_consP _ _ _ _ _ (@Ad _ _ _ _) (@qa_nil _) (by rfl)) (by rfl)) (by rfl) (by decide) (by rfl) (by rfl))) (@qa_nil _) (by rfl)) (by rfl)) (by rfl)) (by rfl))) (@q_call _ _ _ _ _ _ _ _ noX _ _ _ W2 (hr.mono (by decide)) (@passN _ _) (@qa_consP _ _ _ _ _ (@q_v1 _ _ 0 _ (by exact⟨rfl,rfl,rfl,rfl⟩)) (@qa_consP _ _ _ _ _ (@Ad _ _ _ _) (@qa_nil _) (by rfl)) (by rfl)) (by rfl) (by decide) (by rfl) (by rfl)) (by intro _ _ ;rfl)) (by rfl) (by exact .inl rfl) (by rfl) (by exact .inl rfl)) (@qss_cons _ _ _ _ _ (@Ou _ _ _ _ _ _ _ _ (@B7 _ _ _ _ _ _ _ _ (@Qn _) (@q_call _ _ _ _ _ _ _ _ noX _ _ _ W2 (hr.mono (by decide)) (@passN _ _) (@qa_consP _ _ _ _ _ (@q_v1 _ _ 0 _ (by exact⟨rfl,rfl,rfl,rfl⟩)) (@qa_consP _ _ _ _ _ (@Bp _ _ _ _ _ _ (@B0 _ _ _ _ (@qa_consP _ _ _ _ _ (@Ad _ _ _ _) (@qa_consP _ _ _ _ _ (@Ad _ _ _ _) (@qa_consP _ _ _ _ _ (@Ad _ _ _ _) (@qa_consP _ _ _ _ _ (@Ad _ _ _ _) (@qa_nil _) (by rfl)) (by rfl)) (by rfl)) (by rfl))) (@q_v1 _ _ 5 _ (by exact⟨rfl,rfl,rfl,rfl⟩)) (by intro _ _ ;rfl)) (@qa_nil _) (by rfl)) (by rfl)) (by rfl) (by decide) (by rfl) (by rfl)) (@Ad _ _ _ _) (Bz _)) (@qss_one _ _ _ (@Av _ _ _ _ 10 _ _ sc_L_sea.nd (@Bp _ _ _ _ _ _ (@B0 _ _ _ _ (@qa_consP _ _ _ _ _ (@Ad _ _ _ _) (@qa_consP _ _ _ _ _ (@Ad _ _ _ _) (@qa_consP _ _ _ _ _ (@Ad _ _ _ _) (@qa_consP _ _ _ _ _ (@Ad _ _ _ _) (@qa_nil _) (by rfl)) (by rfl)) (by rfl)) (by rfl))) (@q_call _ _ _ _ _ _ _ _ noX _ _ _ W2 (hr.mono (by decide)) (@passN _ _) (@qa_consP _ _ _ _ _ (@q_v1 _ _ 0 _ (by exact⟨rfl,rfl,rfl,rfl⟩)) (@qa_consP _ _ _ _ _ (@Ad _ _ _ _) (@qa_nil _) (by rfl)) (by rfl)) (by rfl) (by decide) (by rfl) (by rfl)) (by intro _ _ ;rfl)) (by rfl) (by exact .inl rfl) (by rfl) (by exact .inl rfl))) (@qss_nil _)) (@qss_one _ _ _ (@Dg _ _ _ _ (@Oa _ _ _ _ _ _ _ (@q_v1 _ _ 8 _ (by exact⟨rfl,rfl,rfl,rfl⟩)) (@q_v1 _ _ 10 _ (by exact⟨rfl,rfl,rfl,rfl⟩)) (by rfl) (by rfl) (by rfl) (by rfl) (by rfl)) (by rfl))))) (by rfl) (by rfl) (by intro _ ;rfl)) (@qss_one _ _ _ (@Dg _ _ _ _ (@Oa _ _ _ _ _ _ _ (@q_v1 _ _ 6 _ (by exact⟨rfl,rfl,rfl,rfl⟩)) (@Cp _ _ _ _ _ _ _ _ _ (@D8 _) (T.blt (by decide)) (by decide +kernel) (@qa_consP _ _ _ _ _ (@q_v1 _ _ 8 _ (by exact⟨rfl,rfl,rfl,rfl⟩)) (@qa_nil _) (by rfl)) (by rfl) (by decide) (by decide) (by rfl) (by rfl)) (by rfl) (by rfl) (by rfl) (by rfl) (by rfl)) (by rfl))))) (by rfl) (by rfl) (by intro _ ;rfl)) (@qss_one _ _ _ (@qs_ret _ _ _ _ (@Cp _ _ _ _ _ _ _ _ _ (@D8 _) (T.blt (by decide)) (by decide +kernel) (@qa_consP _ _ _ _ _ (@q_v1 _ _ 6 _ (by exact⟨rfl,rfl,rfl,rfl⟩)) (@qa_nil _) (by rfl)) (by rfl) (by decide) (by decide) (by rfl) (by rfl))))))),?_⟩
  have sz0:0≤sizeLine:=Nat.zero_le _
  have sz4:4≤sizeLine:=szl (by decide)
  simp only[Bw,S0,Ak,nOp,nC,Bd,Au,As,List.map_cons,List.map_nil,List.length_cons,List.length_nil,Nat.zero_add,Nat.reduceAdd,Nat.reduceSub,List.replicate,List.cons_append,List.nil_append,List.getElem?_cons_zero,Option.some.injEq,List.getElem?_cons_succ,dI0,D.int.injEq,A0,List.cons.injEq,and_true,List.set_cons_succ,List.set_cons_zero,Ei,sz0,Ey,Int.reducePow,Int.reduceNeg,and_assoc,exists_eq_left',exists_and_left,true_and]
  refine Bh hb (by omega) (by omega) fun r1 G1 r1l r1h s1=>?_
  rw[Ch]
  refine Bh s1.box (by omega) (by omega) fun r2 G2 r2l r2h s2=>?_
  have s2:=s1.trans s2
  rw[Ch]
  refine Bh s2.box (by omega) (by omega) fun r3 G3 r3l r3h s3=>?_
  have s3:=s2.trans s3
  intro p hp
  have s4:=s3.lay (o:=.lst []) hp
  have nap:=Step.ne s3.box hp
  have hpG:=s3.back hp
  have gp:Ae G3 p (.lst []) p=some (.lst []):=Aa
  generalize Ae G3 p (.lst [])=G4 at *
  refine⟨_,rfl,by omega,by omega,?_⟩
  refine Bj (fun i σ G'=>∃(cols:List (List Int)) (v7 v8 v9 v10:Option D),σ=[some (.ref a),some (.int wide),some (.int high),some (.int (2+r1)),some (.int (1+r2)),some (.int r3),some (.ref p),v7,v8,v9,v10]∧
   cols.length=i∧(∀c∈cols,c.length=(1+r2).toNat∧∀x∈c,0≤x∧x≤9)∧Step a G G'∧G' p=some (.lst (cols.map Ca))) ⟨[],none,none,none,none,rfl,rfl,by simp,s4,gp⟩ ?_ ?_
  ·rintro i σ G5 hi ⟨cols,v7,v8,v9,v10,rfl,hcl,hco,s5,gp5⟩
   simp only[A5,Bw,B5,Ei,A0,List.length_nil,sz0,Ey,Ak,Au,List.set_cons_succ,List.set_cons_zero,List.getElem?_cons_succ,List.getElem?_cons_zero,Option.some.injEq,List.cons.injEq,and_true,Int.reducePow,Int.reduceNeg,and_assoc,exists_eq_left',D.int.injEq,true_and]
   intro d hd
   have s6:=s5.lay (o:=.lst []) hd
   have nad:=Step.ne s5.box hd
   have hdG:=s5.back hd
   have npd:=gne gp5 hd
   have gp6:=C6 (u:=.lst []) gp5 hd
   have gd6:Ae G5 d (.lst []) d=some (.lst []):=Aa
   generalize Ae G5 d (.lst [])=G6 at *
   refine⟨by omega,by omega,?_⟩
   refine Bj (fun j σ G'=>∃(col:List Int) (v9 v10:Option D),σ=[some (.ref a),some (.int wide),some (.int high),some (.int (2+r1)),some (.int (1+r2)),some (.int r3),some (.ref p),some (.int i),some (.ref d),v9,v10]∧
    col.length=j∧(∀x∈col,0≤x∧x≤9)∧Step a G G'∧G' p=some (.lst (cols.map Ca))∧G' d=some (.lst (col.map D.int))) ⟨[],_,_,rfl,rfl,by simp,s6,gp6,gd6⟩ ?_ ?_
   ·rintro j σ G7 hj ⟨col,v9,v10,rfl,hcl2,hco2,s7,gp7,gd7⟩
    simp only[A5,Bw,B5,nOp,Ei,Ak,nC,Bd,Au,List.set_cons_succ,List.set_cons_zero,List.getElem?_cons_zero,Option.some.injEq,A0,List.length_cons,List.length_nil,Nat.zero_add,Nat.reduceAdd,sz4,dIx,S1,B6,List.getElem?_cons_succ,dEq,eqS,D.bl.injEq,exists_eq_left',true_and,B1,D.int.injEq,Je,Qo]
    refine Bh s7.box (by decide) (by decide) fun t1 G8 t1l t1h s8=>?_
    have gp8:=s8.get nap gp7
    have gd8:=s8.get nad gd7
    have s8:=s7.trans s8
    rw[Ch]
    intro q1 hq1
    have s9:=s8.lay (o:=.lst [.int 9,.int 5,.int 3,.int (1+t1)]) hq1
    have n9:=Step.ne s8.box hq1
    have gp9:=C6 (u:=.lst [.int 9,.int 5,.int 3,.int (1+t1)]) gp8 hq1
    have gd9:=C6 (u:=.lst [.int 9,.int 5,.int 3,.int (1+t1)]) gd8 hq1
    have gq9:Ae G8 q1 (.lst [.int 9,.int 5,.int 3,.int (1+t1)]) q1=some (.lst [.int 9,.int 5,.int 3,.int (1+t1)]):=Aa
    generalize Ae G8 q1 (.lst [.int 9,.int 5,.int 3,.int (1+t1)])=G9 at *
    refine Bh s9.box (by decide) (by decide) fun t2 G10 t2l t2h s10=>?_
    have gp10:=s10.get nap gp9
    have gd10:=s10.get nad gd9
    have gq10:=s10.get n9 gq9
    have s10:=s9.trans s10
    obtain⟨d1,hd1,hm1⟩:=Dm (xs:=[D.int 9,.int 5,.int 3,.int (1+t1)]) t2l (by simpa using t2h)
    obtain⟨x1,rfl,hx1⟩:∃x,d1=.int x∧0≤x∧x≤9:=by
     simp only[List.mem_cons,List.not_mem_nil,or_false] at hm1
     rcases hm1 with rfl|rfl|rfl|rfl<;>exact⟨_,rfl,by omega,by omega⟩
    refine⟨t2,rfl,.int x1,(By gq10).trans hd1,?_⟩
    refine⟨fun σ G'=>∃x,σ=[some (.ref a),some (.int wide),some (.int high),some (.int (2+r1)),some (.int (1+r2)),some (.int r3),some (.ref p),some (.int i),some (.ref d),some (.int j),some (.int x)]∧0≤x∧x≤9∧Step a G G'∧G' p=some (.lst (cols.map Ca))∧G' d=some (.lst (col.map D.int)),fun q2 hq2=>?_,?_⟩
    ·obtain⟨d2,hd2,hm2⟩:=Dm (xs:=[D.int 9,.int 4,.int 30,.int 2]) r3l (by simpa using r3h)
     obtain⟨x2,rfl,hx2⟩:∃x,d2=.int x∧0<x∧x≤30:=by
      simp only[List.mem_cons,List.not_mem_nil,or_false] at hm2
      rcases hm2 with rfl|rfl|rfl|rfl<;>exact⟨_,rfl,by omega,by omega⟩
     refine⟨_,(By Aa).trans hd2,?_⟩
     have s11:=s10.lay (o:=.lst [.int 9,.int 4,.int 30,.int 2]) hq2
     have gp11:=C6 (u:=.lst [.int 9,.int 4,.int 30,.int 2]) gp10 hq2
     have gd11:=C6 (u:=.lst [.int 9,.int 4,.int 30,.int 2]) gd10 hq2
     generalize Ae G10 q2 (.lst [.int 9,.int 4,.int 30,.int 2])=G11 at *
     refine Bh s11.box (by omega) (by omega) fun t3 G12 t3l t3h s12=>?_
     have gp12:=s12.get nap gp11
     have gd12:=s12.get nad gd11
     have s12:=s11.trans s12
     refine⟨_,rfl,?_⟩
     by_cases hz:t3=0
     ·refine it0 (by simpa using hz) fun q3 hq3=>?_
      have s13:=s12.lay (o:=.lst [.int 0,.int 0,.int 1,.int 2]) hq3
      have n13:=Step.ne s12.box hq3
      have gp13:=C6 (u:=.lst [.int 0,.int 0,.int 1,.int 2]) gp12 hq3
      have gd13:=C6 (u:=.lst [.int 0,.int 0,.int 1,.int 2]) gd12 hq3
      have gq13:Ae G12 q3 (.lst [.int 0,.int 0,.int 1,.int 2]) q3=some (.lst [.int 0,.int 0,.int 1,.int 2]):=Aa
      generalize Ae G12 q3 (.lst [.int 0,.int 0,.int 1,.int 2])=G13 at *
      refine Bh s13.box (by decide) (by decide) fun t4 G14 t4l t4h s14=>?_
      obtain⟨d3,hd3,hm3⟩:=Dm (xs:=[D.int 0,.int 0,.int 1,.int 2]) t4l (by simpa using t4h)
      obtain⟨x3,rfl,hx3⟩:∃x,d3=.int x∧0≤x∧x≤9:=by
       simp only[List.mem_cons,List.not_mem_nil,or_false] at hm3
       rcases hm3 with rfl|rfl|rfl|rfl<;>exact⟨_,rfl,by omega,by omega⟩
      exact⟨t4,rfl,_,(By (s14.get n13 gq13)).trans hd3,Fs.of ⟨x3,rfl,hx3.1,hx3.2,s13.trans s14,s14.get nap gp13,s14.get nad gd13⟩⟩
     ·exact it1 (by simpa using hz) (Fs.of ⟨x1,rfl,hx1.1,hx1.2,s12,gp12,gd12⟩)
    ·rintro σ' G15 ⟨x,rfl,hx0,hx9,s15,gp15,gd15⟩
     simp only[List.getElem?_cons_succ,List.getElem?_cons_zero,Option.some.injEq,exists_eq_left',D.ref.injEq,gd15,GO.lst.injEq]
     refine⟨⟨_,rfl⟩,by rw[List.length_map];exact szm (by omega),Fs.of ?_⟩
     refine⟨col++[x],_,_,rfl,by simp[hcl2],fun y hy=>?_,s15.write hdG nad,by rw[Am npd];exact gp15,by rw[Aa,List.map_append];rfl⟩
     rcases List.mem_append.mp hy with hy|hy
     ·exact hco2 y hy
     ·rw[List.mem_singleton] at hy;subst hy;exact⟨hx0,hx9⟩
   ·rintro σ G7 ⟨col,v9,v10,rfl,hcl2,hco2,s7,gp7,gd7⟩
    simp only[Je,Qo,Au,List.getElem?_cons_succ,List.getElem?_cons_zero,Option.some.injEq,nCB,Ak,A0,List.cons.injEq,and_true,exists_eq_left',Ai gd7,D.ref.injEq,gp7,GO.lst.injEq]
    refine⟨⟨_,rfl⟩,by rw[List.length_map];exact szm (by omega),Fs.of ?_⟩
    refine⟨cols++[col],_,_,_,_,rfl,by simp[hcl],fun c hc=>?_,s7.write hpG nap,by rw[Aa,List.map_append];rfl⟩
    rcases List.mem_append.mp hc with hc|hc
    ·exact hco c hc
    ·rw[List.mem_singleton] at hc;subst hc;exact⟨hcl2,hco2⟩
  ·rintro σ G5 ⟨cols,v7,v8,v9,v10,rfl,hcl,hco,s5,gp5⟩
   simp only[B3,nCB,Ak,Au,List.getElem?_cons_succ,List.getElem?_cons_zero,Option.some.injEq,A0,List.cons.injEq,and_true,exists_eq_left',Ai gp5]
   exact Fq.of (k cols (1+r2).toNat G5 ⟨by omega,by omega,hco⟩ s5)
abbrev s_L_cell_of:Stmt:=top 33
abbrev Km:List Str:=["_law_box_here", "_law_sea_here"]
abbrev p_L_cell_of:List Str:=["_law_box_here", "_law_sea_here"]
theorem Il:FnScope Km p_L_cell_of (Ah s_L_cell_of):=⟨rfl,rfl,rfl,by decide +kernel,rfl,by decide +kernel,by decide +kernel⟩
def spCellOf:DSp:=fun ds G Q _=>∃a s h,ds=[.ref a,Bl s]∧Ez (G a)∧SeaOk s h∧∀c G',InS s h c→Step a G G'→Q (Ag c) G'
theorem M8{f:Addr}{fd:FuncData}(F:Fun K "_law_cell_of" "_law_cell_of" s_L_cell_of f fd)(T:Blt mg)(W2:Def P w K mg base CX0 2 "_law_take" p_L_take spTake):FnOk P w K mg base CX0 3 f fd p_L_cell_of (Ap K spCellOf):=by
 refine okD F Il (fun ds G Q E h=>?_) (fun cdv A outer s H XE ds G Q E hr h=>?_)
 ·obtain⟨_,_,_,rfl,_⟩:=h;rfl
 ·obtain⟨a,s,h,rfl,hb,ok,k⟩:=h
  refine⟨_,(@qss_one _ _ _ (@qs_ret _ _ _ _ (@C7 _ _ _ _ _ (@qa_consP _ _ _ _ _ (@q_call _ _ _ _ _ _ _ _ noX _ _ _ W2 (hr.mono (by decide)) (@passN _ _) (@qa_consP _ _ _ _ _ (@q_v1 _ _ 0 _ (by exact⟨rfl,rfl,rfl,rfl⟩)) (@qa_consP _ _ _ _ _ (@q_callB _ _ _ _ _ _ _ _ _ (@c_len _) (T.blt (by decide)) (by decide +kernel) (@qa_consP _ _ _ _ _ (@q_v1 _ _ 1 _ (by exact⟨rfl,rfl,rfl,rfl⟩)) (@qa_nil _) (by rfl)) (by rfl) (by decide) (by decide) (by rfl) (by rfl)) (@qa_nil _) (by rfl)) (by rfl)) (by rfl) (by decide) (by rfl) (by rfl)) (@qa_consP _ _ _ _ _ (@q_call _ _ _ _ _ _ _ _ noX _ _ _ W2 (hr.mono (by decide)) (@passN _ _) (@qa_consP _ _ _ _ _ (@q_v1 _ _ 0 _ (by exact⟨rfl,rfl,rfl,rfl⟩)) (@qa_consP _ _ _ _ _ (@q_callB _ _ _ _ _ _ _ _ _ (@c_len _) (T.blt (by decide)) (by decide +kernel) (@qa_consP _ _ _ _ _ (@Bp _ _ _ _ _ _ (@q_v1 _ _ 1 _ (by exact⟨rfl,rfl,rfl,rfl⟩)) (@Ad _ _ _ _) (by intro _ _ ;rfl)) (@qa_nil _) (by rfl)) (by rfl) (by decide) (by decide) (by rfl) (by rfl)) (@qa_nil _) (by rfl)) (by rfl)) (by rfl) (by decide) (by rfl) (by rfl)) (@qa_nil _) (by rfl)) (by rfl))))),?_⟩
  obtain⟨a0,hl⟩:=ok.head
  have hw:=ok.wide
  have hh:=ok.high
  have sz2:=sz2
  unfold Bl
  simp only[B3,Mm,Ak,Bd,Au,As,List.map_cons,List.map_nil,List.length_cons,List.length_nil,Nat.zero_add,Nat.reduceAdd,Nat.reduceSub,List.replicate,List.cons_append,List.nil_append,List.getElem?_cons_zero,Option.some.injEq,nCB,List.getElem?_cons_succ,A0,List.cons.injEq,and_true,nOp,nC,dIx,D.int.injEq,sz2,true_and,exists_eq_left',Ed,a0,Ca,E9,List.length_map]
  refine Bh hb (by omega) (by omega) fun r1 G1 r1l r1h s1=>?_
  rw[hl]
  refine Bh s1.box (by omega) (by omega) fun r2 G2 r2l r2h s2=>?_
  exact Fq.of (k (r1,r2) G2 ⟨r1l,r1h,r2l,r2h⟩ (s1.trans s2))
end
end K2
set_option maxRecDepth 100000
set_option maxHeartbeats 4000000
namespace K2
open PySem L2 D3
section
variable{P:Program}{w:World}{K:W.Frag}{mg:Str→Option Value}{base:Heap}
def Db(c:Cl):List Cl:=[(c.1-1,c.2),(c.1+1,c.2),(c.1,c.2-1),(c.1,c.2+1)]
theorem Lj{s:List (List Int)}{h:Nat}{c x:Cl}:x∈Bv s h c↔x∈Db c∧wat s h x=true:=by
 unfold Bv
 rw[List.mem_filter]
 unfold beside Db
 simp only[List.mem_cons,List.not_mem_nil,or_false]
 constructor
 ·rintro⟨h1,h2⟩
  refine⟨?_,h2⟩
  rcases h1 with h1|h1|h1|h1<;>simp[h1]
 ·rintro⟨h1,h2⟩
  refine⟨?_,h2⟩
  rcases h1 with h1|h1|h1|h1<;>simp[h1]
theorem Jp{rs:List Cl}{c x:Cl}:x∈Ck rs c↔x∈rs∨x=c:=by
 unfold Ck
 by_cases h:c∈rs
 ·rw[if_pos h]
  exact⟨.inl,fun z=>z.elim id fun e=>e ▸ h⟩
 ·rw[if_neg h,List.mem_append,List.mem_singleton]
theorem Jk(rs:List Cl)(c:Cl):(Ck rs c).length≤rs.length+1:=by
 unfold Ck;split
 ·omega
 ·simp
theorem E1:∀(cs acc:List Cl),Hs (acc.map fun c=>(Ao c,D.bl true)) (cs.map fun c=>(Ao c,D.bl true))=(cs.foldl Ck acc).map fun c=>(Ao c,D.bl true)
 |[],_=>rfl
 |c::r,acc=>by
  show Hs (Ko _ _ _) _=_
  rw[Ep];exact E1 r (Ck acc c)
theorem Gu{x:Cl}:∀{cs acc:List Cl},x∈cs.foldl Ck acc↔x∈acc∨x∈cs
 |[],acc=>by simp
 |c::r,acc=>by rw[List.foldl_cons,Gu,Jp,List.mem_cons,or_assoc]
theorem Hb:∀(cs acc:List Cl),(cs.foldl Ck acc).length≤acc.length+cs.length
 |[],_=>Nat.le_refl _
 |c::r,acc=>by
  have h1:=Jk acc c
  have h2:=Hb r (Ck acc c)
  rw[List.foldl_cons,List.length_cons];omega
theorem E0:∀cs:List Cl,Dy (cs.map fun c=>D.tup [Ag c,.bl true])=some (cs.map fun c=>(Ao c,D.bl true))
 |[]=>rfl
 |c::r=>by simp only[List.map_cons,Dy,C4,E0 r]
def InR(s:List (List Int))(h:Nat)(l p1 q:Addr)(c:Cl)(G:Gp)(rs:List Cl)(j:Nat)(σ:DSt)(G':Gp):Prop:=∃(rs':List Cl) (v5:Option D),σ=[some (Bl s),some (.ref l),some (.ref p1),some (.int c.1),some (.int c.2),v5]∧Sub G G'∧G' p1=some (Ba rs')∧G' q=some (.lst ((Db c).map Ag))∧rs'.length≤rs.length+j∧∀x,x∈rs'↔x∈rs∨(x∈(Db c).take j∧wat s h x=true)
def OutR(s:List (List Int))(h:Nat)(l p1:Addr)(cells:List Cl)(G:Gp)(i:Nat)(σ:DSt)(G':Gp):Prop:=∃(rs:List Cl) (v3 v4 v5:Option D),σ=[some (Bl s),some (.ref l),some (.ref p1),v3,v4,v5]∧Sub G G'∧G' p1=some (Ba rs)∧rs.length≤144+4*i∧∀x,x∈rs↔x∈cells∨∃y∈cells.take i,x∈Bv s h y
abbrev s_L_round:Stmt:=top 34
abbrev N3:List Str:=["_law_sea_here", "_law_cells", "_law_found", "_law_column", "_law_row", "_law_other"]
abbrev B4:List Str:=["_law_sea_here", "_law_cells"]
theorem sc_L_round:FnScope N3 B4 (Ah s_L_round):=⟨rfl,rfl,rfl,by decide +kernel,rfl,by decide +kernel,by decide +kernel⟩
theorem Ip:((["_law_cell"]:List Str)++(["_law_sea_here", "_law_cells", "_law_found", "_law_column", "_law_row", "_law_other"]:List Str)).Nodup:=by decide +kernel
def E7:DSp:=fun ds G Q _=>∃s h l,∃cells:List Cl,ds=[Bl s,.ref l]∧SeaOk s h∧G l=some (.lst (cells.map Ag))∧cells.length≤144∧(∀x∈cells,InS s h x)∧
 ∀l2 (ms:List Cl),G l2=none→ms.Pairwise B2→(∀x,x∈ms↔x∈cells∨∃y∈cells,x∈Bv s h y)→Q (.ref l2) (Ae G l2 (.lst (ms.map Ag)))
theorem Ps{f:Addr}{fd:FuncData}(F:Fun K "_law_round" "_law_round" s_L_round f fd)(T:Blt mg):FnOk P w K mg base CX0 1 f fd B4 (Ap K E7):=by
 refine okD F sc_L_round (fun ds G Q E h=>?_) (fun cdv A outer s H XE ds G Q E hr h=>?_)
 ·obtain⟨_,_,_,_,rfl,_⟩:=h;rfl
 ·obtain⟨s,h,l,cells,rfl,ok,gl,hcl,hin,k⟩:=h
  refine⟨_,(@qss_cons _ _ _ _ _ (@Av _ _ _ _ 2 _ _ sc_L_round.nd (@Cp _ _ _ _ _ _ _ _ _ (@R5 _ _ rfl hr) (T.blt (by decide)) (by decide +kernel) (@qa_consP _ _ _ _ _ (@q_compz _ _ _ _ _ _ _ _ _ _ _ ["_law_cell"] ["_law_sea_here", "_law_cells", "_law_found", "_law_column", "_law_row", "_law_other"] rfl (@compOz _ _ _ _ (by rfl) (by rfl) (by rfl) (by rfl) (by rfl)) (@q_v1 _ _ 1 _ (by exact⟨rfl,rfl,rfl,rfl⟩)) (fun _ _ _=>(@qg_name _ _ 0 _ Ip (by rfl) (by exact .inl rfl) (by exact .inr rfl))) (fun _ _ _=>(@qf_nil _)) (fun _ _ _=>(@C7 _ _ _ _ _ (@qa_consP _ _ _ _ _ (@q_v1 _ _ 0 _ (by exact⟨rfl,rfl,rfl,rfl⟩)) (@qa_consP _ _ _ _ _ (@q_bl _ _ _ _) (@qa_nil _) (by rfl)) (by rfl)))) (by intro _ ;rfl)) (@qa_nil _) (by rfl)) (by rfl) (by decide) (by decide) (by rfl) (by rfl)) (by rfl) (by exact .inl rfl) (by rfl) (by exact .inl rfl)) (@qss_cons _ _ _ _ _ (@Fe _ _ _ _ _ _ _ _ PassesOwn.never rfl (@q_v1 _ _ 1 _ (by exact⟨rfl,rfl,rfl,rfl⟩)) (@Ff _ _ _ _ _ 2 rfl (@Bg _ _ _ _ _ (@qg_name _ _ 3 _ sc_L_round.nd (by rfl) (by exact .inl rfl) (by exact .inl rfl)) (@Bg _ _ _ _ _ (@qg_name _ _ 4 _ sc_L_round.nd (by rfl) (by exact .inl rfl) (by exact .inl rfl)) (@D5 _) (by rfl)) (by rfl)) (by rfl) (by rfl)) (@qss_one _ _ _ (@Fe _ _ _ _ _ _ _ _ PassesOwn.never rfl (@B0 _ _ _ _ (@qa_consP _ _ _ _ _ (@C7 _ _ _ _ _ (@qa_consP _ _ _ _ _ (@Az _ _ _ _ _ _ _ _ (@Fc _) (@q_v1 _ _ 3 _ (by exact⟨rfl,rfl,rfl,rfl⟩)) (@Ad _ _ _ _)) (@qa_consP _ _ _ _ _ (@q_v1 _ _ 4 _ (by exact⟨rfl,rfl,rfl,rfl⟩)) (@qa_nil _) (by rfl)) (by rfl))) (@qa_consP _ _ _ _ _ (@C7 _ _ _ _ _ (@qa_consP _ _ _ _ _ (@Az _ _ _ _ _ _ _ _ (@Be _) (@q_v1 _ _ 3 _ (by exact⟨rfl,rfl,rfl,rfl⟩)) (@Ad _ _ _ _)) (@qa_consP _ _ _ _ _ (@q_v1 _ _ 4 _ (by exact⟨rfl,rfl,rfl,rfl⟩)) (@qa_nil _) (by rfl)) (by rfl))) (@qa_consP _ _ _ _ _ (@C7 _ _ _ _ _ (@qa_consP _ _ _ _ _ (@q_v1 _ _ 3 _ (by exact⟨rfl,rfl,rfl,rfl⟩)) (@qa_consP _ _ _ _ _ (@Az _ _ _ _ _ _ _ _ (@Fc _) (@q_v1 _ _ 4 _ (by exact⟨rfl,rfl,rfl,rfl⟩)) (@Ad _ _ _ _)) (@qa_nil _) (by rfl)) (by rfl))) (@qa_consP _ _ _ _ _ (@C7 _ _ _ _ _ (@qa_consP _ _ _ _ _ (@q_v1 _ _ 3 _ (by exact⟨rfl,rfl,rfl,rfl⟩)) (@qa_consP _ _ _ _ _ (@Az _ _ _ _ _ _ _ _ (@Be _) (@q_v1 _ _ 4 _ (by exact⟨rfl,rfl,rfl,rfl⟩)) (@Ad _ _ _ _)) (@qa_nil _) (by rfl)) (by rfl))) (@qa_nil _) (by rfl)) (by rfl)) (by rfl)) (by rfl))) (@qg_name _ _ 5 _ sc_L_round.nd (by rfl) (by exact .inl rfl) (by exact .inl rfl)) (@qss_one _ _ _ (@qs_if _ _ _ _ _ _ _ _ (@Fb _ _ _ (@Kv _ _ _ _ _ _ _ (@qt_chain _ _ _ _ _ _ _ _ _ _ _ _ (@o_le _) (@Qm _) (@Ad _ _ _ _) (@Bp _ _ _ _ _ _ (@q_v1 _ _ 5 _ (by exact⟨rfl,rfl,rfl,rfl⟩)) (@Ad _ _ _ _) (by intro _ _ ;rfl)) (@q_callB _ _ _ _ _ _ _ _ _ (@c_len _) (T.blt (by decide)) (by decide +kernel) (@qa_consP _ _ _ _ _ (@q_v1 _ _ 0 _ (by exact⟨rfl,rfl,rfl,rfl⟩)) (@qa_nil _) (by rfl)) (by rfl) (by decide) (by decide) (by rfl) (by rfl)) (by with_unfolding_all rfl)) (@Hz _ _ _ _ (@qt_chain _ _ _ _ _ _ _ _ _ _ _ _ (@o_le _) (@Qm _) (@Ad _ _ _ _) (@Bp _ _ _ _ _ _ (@q_v1 _ _ 5 _ (by exact⟨rfl,rfl,rfl,rfl⟩)) (@Ad _ _ _ _) (by intro _ _ ;rfl)) (@q_callB _ _ _ _ _ _ _ _ _ (@c_len _) (T.blt (by decide)) (by decide +kernel) (@qa_consP _ _ _ _ _ (@Bp _ _ _ _ _ _ (@q_v1 _ _ 0 _ (by exact⟨rfl,rfl,rfl,rfl⟩)) (@Ad _ _ _ _) (by intro _ _ ;rfl)) (@qa_nil _) (by rfl)) (by rfl) (by decide) (by decide) (by rfl) (by rfl)) (by with_unfolding_all rfl))))) (@qss_one _ _ _ (@qs_if _ _ _ _ _ _ _ _ (@B7 _ _ _ _ _ _ _ _ (@Vb _) (@Bp _ _ _ _ _ _ (@Bp _ _ _ _ _ _ (@q_v1 _ _ 0 _ (by exact⟨rfl,rfl,rfl,rfl⟩)) (@Bp _ _ _ _ _ _ (@q_v1 _ _ 5 _ (by exact⟨rfl,rfl,rfl,rfl⟩)) (@Ad _ _ _ _) (by intro _ _ ;rfl)) (by intro _ _ ;rfl)) (@Bp _ _ _ _ _ _ (@q_v1 _ _ 5 _ (by exact⟨rfl,rfl,rfl,rfl⟩)) (@Ad _ _ _ _) (by intro _ _ ;rfl)) (by intro _ _ ;rfl)) (@Ad _ _ _ _) (Bz _)) (@qss_one _ _ _ (@C0 _ _ _ _ _ _ (@q_bl _ _ _ _) (@Fh _ _ _ _ _ _ _ (@q_v1 _ _ 2 _ (by exact⟨rfl,rfl,rfl,rfl⟩)) (@q_v1 _ _ 5 _ (by exact⟨rfl,rfl,rfl,rfl⟩)) (@Lx _ _ hr) (by intro _ ;rfl)) (by rfl) (by rfl) (by rfl))) (@qss_nil _))) (@qss_nil _))) (by intro _ ;rfl))) (by intro _ ;rfl)) (@qss_one _ _ _ (@qs_ret _ _ _ _ (@q_callB _ _ _ _ _ _ _ _ _ (@Hg _ rfl) (T.blt (by decide)) (by decide +kernel) (@qa_consP _ _ _ _ _ (@q_v1 _ _ 2 _ (by exact⟨rfl,rfl,rfl,rfl⟩)) (@qa_nil _) (by rfl)) (by rfl) (by decide) (by decide) (by rfl) (by rfl)))))),?_⟩
  have sz2:=sz2
  have sz4:4≤sizeLine:=szl (by decide)
  simp only[Bw,B5,nCB,Ak,Fi,Au,As,List.map_cons,List.map_nil,List.length_cons,List.length_nil,Nat.zero_add,Nat.reduceAdd,Nat.reduceSub,List.replicate,List.cons_append,List.nil_append,List.getElem?_cons_succ,List.getElem?_cons_zero,Option.some.injEq,A0,List.cons.injEq,and_true,A5,Mn,List.set_cons_succ,List.set_cons_zero,exists_eq_left',Ai gl]
  intro p hp
  have hz:(cells.map Ag).length<sizeLine:=by rw[List.length_map];exact szm (by omega)
  refine B9 (fun d=>.tup [d,.bl true]) (fun _=>true) hz (fun _=>Ai (C6 gl hp)) (by decide) (fun x ys hx' hl R1 R2 g1 _=>?_) ?_
  ·simp only[Jd,Mm,Ak,Au,List.replicate,List.cons_append,List.nil_append,List.set_cons_zero,List.getElem?_cons_zero,Option.some.injEq,nC,A0,List.length_cons,List.length_nil,Nat.zero_add,Nat.reduceAdd,sz2,Aa,hl,A6,true_and,exists_eq_left',if_true]
   exact Fg.of (g1 rfl)
  ·rw[Ee,List.map_map]
   have pr:Dy (cells.map ((fun d=>D.tup [d,.bl true]) ∘ Ag))=some (cells.map fun c=>(Ao c,D.bl true)):=E0 cells
   refine⟨p,rfl,_,Aa,_,pr,by rw[List.length_map];exact szm (by omega),fun p1 hp1=>?_⟩
   have mc:=E1 cells []
   rw[List.map_nil] at mc
   rw[mc,show GO.dct ((cells.foldl Ck []).map fun c=>(Ao c,D.bl true))=Ba (cells.foldl Ck []) from rfl]
   have hpG:G p1=none:=(D6 hp1).2
   have sb:Sub G (Ae (Ae G p (.lst (cells.map ((fun d=>D.tup [d,.bl true]) ∘ Ag)))) p1 (Ba (cells.foldl Ck []))):=(Sub.new hp).trans (Sub.new hp1)
   have g1:Ae (Ae G p (.lst (cells.map ((fun d=>D.tup [d,.bl true]) ∘ Ag)))) p1 (Ba (cells.foldl Ck [])) p1=some (Ba (cells.foldl Ck [])):=Aa
   generalize Ae (Ae G p (.lst (cells.map ((fun d=>D.tup [d,.bl true]) ∘ Ag)))) p1 (Ba (cells.foldl Ck []))=G1 at *
   refine⟨_,Ai (sb _ _ gl),?_⟩
   refine Cv (OutR s h l p1 cells G)
    ⟨_,none,none,none,rfl,sb,g1,by have:=Hb cells [];simp at this;omega,fun x=>by rw[Gu];simp⟩ ?_ ?_ ?_
   ·rintro i σ G2 _ ⟨rs,v3,v4,v5,rfl,sb2,_⟩
    exact Ai (sb2 _ _ gl)
   ·rintro i x σ G2 hx ⟨rs,v3,v4,v5,rfl,sb2,g2,hrl,hrm⟩
    obtain⟨c,hc,rfl⟩:=Dq hx
    have hi:i<cells.length:=(List.getElem?_eq_some_iff.mp hc).1
    simp only[Mo,Ag,D.tup.injEq,Gc,A5,Mp,Mn,Ei,Ak,Mm,nOp,Au,List.set_cons_succ,List.set_cons_zero,List.getElem?_cons_succ,List.getElem?_cons_zero,Option.some.injEq,nC,dI0,D.int.injEq,A0,List.length_cons,List.length_nil,Nat.zero_add,Nat.reduceAdd,sz2,sz4,true_and,exists_eq_left',List.cons.injEq,and_assoc,exists_and_left,Ch]
    rw[show [D.tup [.int (c.1-1),.int c.2],.tup [.int (c.1+1),.int c.2],.tup [.int c.1,.int (c.2-1)],.tup [.int c.1,.int (c.2+1)]]=(Db c).map Ag from rfl]
    intro q hq
    have npq:=gne g2 hq
    have hqG:=sb2.none hq
    refine⟨_,Ai Aa,?_⟩
    refine Cv (InR s h l p1 q c G rs)
     ⟨rs,_,rfl,sb2.trans (Sub.new hq),C6 g2 hq,Aa,Nat.le_refl _,fun x=>by simp⟩ ?_ ?_ ?_
    ·rintro j σ G3 _ ⟨rs',v5,rfl,_,_,gq,_⟩
     exact Ai gq
    ·rintro j x σ G3 hx ⟨rs',v5,rfl,sb3,g3,gq3,hl3,hm3⟩
     obtain⟨o,ho,rfl⟩:=Dq hx
     have hj:j<4:=(List.getElem?_eq_some_iff.mp ho).1
     have tk:(Db c).take (j+1)=(Db c).take j++[o]:=by rw[List.take_add_one,ho];rfl
     obtain⟨a0,hl⟩:=ok.head
     have nw:wat s h o≠true→Fs (InR s h l p1 q c G rs (j+1)) [some (Bl s),some (.ref l),some (.ref p1),some (.int c.1),some (.int c.2),some (Ag o)] G3:=fun hn=>by
      refine Fs.of ⟨rs',_,rfl,sb3,g3,gq3,by omega,fun x=>?_⟩
      rw[hm3,tk,List.mem_append,List.mem_singleton]
      constructor
      ·rintro(h|⟨h,h'⟩)
       ·exact .inl h
       ·exact .inr ⟨.inl h,h'⟩
      ·rintro(h|⟨h|h,h'⟩)
       ·exact .inl h
       ·exact .inr ⟨h,h'⟩
       ·subst h;exact absurd h' hn
     simp only[A5,Dx,Qp,B6,C9,nC,nOp,Au,List.set_cons_succ,List.set_cons_zero,List.getElem?_cons_succ,List.getElem?_cons_zero,Option.some.injEq,dIx,D.int.injEq,dI0,D.bl.injEq,nCB,Ak,A0,List.cons.injEq,and_true,B5,N5,Og,exists_eq_left',C4,D.ref.injEq,g3,B1,decide_eq_true_eq,Fz,F0,Jt,a0,Rs,hl,reduceCtorEq,if_false,Rr]
     by_cases h1:0≤o.1
     ·refine it0 h1 ?_
      by_cases h2:o.1<s.length
      ·refine it0 h2 ?_
       by_cases h3:0≤o.2
       ·refine it0 h3 ?_
        by_cases h4:o.2<h
        ·refine it0 h4 ?_
         have hin:InS s h o:=⟨h1,h2,h3,h4⟩
         obtain⟨e1,e2,e3,e4⟩:=Oq ok hin
         refine⟨_,e1,_,e2,_,rfl,?_⟩
         have hwo:wat s h o=true↔0<Ho s o:=by
          unfold wat
          simp only[Bool.and_eq_true,decide_eq_true_eq]
          exact⟨fun z=>by have:=z.2;omega,fun z=>⟨hin,by omega⟩⟩
         by_cases h5:0<Ho s o
         ·refine it0 h5 ⟨_,rfl,by rw[List.length_map];exact szm (by omega),?_⟩
          rw[Ep]
          have hpl:=Jk rs' o
          refine Fs.of ⟨Ck rs' o,_,rfl,Sub.over sb3 hpG _,Aa,by rw[Am npq.symm];exact gq3,by omega,fun x=>?_⟩
          rw[Jp,hm3,tk,List.mem_append,List.mem_singleton]
          constructor
          ·rintro((h|⟨h,h'⟩)|h)
           ·exact .inl h
           ·exact .inr ⟨.inl h,h'⟩
           ·subst h;exact .inr ⟨.inr rfl,hwo.mpr h5⟩
          ·rintro(h|⟨h|h,h'⟩)
           ·exact .inl (.inl h)
           ·exact .inl (.inr ⟨h,h'⟩)
           ·exact .inr h
         ·exact it1 h5 (nw fun z=>h5 (hwo.mp z))
        ·exact it1 h4 (nw fun z=>h4 (Ej z).2.2.2)
       ·exact it1 h3 (nw fun z=>h3 (Ej z).2.2.1)
      ·exact it1 h2 (nw fun z=>h2 (Ej z).2.1)
     ·exact it1 h1 (nw fun z=>h1 (Ej z).1)
    ·rintro σ G3 ⟨rs',v5,rfl,sb3,g3,gq3,hl3,hm3⟩
     rw[List.length_map] at hl3 hm3
     refine Fs.of ⟨rs',_,_,_,rfl,sb3,g3,by have:(Db c).length=4:=rfl;omega,fun x=>?_⟩
     rw[hm3,List.take_length,hrm,List.take_add_one,hc,Option.toList_some,or_assoc]
     simp only[List.mem_append,List.mem_singleton,or_and_right,exists_or,exists_eq_left,Lj]
   ·rintro σ G2 ⟨rs,v3,v4,v5,rfl,sb2,g2,hrl,hrm⟩
    rw[List.length_map] at hrl hrm
    rw[List.take_length] at hrm
    simp only[B3,nCB,Ak,Au,List.getElem?_cons_succ,List.getElem?_cons_zero,Option.some.injEq,A0,List.cons.injEq,and_true,exists_eq_left',D.ref.injEq]
    refine⟨rs.map fun x=>(x,D.bl true),by rw[g2,List.map_map];rfl,by rw[List.length_map];omega,fun k hk=>?_,fun l2 ms hl2 hm hpw=>?_⟩
    ·obtain⟨x,hx,rfl⟩:=List.mem_map.mp hk
     have hin:InS s h x:=by
      rcases(hrm x).mp hx with hx|⟨y,_,hx⟩
      ·exact hin x hx
      ·exact Lv hx
     obtain⟨_,_,a3,a4⟩:=hin
     have:=ok.high
     exact⟨a3,by show x.2<1000;omega⟩
    ·have e1:(rs.map fun x=>(x,D.bl true)).map (·.1)=rs:=by rw[List.map_map];exact List.map_id _
     rw[e1] at hm
     exact⟨_,Sub.upd sb2 _ _,k l2 ms (sb2.none hl2) hpw fun x=>by rw[hm.mem_iff,hrm]⟩
end
end K2
set_option maxRecDepth 100000
set_option maxHeartbeats 4000000
namespace K2
open PySem L2 D3
structure Sh(G:Gp)(b n:Nat)(d:D)(p:PyData):Prop where
 rep:RepD G d p
 ok:p.showable=true
 len:p.shown.length≤b
 dep:p.depth≤n
theorem Ol:∀{ts:List Str} {b:Nat},(∀t∈ts,t.length≤b)→(ts.map (·.length)).sum≤ts.length*b
 |[],b,h=>Nat.zero_le _
 |x::r,b,h=>by
  have ih:=Ol (ts:=r) (b:=b) fun t ht=>h t (by simp[ht])
  have hx:=h x (by simp)
  rw[List.map_cons,List.sum_cons,List.length_cons,Nat.succ_mul];omega
theorem shs{G:Gp}{b n:Nat}:∀{ds:List D},(∀d∈ds,∃p,Sh G b n d p)→∃ps,RepDs G ds ps∧PyData.showableAll ps=true∧(∀t∈PyData.shownAll ps,t.length≤b)∧PyData.depthAll ps≤n∧(PyData.shownAll ps).length=ds.length
 |[],_=>⟨[],.nil,rfl,(fun t h=>by simp[PyData.shownAll] at h),Nat.zero_le _,rfl⟩
 |d::ds,h=>by
  obtain⟨p,hp⟩:=h d (by simp)
  obtain⟨ps,h1,h2,h3,h4,h5⟩:=shs (ds:=ds) fun x hx=>h x (by simp[hx])
  refine⟨p::ps,.cons hp.rep h1,?_,fun t ht=>?_,?_,?_⟩
  ·rw[PyData.showableAll,hp.ok,h2];rfl
  ·rw[PyData.shownAll] at ht
   rcases List.mem_cons.mp ht with e|e
   ·rw[e];exact hp.len
   ·exact h3 t e
  ·rw[PyData.depthAll];exact Nat.max_le.mpr ⟨hp.dep,h4⟩
  ·rw[PyData.shownAll,List.length_cons,h5];rfl
theorem Om{G:Gp}{b n c:Nat}{ds:List D}(h:∀d∈ds,∃p,Sh G b n d p)(hc:ds.length≤c):∃p,Sh G (c*(b+2)+103) (n+1) (.tup ds) p:=by
 obtain⟨ps,h1,h2,h3,h4,h5⟩:=shs h
 refine⟨.tuple ps,.tup h1,by rw[PyData.showable];exact h2,?_,by rw[PyData.depth];omega⟩
 rw[PyData.shown]
 have hl:=tupleText_len_le (PyData.shownAll ps)
 have hs:=Ol h3
 rw[h5] at hs hl
 have hm:ds.length*(b+2)≤c*(b+2):=Nat.mul_le_mul_right _ hc
 have:ds.length*(b+2)=ds.length*b+2*ds.length:=by rw[Nat.mul_add];omega
 omega
theorem Ui{i:Int}(h:i.natAbs<10 ^ 25):i.natAbs.log2<1920:=by
 by_cases h0:i.natAbs=0
 ·rw[h0];decide
 ·exact Nat.lt_of_lt_of_le ((Nat.log2_lt h0).mpr (Nat.lt_trans h (show 10 ^ 25<2 ^ 100 by decide))) (by decide)
theorem Oo{G:Gp}{i:Int}(h:i.natAbs<10 ^ 25):Sh G 30 0 (.int i) (.int i):=by
 refine⟨.int i,decide_eq_true (Ui h),?_,Nat.zero_le _⟩
 have:=int_text_length_le10 (a:=i) (k:=25) (by decide) h
 show(Str.ofString (toString i)).length≤30
 rw[ofString_length];omega
theorem Sh.more{G:Gp}{b n b' n':Nat}{d:D}{p:PyData}(h:Sh G b n d p)(hb:b≤b')(hn:n≤n'):Sh G b' n' d p:=⟨h.rep,h.ok,Nat.le_trans h.len hb,Nat.le_trans h.dep hn⟩
theorem Vl{n:Nat}(h:n≤16000000):n≤sizeLine:=by rw[sizeLine_eq];omega
theorem Qx{G:Gp}{s:List (List Int)}{h:Nat}(ok:SeaOk s h){x:Cl}(hi:InS s h x):∃p,Sh G 200 1 (Ag x) p:=by
 obtain⟨a,b,c,d⟩:=hi
 have hw:=ok.wide
 have hh:=ok.high
 have key:∀d∈[D.int x.1,.int x.2],∃p,Sh G 30 0 d p:=fun d hd=>by
  simp only[List.mem_cons,List.not_mem_nil,or_false] at hd
  rcases hd with rfl|rfl
  ·exact⟨_,Oo (Nat.lt_of_lt_of_le (show x.1.natAbs<100 by omega) (by decide))⟩
  ·exact⟨_,Oo (Nat.lt_of_lt_of_le (show x.2.natAbs<100 by omega) (by decide))⟩
 obtain⟨p,hs⟩:=Om (c:=2) key (by simp)
 exact⟨p,hs.more (by decide) (by decide)⟩
theorem O8{G:Gp}{s:List (List Int)}{h:Nat}(ok:SeaOk s h){ms:List Cl}(hp:ms.Pairwise B2)(hi:∀x∈ms,InS s h x):∃p,Sh G 50000 3 (.tup (ms.map Ag)) p:=by
 have hl:=Eu ok (Gx hp) hi
 have key:∀d∈ms.map Ag,∃p,Sh G 200 1 d p:=fun d hd=>by
  obtain⟨x,hx,rfl⟩:=List.mem_map.mp hd
  exact Qx ok (hi x hx)
 obtain⟨p,hs⟩:=Om (c:=144) key (by rw[List.length_map];exact hl)
 exact⟨p,hs.more (by decide) (by decide)⟩
end K2
set_option maxRecDepth 100000
set_option maxHeartbeats 4000000
namespace K2
open PySem L2 D3
section
variable{P:Program}{w:World}{K:W.Frag}{mg:Str→Option Value}{base:Heap}
def LDr(s:List (List Int))(h:Nat)(c:Cl)(days:Int)(G:Gp)(i:Nat)(σ:DSt)(G':Gp):Prop:=∃(ms:List Cl) (l:Addr) (av:D) (v:Option D),σ=[some (Bl s),some (Ag c),some (.int days),some (.ref l),some av,v]∧Sub G G'∧G' l=some (.lst (ms.map Ag))∧ms.Pairwise B2∧(∀x,x∈ms↔Ball s h c i x)∧
 (av=.non∨∃(l':Addr) (ms':List Cl),av=.ref l'∧G' l'=some (.lst (ms'.map Ag))∧(ms=ms'→∀y∈ms,∀x∈Bv s h y,x∈ms))
abbrev s_L_drift:Stmt:=top 35
abbrev N4:List Str:=["_law_sea_here", "_law_cell", "_law_days", "_law_found", "_law_ahead", "_law_day"]
abbrev p_L_drift:List Str:=["_law_sea_here", "_law_cell", "_law_days"]
theorem sc_L_drift:FnScope N4 p_L_drift (Ah s_L_drift):=⟨rfl,rfl,rfl,by decide +kernel,rfl,by decide +kernel,by decide +kernel⟩
theorem M6{f:Addr}{fd:FuncData}(F:Fun K "_law_drift" "_law_drift" s_L_drift f fd)(T:Blt mg)(Xi:Def P w K mg base CX0 1 "_law_round" B4 E7):FnOk P w K mg base CX0 2 f fd p_L_drift (Ap K spDrift):=by
 refine okD F sc_L_drift (fun ds G Q E h=>?_) (fun cdv A outer s H XE ds G Q E hr h=>?_)
 ·obtain⟨_,_,_,_,rfl,_⟩:=h;rfl
 ·obtain⟨s,h,c,days,rfl,ok,hc,d0,d1,k⟩:=h
  refine⟨_,(@qss_cons _ _ _ _ _ (@Kw _ _ _ _ 3 4 _ _ _ _ _ _ _ _ _ rfl sc_L_drift.nd (@qa_consP _ _ _ _ _ (@B0 _ _ _ _ (@qa_consP _ _ _ _ _ (@q_v1 _ _ 1 _ (by exact⟨rfl,rfl,rfl,rfl⟩)) (@qa_nil _) (by rfl))) (@qa_consP _ _ _ _ _ (@Vo _ _ _) (@qa_nil _) (by rfl)) (by rfl)) (by rfl) (by rfl) (by decide) (by rfl) (by rfl) (by rfl) (by rfl)) (@qss_cons _ _ _ _ _ (@qs_if _ _ _ _ _ _ _ _ (@B7 _ _ _ _ _ _ _ _ (@Qn _) (@Bp _ _ _ _ _ _ (@Bp _ _ _ _ _ _ (@q_v1 _ _ 0 _ (by exact⟨rfl,rfl,rfl,rfl⟩)) (@Bp _ _ _ _ _ _ (@q_v1 _ _ 1 _ (by exact⟨rfl,rfl,rfl,rfl⟩)) (@Ad _ _ _ _) (by intro _ _ ;rfl)) (by intro _ _ ;rfl)) (@Bp _ _ _ _ _ _ (@q_v1 _ _ 1 _ (by exact⟨rfl,rfl,rfl,rfl⟩)) (@Ad _ _ _ _) (by intro _ _ ;rfl)) (by intro _ _ ;rfl)) (@Ad _ _ _ _) (Bz _)) (@qss_one _ _ _ (@qs_ret _ _ _ _ (@Cp _ _ _ _ _ _ _ _ _ (@D8 _) (T.blt (by decide)) (by decide +kernel) (@qa_consP _ _ _ _ _ (@q_v1 _ _ 3 _ (by exact⟨rfl,rfl,rfl,rfl⟩)) (@qa_nil _) (by rfl)) (by rfl) (by decide) (by decide) (by rfl) (by rfl)))) (@qss_nil _)) (@qss_cons _ _ _ _ _ (@C1 _ _ _ _ _ _ _ _ _ _ PassesOwn.never rfl (T.blt (by decide)) (@qa_consP _ _ _ _ _ (@q_v1 _ _ 2 _ (by exact⟨rfl,rfl,rfl,rfl⟩)) (@qa_nil _) (by rfl)) (@qg_name _ _ 5 _ sc_L_drift.nd (by rfl) (by exact .inl rfl) (by exact .inl rfl)) (@qss_one _ _ _ (@qs_if _ _ _ _ _ _ _ _ (@B7 _ _ _ _ _ _ _ _ (@Vz _ _ hr) (@q_v1 _ _ 3 _ (by exact⟨rfl,rfl,rfl,rfl⟩)) (@q_v1 _ _ 4 _ (by exact⟨rfl,rfl,rfl,rfl⟩)) (Bz _)) (@qss_cons _ _ _ _ _ (@Av _ _ _ _ 4 _ _ sc_L_drift.nd (@q_v1 _ _ 3 _ (by exact⟨rfl,rfl,rfl,rfl⟩)) (by rfl) (by exact .inl rfl) (by rfl) (by exact .inl rfl)) (@qss_one _ _ _ (@Av _ _ _ _ 3 _ _ sc_L_drift.nd (@q_call _ _ _ _ _ _ _ _ noX _ _ _ Xi (hr.mono (by decide)) (@passN _ _) (@qa_consP _ _ _ _ _ (@q_v1 _ _ 0 _ (by exact⟨rfl,rfl,rfl,rfl⟩)) (@qa_consP _ _ _ _ _ (@q_v1 _ _ 3 _ (by exact⟨rfl,rfl,rfl,rfl⟩)) (@qa_nil _) (by rfl)) (by rfl)) (by rfl) (by decide) (by rfl) (by rfl)) (by rfl) (by exact .inl rfl) (by rfl) (by exact .inl rfl)))) (@qss_nil _))) (by rfl) (by rfl) (by intro _ ;rfl)) (@qss_one _ _ _ (@qs_ret _ _ _ _ (@Cp _ _ _ _ _ _ _ _ _ (@D8 _) (T.blt (by decide)) (by decide +kernel) (@qa_consP _ _ _ _ _ (@q_v1 _ _ 3 _ (by exact⟨rfl,rfl,rfl,rfl⟩)) (@qa_nil _) (by rfl)) (by rfl) (by decide) (by decide) (by rfl) (by rfl))))))),?_⟩
  have sz1:1≤sizeLine:=szl (by decide)
  obtain⟨e1,e2,e3,e4⟩:=Oq ok hc
  simp only[Bw,S0,Ak,Ei,Au,As,List.map_cons,List.map_nil,List.length_cons,List.length_nil,Nat.zero_add,Nat.reduceAdd,Nat.reduceSub,List.replicate,List.cons_append,List.nil_append,List.getElem?_cons_succ,List.getElem?_cons_zero,Option.some.injEq,A0,sz1,nC,List.cons.injEq,and_true,Dx,B6,nOp,List.set_cons_succ,List.set_cons_zero,dIx,D.int.injEq,dEq,eqS,D.bl.injEq,B3,nCB,exists_eq_left',B1,Ey,Int.reducePow,Int.reduceNeg,and_assoc,Fz,F0,Jt,e1,P4,e2,decide_eq_true_eq,exists_and_left,true_and]
  intro p hp
  have hw:wat s h c=true↔Ho s c≠0:=by
   unfold wat
   simp only[Bool.and_eq_true,decide_eq_true_eq]
   exact⟨fun z=>z.2,fun z=>⟨hc,z⟩⟩
  by_cases hz:Ho s c=0
  ·refine it0 hz ⟨_,Ai Aa,G,Sub.new hp,?_⟩
   exact k [c] (List.pairwise_singleton _ _) fun x=>by rw[List.mem_singleton,Drift,if_neg fun z=>hw.mp z hz]
  ·refine it1 hz ⟨by omega,by omega,?_⟩
   refine Bj (LDr s h c days G) ⟨[c],p,.non,none,rfl,Sub.new hp,Aa,List.pairwise_singleton _ _,fun x=>by rw[List.mem_singleton];exact Iff.rfl,.inl rfl⟩ ?_ ?_
   ·rintro i σ G1 hi ⟨ms,l,av,v,rfl,sb,gl,hpw,hm,hav⟩
    have hin:∀x∈ms,InS s h x:=fun x hx=>Ball.inS hc ((hm x).mp hx)
    have h144:=Eu ok (Gx hpw) hin
    have go:E7 [Bl s,.ref l] G1 (fun x G2=>Fs (LDr s h c days G (i+1)) [some (Bl s),some (Ag c),some (.int days),some x,some (.ref l),some (.int i)] G2) noX:=by
     refine⟨s,h,l,ms,rfl,ok,gl,h144,hin,fun l2 ms2 hl2 hp2 hm2=>Fs.of ⟨ms2,l2,.ref l,_,rfl,sb.trans (Sub.new hl2),Aa,hp2,fun x=>?_,.inr ⟨l,ms,rfl,C6 gl hl2,fun e y hy x hx=>?_⟩⟩⟩
     ·rw[hm2,hm]
      show _↔_∨_
      constructor
      ·rintro(h|⟨y,hy,hx⟩)
       ·exact .inl h
       ·exact .inr ⟨y,(hm y).mp hy,hx⟩
      ·rintro(h|⟨y,hy,hx⟩)
       ·exact .inl h
       ·exact .inr ⟨y,(hm y).mpr hy,hx⟩
     ·rw[e] at hy
      exact(hm2 x).mpr (.inr ⟨y,hy,hx⟩)
    simp only[A5,Dx,B6,nOp,Au,List.set_cons_succ,List.set_cons_zero,List.getElem?_cons_succ,List.getElem?_cons_zero,Option.some.injEq,Bw,B5,Bd,Ak,A0,exists_eq_left',B1]
    rcases hav with rfl|⟨l',ms',rfl,gl',hcl⟩
    ·refine Nb gl ?_
     exact⟨true,rfl,it0 rfl go⟩
    ·refine Nc gl gl' ?_
     by_cases he:ms=ms'
     ·refine⟨false,by simp[he],it1 (by decide) (Fs.of ⟨ms,l,.ref l',_,rfl,sb,gl,hpw,fun x=>?_,.inr ⟨l',ms',rfl,gl',hcl⟩⟩)⟩
      exact Ball.stop hm (hcl he) 1 x
     ·exact⟨true,by simp[he],it0 rfl go⟩
   ·rintro σ G1 ⟨ms,l,av,v,rfl,sb,gl,hpw,hm,hav⟩
    simp only[B3,nCB,Ak,Au,List.getElem?_cons_succ,List.getElem?_cons_zero,Option.some.injEq,A0,List.cons.injEq,and_true,exists_eq_left',Ai gl]
    exact⟨G,sb,k ms hpw fun x=>by rw[hm,Drift,if_pos (hw.mpr hz)]⟩
abbrev s_law:Stmt:=top 36
abbrev V3:List Str:=["_law_script", "_law_k", "_law_box_here", "_law_sea_here", "_law_turn", "_law_cell", "_law_days", "_law_due"]
abbrev Ob:List Str:=["_law_script"]
theorem sc_law:FnScope V3 Ob (Ah s_law):=⟨rfl,rfl,rfl,by decide +kernel,rfl,by decide +kernel,by decide +kernel⟩
theorem Ud{f:Addr}{fd:FuncData}(F:Fun K "law" "law" s_law f fd)(T:Nums mg)(Xj:Def P w K mg base CX0 1 "_law_box" p_L_box spBox)(W2:Def P w K mg base CX0 2 "_law_take" p_L_take spTake)(Xk:Def P w K mg base CX0 3 "_law_sea" Di Kt)(Xl:Def P w K mg base CX0 3 "_law_cell_of" p_L_cell_of spCellOf)(Xm:Def P w K mg base CX0 2 "_law_drift" p_L_drift spDrift)(W6:Def P w K mg base CX0 6 "drift" Dh spDrift):FnOk P w K mg base CX0 7 f fd Ob (Ap K Lp):=by
 refine okD F sc_law (fun ds G Q E h=>?_) (fun cdv A outer s H XE ds G Q E hr h=>?_)
 ·obtain⟨ns,rfl,_⟩:=h;rfl
 ·obtain⟨ns,rfl,hl,q⟩:=h
  refine⟨_,(@qss_cons _ _ _ _ _ (@C1 _ _ _ _ _ _ _ _ _ _ PassesOwn.never rfl (T.blt (by decide)) (@qa_consP _ _ _ _ _ (@q_callB _ _ _ _ _ _ _ _ _ (@U0 _ rfl) (T.blt (by decide)) (by decide +kernel) (@qa_consP _ _ _ _ _ (@Ad _ _ _ _) (@qa_consP _ _ _ _ _ (@q_callB _ _ _ _ _ _ _ _ _ (@Uz _ rfl) (T.blt (by decide)) (by decide +kernel) (@qa_consP _ _ _ _ _ (@q_callB _ _ _ _ _ _ _ _ _ (@c_len _) (T.blt (by decide)) (by decide +kernel) (@qa_consP _ _ _ _ _ (@q_v1 _ _ 0 _ (by exact⟨rfl,rfl,rfl,rfl⟩)) (@qa_nil _) (by rfl)) (by rfl) (by decide) (by decide) (by rfl) (by rfl)) (@qa_consP _ _ _ _ _ (@Ad _ _ _ _) (@qa_nil _) (by rfl)) (by rfl)) (by rfl) (by decide) (by decide) (by rfl) (by rfl)) (@qa_nil _) (by rfl)) (by rfl)) (by rfl) (by decide) (by decide) (by rfl) (by rfl)) (@qa_nil _) (by rfl)) (@qg_name _ _ 1 _ sc_law.nd (by rfl) (by exact .inl rfl) (by exact .inl rfl)) (@qss_cons _ _ _ _ _ (@Av _ _ _ _ 2 _ _ sc_law.nd (@q_call _ _ _ _ _ _ _ _ noX _ _ _ Xj (hr.mono (by decide)) (@passN _ _) (@qa_consP _ _ _ _ _ (@q_v1 _ _ 0 _ (by exact⟨rfl,rfl,rfl,rfl⟩)) (@qa_consP _ _ _ _ _ (@q_v1 _ _ 1 _ (by exact⟨rfl,rfl,rfl,rfl⟩)) (@qa_nil _) (by rfl)) (by rfl)) (by rfl) (by decide) (by rfl) (by rfl)) (by rfl) (by exact .inl rfl) (by rfl) (by exact .inl rfl)) (@qss_cons _ _ _ _ _ (@Av _ _ _ _ 3 _ _ sc_law.nd (@q_call _ _ _ _ _ _ _ _ noX _ _ _ Xk (hr.mono (by decide)) (@passN _ _) (@qa_consP _ _ _ _ _ (@q_v1 _ _ 2 _ (by exact⟨rfl,rfl,rfl,rfl⟩)) (@qa_consP _ _ _ _ _ (@Bp _ _ _ _ _ _ (@B0 _ _ _ _ (@qa_consP _ _ _ _ _ (@Ad _ _ _ _) (@qa_consP _ _ _ _ _ (@Ad _ _ _ _) (@qa_nil _) (by rfl)) (by rfl))) (@q_call _ _ _ _ _ _ _ _ noX _ _ _ W2 (hr.mono (by decide)) (@passN _ _) (@qa_consP _ _ _ _ _ (@q_v1 _ _ 2 _ (by exact⟨rfl,rfl,rfl,rfl⟩)) (@qa_consP _ _ _ _ _ (@Ad _ _ _ _) (@qa_nil _) (by rfl)) (by rfl)) (by rfl) (by decide) (by rfl) (by rfl)) (by intro _ _ ;rfl)) (@qa_consP _ _ _ _ _ (@Bp _ _ _ _ _ _ (@B0 _ _ _ _ (@qa_consP _ _ _ _ _ (@Ad _ _ _ _) (@qa_consP _ _ _ _ _ (@Ad _ _ _ _) (@qa_nil _) (by rfl)) (by rfl))) (@q_call _ _ _ _ _ _ _ _ noX _ _ _ W2 (hr.mono (by decide)) (@passN _ _) (@qa_consP _ _ _ _ _ (@q_v1 _ _ 2 _ (by exact⟨rfl,rfl,rfl,rfl⟩)) (@qa_consP _ _ _ _ _ (@Ad _ _ _ _) (@qa_nil _) (by rfl)) (by rfl)) (by rfl) (by decide) (by rfl) (by rfl)) (by intro _ _ ;rfl)) (@qa_nil _) (by rfl)) (by rfl)) (by rfl)) (by rfl) (by decide) (by rfl) (by rfl)) (by rfl) (by exact .inl rfl) (by rfl) (by exact .inl rfl)) (@qss_one _ _ _ (@C1 _ _ _ _ _ _ _ _ _ _ PassesOwn.never rfl (T.blt (by decide)) (@qa_consP _ _ _ _ _ (@Ad _ _ _ _) (@qa_nil _) (by rfl)) (@qg_name _ _ 4 _ sc_law.nd (by rfl) (by exact .inl rfl) (by exact .inl rfl)) (@qss_cons _ _ _ _ _ (@Av _ _ _ _ 5 _ _ sc_law.nd (@q_call _ _ _ _ _ _ _ _ noX _ _ _ Xl (hr.mono (by decide)) (@passN _ _) (@qa_consP _ _ _ _ _ (@q_v1 _ _ 2 _ (by exact⟨rfl,rfl,rfl,rfl⟩)) (@qa_consP _ _ _ _ _ (@q_v1 _ _ 3 _ (by exact⟨rfl,rfl,rfl,rfl⟩)) (@qa_nil _) (by rfl)) (by rfl)) (by rfl) (by decide) (by rfl) (by rfl)) (by rfl) (by exact .inl rfl) (by rfl) (by exact .inl rfl)) (@qss_one _ _ _ (@Fe _ _ _ _ _ _ _ _ PassesOwn.never rfl (@B0 _ _ _ _ (@qa_consP _ _ _ _ _ (@Ad _ _ _ _) (@qa_consP _ _ _ _ _ (@Ad _ _ _ _) (@qa_consP _ _ _ _ _ (@Az _ _ _ _ _ _ _ _ (@Be _) (@Ad _ _ _ _) (@q_call _ _ _ _ _ _ _ _ noX _ _ _ W2 (hr.mono (by decide)) (@passN _ _) (@qa_consP _ _ _ _ _ (@q_v1 _ _ 2 _ (by exact⟨rfl,rfl,rfl,rfl⟩)) (@qa_consP _ _ _ _ _ (@Ad _ _ _ _) (@qa_nil _) (by rfl)) (by rfl)) (by rfl) (by decide) (by rfl) (by rfl))) (@qa_consP _ _ _ _ _ (@Bp _ _ _ _ _ _ (@B0 _ _ _ _ (@qa_consP _ _ _ _ _ (@Ad _ _ _ _) (@qa_consP _ _ _ _ _ (@Ad _ _ _ _) (@qa_nil _) (by rfl)) (by rfl))) (@Az _ _ _ _ _ _ _ _ (@Ds _) (@q_v1 _ _ 4 _ (by exact⟨rfl,rfl,rfl,rfl⟩)) (@Ad _ _ _ _)) (by intro _ _ ;rfl)) (@qa_nil _) (by rfl)) (by rfl)) (by rfl)) (by rfl))) (@qg_name _ _ 6 _ sc_law.nd (by rfl) (by exact .inl rfl) (by exact .inl rfl)) (@qss_cons _ _ _ _ _ (@Av _ _ _ _ 7 _ _ sc_law.nd (@q_call _ _ _ _ _ _ _ _ noX _ _ _ Xm (hr.mono (by decide)) (@passN _ _) (@qa_consP _ _ _ _ _ (@q_v1 _ _ 3 _ (by exact⟨rfl,rfl,rfl,rfl⟩)) (@qa_consP _ _ _ _ _ (@q_v1 _ _ 5 _ (by exact⟨rfl,rfl,rfl,rfl⟩)) (@qa_consP _ _ _ _ _ (@q_v1 _ _ 6 _ (by exact⟨rfl,rfl,rfl,rfl⟩)) (@qa_nil _) (by rfl)) (by rfl)) (by rfl)) (by rfl) (by decide) (by rfl) (by rfl)) (by rfl) (by exact .inl rfl) (by rfl) (by exact .inl rfl)) (@qss_one _ _ _ (@qs_if _ _ _ _ _ _ _ _ (@Fb _ _ _ (@Lq _ _ _ _ _ _ _ (@B7 _ _ _ _ _ _ _ _ (@Ql _) (@q_callB _ _ _ _ _ _ _ _ _ (@Hw _ _ hr) (T.blt (by decide)) (by decide +kernel) (@qa_consP _ _ _ _ _ (@q_call _ _ _ _ _ _ _ _ noX _ _ _ W6 (hr.mono (by decide)) (@passN _ _) (@qa_consP _ _ _ _ _ (@q_v1 _ _ 3 _ (by exact⟨rfl,rfl,rfl,rfl⟩)) (@qa_consP _ _ _ _ _ (@q_v1 _ _ 5 _ (by exact⟨rfl,rfl,rfl,rfl⟩)) (@qa_consP _ _ _ _ _ (@q_v1 _ _ 6 _ (by exact⟨rfl,rfl,rfl,rfl⟩)) (@qa_nil _) (by rfl)) (by rfl)) (by rfl)) (by rfl) (by decide) (by rfl) (by rfl)) (@qa_nil _) (by rfl)) (by rfl) (by decide) (by decide) (by rfl) (by rfl)) (@q_callB _ _ _ _ _ _ _ _ _ (@Hw _ _ hr) (T.blt (by decide)) (by decide +kernel) (@qa_consP _ _ _ _ _ (@q_v1 _ _ 7 _ (by exact⟨rfl,rfl,rfl,rfl⟩)) (@qa_nil _) (by rfl)) (by rfl) (by decide) (by decide) (by rfl) (by rfl)) (Bz _)) (@qw_or1 _ _ _ _ (@B7 _ _ _ _ _ _ _ _ (@Ql _) (@q_callB _ _ _ _ _ _ _ _ _ (@Hw _ _ hr) (T.blt (by decide)) (by decide +kernel) (@qa_consP _ _ _ _ _ (@q_call _ _ _ _ _ _ _ _ noX _ _ _ W6 (hr.mono (by decide)) (@passN _ _) (@qa_consP _ _ _ _ _ (@q_v1 _ _ 3 _ (by exact⟨rfl,rfl,rfl,rfl⟩)) (@qa_consP _ _ _ _ _ (@q_v1 _ _ 5 _ (by exact⟨rfl,rfl,rfl,rfl⟩)) (@qa_consP _ _ _ _ _ (@q_v1 _ _ 6 _ (by exact⟨rfl,rfl,rfl,rfl⟩)) (@qa_nil _) (by rfl)) (by rfl)) (by rfl)) (by rfl) (by decide) (by rfl) (by rfl)) (@qa_nil _) (by rfl)) (by rfl) (by decide) (by decide) (by rfl) (by rfl)) (@q_callB _ _ _ _ _ _ _ _ _ (@Hw _ _ hr) (T.blt (by decide)) (by decide +kernel) (@qa_consP _ _ _ _ _ (@q_v1 _ _ 7 _ (by exact⟨rfl,rfl,rfl,rfl⟩)) (@qa_nil _) (by rfl)) (by rfl) (by decide) (by decide) (by rfl) (by rfl)) (Bz _))))) (@qss_one _ _ _ (@qs_ret _ _ _ _ (@q_bl _ _ _ _))) (@qss_nil _)))) (by intro _ ;rfl)))) (by rfl) (by rfl) (by intro _ ;rfl))))) (by rfl) (by rfl) (by intro _ ;rfl)) (@qss_one _ _ _ (@qs_ret _ _ _ _ (@q_bl _ _ _ _)))),?_⟩
  have sz2:=sz2
  have sz4:4≤sizeLine:=szl (by decide)
  simp only[Bw,Ey,Ak,nCB,nC,Au,As,List.map_cons,List.map_nil,List.length_cons,List.length_nil,Nat.zero_add,Nat.reduceAdd,Nat.reduceSub,List.replicate,List.cons_append,List.nil_append,List.getElem?_cons_zero,Option.some.injEq,A0,List.cons.injEq,and_true,D.int.injEq,Int.reducePow,Int.reduceNeg,and_assoc,exists_eq_left',exists_and_left,Jq]
  have hb:∀n:Int,0≤n→1≤(if (if 4<n then 4 else n)>1 then (if 4<n then 4 else n) else 1)∧(if (if 4<n then 4 else n)>1 then (if 4<n then 4 else n) else 1)≤4:=fun n hn=>by
   by_cases h:4<n
   ·rw[if_pos h];decide
   ·rw[if_neg h]
    by_cases h2:n>1
    ·rw[if_pos h2];omega
    ·rw[if_neg h2];decide
  obtain⟨b1,b2⟩:=hb (ns.length:Nat) (by omega)
  generalize (if (if (4:Int)<(ns.length:Nat) then (4:Int) else (ns.length:Nat))>1 then (if (4:Int)<(ns.length:Nat) then (4:Int) else (ns.length:Nat)) else 1)=m at *
  refine⟨by omega,by omega,?_⟩
  refine Bj (fun i σ G'=>∃v1 v2 v3 v4 v5 v6 v7,σ=[some (.lint ns),v1,v2,v3,v4,v5,v6,v7]) ⟨_,_,_,_,_,_,_,rfl⟩ ?_ ?_
  ·rintro i σ G1 hi ⟨v1,v2,v3,v4,v5,v6,v7,rfl⟩
   simp only[A5,Bw,B5,Bd,Ak,Au,List.set_cons_succ,List.set_cons_zero,List.getElem?_cons_zero,Option.some.injEq,List.getElem?_cons_succ,A0,nOp,Ei,nC,List.length_cons,List.length_nil,Nat.zero_add,Nat.reduceAdd,sz2,dIx,Ey,List.cons.injEq,D.int.injEq,and_true,Int.reducePow,Int.reduceNeg,and_assoc,exists_eq_left',Int.reduceLE,Int.reduceLT,Int.reduceToNat,true_and]
   refine⟨ns,(i:Nat),rfl,⟨by omega,by omega⟩,fun a ha b0 c0=>?_⟩
   have s1:Step a (Ae G1 a (.lst [.int b0,.int c0])) (Ae G1 a (.lst [.int b0,.int c0])):=Step.refl ⟨b0,c0,Aa⟩
   generalize Ae G1 a (.lst [.int b0,.int c0])=G2 at *
   intro p1 hp1
   have n1:=Step.ne s1.box hp1
   have s2:=s1.lay (o:=.lst [.int 5,.int 16]) hp1
   have g2:Ae G2 p1 (.lst [.int 5,.int 16]) p1=some (.lst [.int 5,.int 16]):=Aa
   generalize Ae G2 p1 (.lst [.int 5,.int 16])=G3 at *
   refine Bh s2.box (by decide) (by decide) fun r1 G4 r1l r1h s4=>?_
   have g4:=s4.get n1 g2
   obtain⟨d1,hd1,hm1⟩:=Dm (xs:=[D.int 5,.int 16]) r1l (by simpa using r1h)
   obtain⟨x1,rfl,hx1⟩:∃x,d1=.int x∧2≤x∧x≤16:=by
    simp only[List.mem_cons,List.not_mem_nil,or_false] at hm1
    rcases hm1 with rfl|rfl<;>exact⟨_,rfl,by omega,by omega⟩
   refine⟨r1,rfl,_,(By g4).trans hd1,fun p2 hp2=>?_⟩
   have n2:=Step.ne s4.box hp2
   have s5:=s4.lay (o:=.lst [.int 4,.int 9]) hp2
   have g5:Ae G4 p2 (.lst [.int 4,.int 9]) p2=some (.lst [.int 4,.int 9]):=Aa
   generalize Ae G4 p2 (.lst [.int 4,.int 9])=G5 at *
   refine Bh s5.box (by decide) (by decide) fun r2 G6 r2l r2h s6=>?_
   have g6:=s6.get n2 g5
   obtain⟨d2,hd2,hm2⟩:=Dm (xs:=[D.int 4,.int 9]) r2l (by simpa using r2h)
   obtain⟨x2,rfl,hx2⟩:∃x,d2=.int x∧1≤x∧x≤9:=by
    simp only[List.mem_cons,List.not_mem_nil,or_false] at hm2
    rcases hm2 with rfl|rfl<;>exact⟨_,rfl,by omega,by omega⟩
   refine⟨r2,rfl,_,(By g6).trans hd2,a,x1,x2,rfl,s6.box,⟨hx1.1,hx1.2,hx2.1,hx2.2⟩,fun sea h G7 ok s7=>?_⟩
   refine Bj (fun j σ G'=>∃v4 v5 v6 v7,σ=[some (.lint ns),some (.int i),some (.ref a),some (Bl sea),v4,v5,v6,v7]∧Ez (G' a)) ⟨_,_,_,_,rfl,s7.box⟩ ?_ ?_
   ·rintro j σ G8 hj ⟨v4,v5,v6,v7,rfl,b8⟩
    simp only[A5,Bw,B5,Bd,Ak,Au,List.set_cons_succ,List.set_cons_zero,List.getElem?_cons_succ,List.getElem?_cons_zero,Option.some.injEq,A0,Mn,Ei,nC,nOp,List.length_cons,List.length_nil,Nat.zero_add,Nat.reduceAdd,sz2,dI,D.int.injEq,dIx,sz4,true_and,exists_eq_left',Int.reduceLT]
    refine⟨a,sea,h,rfl,b8,ok,fun c G9 hc s9=>?_⟩
    refine Bh s9.box (by decide) (by decide) fun r3 G10 r3l r3h s10=>?_
    rw[Ch]
    intro p3 hp3
    have s11:=s10.lay (o:=.lst [.int 400,.int 24]) hp3
    obtain⟨d3,hd3,hm3⟩:=Dm (xs:=[D.int 400,.int 24]) (i:=(j:Int) % 2) (by omega) (by simp;omega)
    obtain⟨x3,rfl,hx3⟩:∃x,d3=.int x∧0≤x∧x≤400:=by
     simp only[List.mem_cons,List.not_mem_nil,or_false] at hm3
     rcases hm3 with rfl|rfl<;>exact⟨_,rfl,by omega,by omega⟩
    refine⟨_,(By Aa).trans hd3,?_⟩
    generalize Ae G10 p3 (.lst [.int 400,.int 24])=G11 at *
    intro p4 hp4
    have n4:=Step.ne s11.box hp4
    have b12:=(s11.lay (o:=.lst [.int 0,.int 1,.int (2+r3),.int x3]) hp4).box
    refine⟨_,Ai Aa,?_⟩
    have g12:Ae G11 p4 (.lst [.int 0,.int 1,.int (2+r3),.int x3]) p4=some (.lst [.int 0,.int 1,.int (2+r3),.int x3]):=Aa
    generalize Ae G11 p4 (.lst [.int 0,.int 1,.int (2+r3),.int x3])=G12 at *
    refine Cv (fun e σ G'=>G'=G12∧∃v6 v7,σ=[some (.lint ns),some (.int i),some (.ref a),some (Bl sea),some (.int j),some (Ag c),v6,v7]) ⟨rfl,_,_,rfl⟩ ?_ ?_ ?_
    ·rintro e σ G' _ ⟨rfl,_⟩
     exact Ai g12
    ·rintro e x σ G' hx ⟨rfl,v6,v7,rfl⟩
     have hm:=List.mem_of_getElem? hx
     obtain⟨y,rfl,hy0,hy1⟩:∃y,x=.int y∧0≤y∧y≤400:=by
      simp only[List.mem_cons,List.not_mem_nil,or_false] at hm
      rcases hm with rfl|rfl|rfl|rfl<;>exact⟨_,rfl,by omega,by omega⟩
     simp only[A5,Bw,B5,Bd,Ak,Au,List.set_cons_succ,List.set_cons_zero,List.getElem?_cons_succ,List.getElem?_cons_zero,Option.some.injEq,A0,Dx,nOr,B6,nOp,nCB,List.cons.injEq,and_true,dNe,eqS,D.bl.injEq,B3,nC,B1,if_true,exists_eq_left']
     refine⟨sea,h,c,y,rfl,ok,hc,hy0,hy1,fun ms hp hm=>?_⟩
     have hin:∀x∈ms,InS sea h x:=fun x hx=>Drift.inS hc ((hm x).mp hx)
     obtain⟨pd,hs⟩:=O8 (G:=G') ok hp hin
     have again:∀{Q':DK},Q' (.tup (ms.map Ag)) G'→spDrift [Bl sea,Ag c,.int y] G' Q' noX:=fun {Q'} hq=>by
      refine⟨sea,h,c,y,rfl,ok,hc,hy0,hy1,fun ms' hp' hm'=>?_⟩
      rw[O1 hp' hp fun x=>by rw[hm,hm']];exact hq
     have hl:=Vl (Nat.le_trans hs.len (by decide))
     have hdp:=Nat.le_trans hs.dep (show 3≤99 by decide)
     refine again ⟨pd,hs.rep,hs.ok,hl,hdp,pd,hs.rep,hs.ok,hl,hdp,it1 (by simp) (again ⟨pd,hs.rep,hs.ok,hl,hdp,pd,hs.rep,hs.ok,hl,hdp,it1 (by simp) (Fs.of ⟨rfl,_,_,rfl⟩)⟩)⟩
    ·rintro σ G' ⟨rfl,v6,v7,rfl⟩
     exact⟨_,Sub.refl _,_,_,_,_,rfl,b12⟩
   ·rintro σ G8 ⟨v4,v5,v6,v7,rfl,b8⟩
    exact⟨_,Sub.refl _,_,_,_,_,_,_,_,rfl⟩
  ·rintro σ G1 ⟨v1,v2,v3,v4,v5,v6,v7,rfl⟩
   simp only[B3,nC]
   exact Fq.of (q _)
end
end K2
set_option maxRecDepth 100000
set_option maxHeartbeats 4000000
namespace K2
open PySem L2 D3
section
variable{P:Program}{w:World}{K:W.Frag}{mg:Str→Option Value}{base:Heap}
theorem Qg{K:W.Frag}:∀f fd,Fun K "_law_box" "_law_box" s_L_box f fd→Binds K fd p_L_box []:=fun f fd F=>F.binds (ps:=p_L_box) fun _ _ _ _ _ _ us hl=>match us,hl with | [_,_],_=>rfl
theorem N1{K:W.Frag}:∀f fd,Fun K "_law_more" "_law_more" s_L_more f fd→Binds K fd Cs []:=fun f fd F=>F.binds (ps:=Cs) fun _ _ _ _ _ _ us hl=>match us,hl with | [_],_=>rfl
theorem N0{K:W.Frag}:∀f fd,Fun K "_law_take" "_law_take" s_L_take f fd→Binds K fd p_L_take []:=fun f fd F=>F.binds (ps:=p_L_take) fun _ _ _ _ _ _ us hl=>match us,hl with | [_,_],_=>rfl
theorem D2{K:W.Frag}:∀f fd,Fun K "is_whole_within" "is_whole_within" s_is_whole_within f fd→Binds K fd Aj []:=fun f fd F=>F.binds (ps:=Aj) fun _ _ _ _ _ _ us hl=>match us,hl with | [_,_,_],_=>rfl
theorem Kh{K:W.Frag}:∀f fd,Fun K "is_depth" "is_depth" s_is_depth f fd→Binds K fd Br []:=fun f fd F=>F.binds (ps:=Br) fun _ _ _ _ _ _ us hl=>match us,hl with | [_],_=>rfl
theorem Nz{K:W.Frag}:∀f fd,Fun K "is_day" "is_day" s_is_day f fd→Binds K fd Cr []:=fun f fd F=>F.binds (ps:=Cr) fun _ _ _ _ _ _ us hl=>match us,hl with | [_],_=>rfl
theorem Iu{K:W.Frag}:∀f fd,Fun K "is_column" "is_column" s_is_column f fd→Binds K fd Bk []:=fun f fd F=>F.binds (ps:=Bk) fun _ _ _ _ _ _ us hl=>match us,hl with | [_],_=>rfl
theorem Ny{K:W.Frag}:∀f fd,Fun K "is_sea" "is_sea" s_is_sea f fd→Binds K fd Cq []:=fun f fd F=>F.binds (ps:=Cq) fun _ _ _ _ _ _ us hl=>match us,hl with | [_],_=>rfl
theorem Iv{K:W.Frag}:∀f fd,Fun K "check_sea" "check_sea" s_check_sea f fd→Binds K fd p_check_sea []:=fun f fd F=>F.binds (ps:=p_check_sea) fun _ _ _ _ _ _ us hl=>match us,hl with | [_],_=>rfl
theorem Iw{K:W.Frag}:∀f fd,Fun K "check_day" "check_day" s_check_day f fd→Binds K fd p_check_day []:=fun f fd F=>F.binds (ps:=p_check_day) fun _ _ _ _ _ _ us hl=>match us,hl with | [_],_=>rfl
theorem Ki{K:W.Frag}:∀f fd,Fun K "depth_at" "depth_at" s_depth_at f fd→Binds K fd Bs []:=fun f fd F=>F.binds (ps:=Bs) fun _ _ _ _ _ _ us hl=>match us,hl with | [_,_],_=>rfl
theorem Lf{K:W.Frag}:∀f fd,Fun K "is_cell" "is_cell" s_is_cell f fd→Binds K fd p_is_cell []:=fun f fd F=>F.binds (ps:=p_is_cell) fun _ _ _ _ _ _ us hl=>match us,hl with | [_,_],_=>rfl
theorem Ga{K:W.Frag}:∀f fd,Fun K "check_cell" "check_cell" s_check_cell f fd→Binds K fd Bb []:=fun f fd F=>F.binds (ps:=Bb) fun _ _ _ _ _ _ us hl=>match us,hl with | [_,_],_=>rfl
theorem Kg{K:W.Frag}:∀f fd,Fun K "is_water" "is_water" s_is_water f fd→Binds K fd p_is_water []:=fun f fd F=>F.binds (ps:=p_is_water) fun _ _ _ _ _ _ us hl=>match us,hl with | [_,_],_=>rfl
theorem Ew{K:W.Frag}:∀f fd,Fun K "waters_beside" "waters_beside" s_waters_beside f fd→Binds K fd Ay []:=fun f fd F=>F.binds (ps:=Ay) fun _ _ _ _ _ _ us hl=>match us,hl with | [_,_],_=>rfl
theorem F5{K:W.Frag}:∀f fd,Fun K "one_step_on" "one_step_on" s_one_step_on f fd→Binds K fd A8 []:=fun f fd F=>F.binds (ps:=A8) fun _ _ _ _ _ _ us hl=>match us,hl with | [_,_,_],_=>rfl
theorem Qe{K:W.Frag}:∀f fd,Fun K "drift" "drift" s_drift f fd→Binds K fd Dh []:=fun f fd F=>F.binds (ps:=Dh) fun _ _ _ _ _ _ us hl=>match us,hl with | [_,_,_],_=>rfl
theorem Qf{K:W.Frag}:∀f fd,Fun K "_law_sea" "_law_sea" s_L_sea f fd→Binds K fd Di []:=fun f fd F=>F.binds (ps:=Di) fun _ _ _ _ _ _ us hl=>match us,hl with | [_,_,_],_=>rfl
theorem Ix{K:W.Frag}:∀f fd,Fun K "_law_cell_of" "_law_cell_of" s_L_cell_of f fd→Binds K fd p_L_cell_of []:=fun f fd F=>F.binds (ps:=p_L_cell_of) fun _ _ _ _ _ _ us hl=>match us,hl with | [_,_],_=>rfl
theorem Lg{K:W.Frag}:∀f fd,Fun K "_law_round" "_law_round" s_L_round f fd→Binds K fd B4 []:=fun f fd F=>F.binds (ps:=B4) fun _ _ _ _ _ _ us hl=>match us,hl with | [_,_],_=>rfl
theorem Lh{K:W.Frag}:∀f fd,Fun K "_law_drift" "_law_drift" s_L_drift f fd→Binds K fd p_L_drift []:=fun f fd F=>F.binds (ps:=p_L_drift) fun _ _ _ _ _ _ us hl=>match us,hl with | [_,_,_],_=>rfl
theorem U1{h:Heap}(X:K.In h)(G:h.Ns mainGlobals mg)(z0:PySem.W.nsIn K mainGlobals "len" = some none)(z1:PySem.W.nsIn K mainGlobals "range" = some none)(z2:PySem.W.nsIn K mainGlobals "abs" = some none)(z3:PySem.W.nsIn K mainGlobals "divmod" = some none)(z4:PySem.W.nsIn K mainGlobals "max" = some none)(z5:PySem.W.nsIn K mainGlobals "min" = some none)(z6:PySem.W.nsIn K mainGlobals "tuple" = some none)(z7:PySem.W.nsIn K mainGlobals "int" = some none)(z8:PySem.W.nsIn K mainGlobals "bool" = some none)(z9:PySem.W.nsIn K mainGlobals "list" = some none)(z10:PySem.W.nsIn K mainGlobals "isinstance" = some none)(z11:PySem.W.nsIn K mainGlobals "all" = some none)(z12:PySem.W.nsIn K mainGlobals "sorted" = some none)(z13:PySem.W.nsIn K mainGlobals "repr" = some none)(z14:PySem.W.nsIn K mainGlobals "dict" = some none):Blt mg:=⟨fun {x} hx=>by
 simp only[Jz,List.mem_cons,List.not_mem_nil,or_false] at hx
 rcases hx with rfl|rfl|rfl|rfl|rfl|rfl|rfl|rfl|rfl|rfl|rfl|rfl|rfl|rfl|rfl
 ·exact PySem.W.mg_none_of X G z0
 ·exact PySem.W.mg_none_of X G z1
 ·exact PySem.W.mg_none_of X G z2
 ·exact PySem.W.mg_none_of X G z3
 ·exact PySem.W.mg_none_of X G z4
 ·exact PySem.W.mg_none_of X G z5
 ·exact PySem.W.mg_none_of X G z6
 ·exact PySem.W.mg_none_of X G z7
 ·exact PySem.W.mg_none_of X G z8
 ·exact PySem.W.mg_none_of X G z9
 ·exact PySem.W.mg_none_of X G z10
 ·exact PySem.W.mg_none_of X G z11
 ·exact PySem.W.mg_none_of X G z12
 ·exact PySem.W.mg_none_of X G z13
 ·exact PySem.W.mg_none_of X G z14⟩
theorem Rp{h:Heap}(X:K.In h)(G:h.Ns mainGlobals mg)(B:Blt mg){t0 t1 t2 t3 t4 t5 t6:Tok}(a0:PySem.W.nsIn K mainGlobals "LEAST_COLUMNS" = some (some (.int 2 t0)))(a1:PySem.W.nsIn K mainGlobals "MOST_COLUMNS" = some (some (.int 16 t1)))(a2:PySem.W.nsIn K mainGlobals "LEAST_ROWS" = some (some (.int 1 t2)))(a3:PySem.W.nsIn K mainGlobals "MOST_ROWS" = some (some (.int 9 t3)))(a4:PySem.W.nsIn K mainGlobals "LAND" = some (some (.int 0 t4)))(a5:PySem.W.nsIn K mainGlobals "MOST_DEPTH" = some (some (.int 9 t5)))(a6:PySem.W.nsIn K mainGlobals "LAST_DAY" = some (some (.int 400 t6))):Nums mg:=⟨B,⟨t0,PySem.W.mg_of X G a0⟩,⟨t1,PySem.W.mg_of X G a1⟩,⟨t2,PySem.W.mg_of X G a2⟩,⟨t3,PySem.W.mg_of X G a3⟩,⟨t4,PySem.W.mg_of X G a4⟩,⟨t5,PySem.W.mg_of X G a5⟩,⟨t6,PySem.W.mg_of X G a6⟩⟩
theorem U3{h:Heap}(X:K.In h)(G:h.Ns mainGlobals mg)(T:Nums mg)(Xn:FnIs K "_law_box" s_L_box)(Xo:FnIs K "_law_more" s_L_more)(Xp:FnIs K "_law_take" s_L_take)(Xq:FnIs K "is_whole_within" s_is_whole_within)(Xr:FnIs K "is_depth" s_is_depth)(Xs:FnIs K "is_day" s_is_day)(Xt:FnIs K "is_column" s_is_column)(Xu:FnIs K "is_sea" s_is_sea)(Xv:FnIs K "check_sea" s_check_sea)(Xw:FnIs K "check_day" s_check_day)(Xx:FnIs K "depth_at" s_depth_at)(Xy:FnIs K "is_cell" s_is_cell)(Xz:FnIs K "check_cell" s_check_cell)(X0:FnIs K "is_water" s_is_water)(X1:FnIs K "waters_beside" s_waters_beside)(X2:FnIs K "one_step_on" s_one_step_on)(X3:FnIs K "drift" s_drift)(X4:FnIs K "_law_sea" s_L_sea)(X5:FnIs K "_law_cell_of" s_L_cell_of)(X6:FnIs K "_law_round" s_L_round)(X7:FnIs K "_law_drift" s_L_drift){f:Addr}{fd:FuncData}(F:Fun K "law" "law" s_law f fd):FnOk P w K mg base CX0 7 f fd Ob (Ap K Lp):=by
 have Xj:Def P w K mg base CX0 1 "_law_box" p_L_box spBox:=A2 Xn X G Qg fun f fd F=>Uf F T.toBlt
 have W7:Def P w K mg base CX0 1 "_law_more" Cs Hq:=A2 Xo X G N1 fun f fd F=>Rl F T.toBlt
 have W2:Def P w K mg base CX0 2 "_law_take" p_L_take spTake:=A2 Xp X G N0 fun f fd F=>Rk F T.toBlt W7
 have W3:Def P w K mg base CX0 1 "is_whole_within" Aj Cc:=A2 Xq X G D2 fun f fd F=>Pq F T
 have W8:Def P w K mg base CX0 2 "is_depth" Br (Iz 0 9):=A2 Xr X G Kh fun f fd F=>Pu F T W3
 have Xb:Def P w K mg base CX0 2 "is_day" Cr (Iz 0 400):=A2 Xs X G Nz fun f fd F=>Ue F T W3
 have W9:Def P w K mg base CX0 3 "is_column" Bk D9:=A2 Xt X G Iu fun f fd F=>M7 F T W8
 have Xa:Def P w K mg base CX0 4 "is_sea" Cq Lo:=A2 Xu X G Ny fun f fd F=>Uc F T W9
 have Xe:Def P w K mg base CX0 5 "check_sea" p_check_sea spCheckSea:=A2 Xv X G Iv fun f fd F=>J3 F T Xa
 have Xg:Def P w K mg base CX0 3 "check_day" p_check_day (spChk 0 400):=A2 Xw X G Iw fun f fd F=>J4 F T Xb
 have Xc:Def P w K mg base CX0 1 "depth_at" Bs Dn:=A2 Xx X G Ki fun f fd F=>K9 F T
 have W4:Def P w K mg base CX0 2 "is_cell" p_is_cell spCell:=A2 Xy X G Lf fun f fd F=>Rn F T W3
 have Xf:Def P w K mg base CX0 3 "check_cell" Bb Ce:=A2 Xz X G Ga fun f fd F=>Im F T W4
 have W5:Def P w K mg base CX0 2 "is_water" p_is_water spWater:=A2 X0 X G Kg fun f fd F=>Pr F T Xc
 have Xd:Def P w K mg base CX0 3 "waters_beside" Ay Ea:=A2 X1 X G Ew fun f fd F=>M9 F T W4 W5
 have Xh:Def P w K mg base CX0 4 "one_step_on" A8 Eo:=A2 X2 X G F5 fun f fd F=>K8 F T Xd
 have W6:Def P w K mg base CX0 6 "drift" Dh spDrift:=A2 X3 X G Qe fun f fd F=>Pt F T Xe Xf Xg W5 Xh
 have Xk:Def P w K mg base CX0 3 "_law_sea" Di Kt:=A2 X4 X G Qf fun f fd F=>Rm F T.toBlt W2
 have Xl:Def P w K mg base CX0 3 "_law_cell_of" p_L_cell_of spCellOf:=A2 X5 X G Ix fun f fd F=>M8 F T.toBlt W2
 have Xi:Def P w K mg base CX0 1 "_law_round" B4 E7:=A2 X6 X G Lg fun f fd F=>Ps F T.toBlt
 have Xm:Def P w K mg base CX0 2 "_law_drift" p_L_drift spDrift:=A2 X7 X G Lh fun f fd F=>M6 F T.toBlt Xi
 exact Ud F T Xj W2 Xk Xl Xm W6
end
end K2
open PySem PySem.W PyProof.Rows L2 D3
set_option maxRecDepth 100000 in
set_option maxHeartbeats 0 in
theorem PySem.Challenge.cw_laidmarks_k02_drift_holds : PySem.Challenge.rw_laidmarks_k02_drift.Holds := by
  w_on;o_law;k_head;(case hw=>w_witness2)
  k_fill
  refine L2.O4 (l:=PySem.Challenge.rw_laidmarks_k02_drift) (n:=63) (k:=7) (x:="_law_script") (CX:=CX0) (sp:=fun K=>Ap K Lp) ?I rfl (by decide) rfl ⟨rfl,by decide,by decide,rfl⟩ (fun w h Y=>PySem.W.kIn_of Y) ?F Uk (fun _ _ _ _ z=>z)
  case I=>first | rfl | decide
  case F=>
    intro w mg fa h KX G hmg
    have Xn:FnIs (KOf KX) "_law_box" K2.s_L_box:=by (dsimp only [KOf];refine' Ar ?a ?l ?c ?k;(case a=>k_is);(case l=>k_is);(case c=>k_is);(case k=>k_is))
    have Xo:FnIs (KOf KX) "_law_more" K2.s_L_more:=by (dsimp only [KOf];refine' Ar ?a ?l ?c ?k;(case a=>k_is);(case l=>k_is);(case c=>k_is);(case k=>k_is))
    have Xp:FnIs (KOf KX) "_law_take" K2.s_L_take:=by (dsimp only [KOf];refine' Ar ?a ?l ?c ?k;(case a=>k_is);(case l=>k_is);(case c=>k_is);(case k=>k_is))
    have Xq:FnIs (KOf KX) "is_whole_within" K2.s_is_whole_within:=by (dsimp only [KOf];refine' Ar ?a ?l ?c ?k;(case a=>k_is);(case l=>k_is);(case c=>k_is);(case k=>k_is))
    have Xr:FnIs (KOf KX) "is_depth" K2.s_is_depth:=by (dsimp only [KOf];refine' Ar ?a ?l ?c ?k;(case a=>k_is);(case l=>k_is);(case c=>k_is);(case k=>k_is))
    have Xs:FnIs (KOf KX) "is_day" K2.s_is_day:=by (dsimp only [KOf];refine' Ar ?a ?l ?c ?k;(case a=>k_is);(case l=>k_is);(case c=>k_is);(case k=>k_is))
    have Xt:FnIs (KOf KX) "is_column" K2.s_is_column:=by (dsimp only [KOf];refine' Ar ?a ?l ?c ?k;(case a=>k_is);(case l=>k_is);(case c=>k_is);(case k=>k_is))
    have Xu:FnIs (KOf KX) "is_sea" K2.s_is_sea:=by (dsimp only [KOf];refine' Ar ?a ?l ?c ?k;(case a=>k_is);(case l=>k_is);(case c=>k_is);(case k=>k_is))
    have Xv:FnIs (KOf KX) "check_sea" K2.s_check_sea:=by (dsimp only [KOf];refine' Ar ?a ?l ?c ?k;(case a=>k_is);(case l=>k_is);(case c=>k_is);(case k=>k_is))
    have Xw:FnIs (KOf KX) "check_day" K2.s_check_day:=by (dsimp only [KOf];refine' Ar ?a ?l ?c ?k;(case a=>k_is);(case l=>k_is);(case c=>k_is);(case k=>k_is))
    have Xx:FnIs (KOf KX) "depth_at" K2.s_depth_at:=by (dsimp only [KOf];refine' Ar ?a ?l ?c ?k;(case a=>k_is);(case l=>k_is);(case c=>k_is);(case k=>k_is))
    have Xy:FnIs (KOf KX) "is_cell" K2.s_is_cell:=by (dsimp only [KOf];refine' Ar ?a ?l ?c ?k;(case a=>k_is);(case l=>k_is);(case c=>k_is);(case k=>k_is))
    have Xz:FnIs (KOf KX) "check_cell" K2.s_check_cell:=by (dsimp only [KOf];refine' Ar ?a ?l ?c ?k;(case a=>k_is);(case l=>k_is);(case c=>k_is);(case k=>k_is))
    have X0:FnIs (KOf KX) "is_water" K2.s_is_water:=by (dsimp only [KOf];refine' Ar ?a ?l ?c ?k;(case a=>k_is);(case l=>k_is);(case c=>k_is);(case k=>k_is))
    have X1:FnIs (KOf KX) "waters_beside" K2.s_waters_beside:=by (dsimp only [KOf];refine' Ar ?a ?l ?c ?k;(case a=>k_is);(case l=>k_is);(case c=>k_is);(case k=>k_is))
    have X2:FnIs (KOf KX) "one_step_on" K2.s_one_step_on:=by (dsimp only [KOf];refine' Ar ?a ?l ?c ?k;(case a=>k_is);(case l=>k_is);(case c=>k_is);(case k=>k_is))
    have X3:FnIs (KOf KX) "drift" K2.s_drift:=by (dsimp only [KOf];refine' Ar ?a ?l ?c ?k;(case a=>k_is);(case l=>k_is);(case c=>k_is);(case k=>k_is))
    have X4:FnIs (KOf KX) "_law_sea" K2.s_L_sea:=by (dsimp only [KOf];refine' Ar ?a ?l ?c ?k;(case a=>k_is);(case l=>k_is);(case c=>k_is);(case k=>k_is))
    have X5:FnIs (KOf KX) "_law_cell_of" K2.s_L_cell_of:=by (dsimp only [KOf];refine' Ar ?a ?l ?c ?k;(case a=>k_is);(case l=>k_is);(case c=>k_is);(case k=>k_is))
    have X6:FnIs (KOf KX) "_law_round" K2.s_L_round:=by (dsimp only [KOf];refine' Ar ?a ?l ?c ?k;(case a=>k_is);(case l=>k_is);(case c=>k_is);(case k=>k_is))
    have X7:FnIs (KOf KX) "_law_drift" K2.s_L_drift:=by (dsimp only [KOf];refine' Ar ?a ?l ?c ?k;(case a=>k_is);(case l=>k_is);(case c=>k_is);(case k=>k_is))
    have X8:FnIs (KOf KX) "law" K2.s_law:=by (dsimp only [KOf];refine' Ar ?a ?l ?c ?k;(case a=>k_is);(case l=>k_is);(case c=>k_is);(case k=>k_is))
    have B:K2.Blt mg:=by (refine' K2.U1 KX G ?z0 ?z1 ?z2 ?z3 ?z4 ?z5 ?z6 ?z7 ?z8 ?z9 ?z10 ?z11 ?z12 ?z13 ?z14;(case z0=>k_is);(case z1=>k_is);(case z2=>k_is);(case z3=>k_is);(case z4=>k_is);(case z5=>k_is);(case z6=>k_is);(case z7=>k_is);(case z8=>k_is);(case z9=>k_is);(case z10=>k_is);(case z11=>k_is);(case z12=>k_is);(case z13=>k_is);(case z14=>k_is))
    have T:K2.Nums mg:=by (refine' K2.Rp KX G B ?a0 ?a1 ?a2 ?a3 ?a4 ?a5 ?a6;(case a0=>k_is);(case a1=>k_is);(case a2=>k_is);(case a3=>k_is);(case a4=>k_is);(case a5=>k_is);(case a6=>k_is))
    obtain ⟨f,fd,F,a,kp⟩:=X8.ex
    have e0:=hmg.symm.trans (PySem.W.mg_of KX G a)
    cases e0
    obtain ⟨oc,od,kV,doc,pm,an,cdv,ct,osl,efd,lk,hcd⟩:=id F.ex
    refine ⟨fd,fun s u=>by (subst efd;exact .of_eq rfl),fun base kb nb=>K2.U3 KX G T Xn Xo Xp Xq Xr Xs Xt Xu Xv Xw Xx Xy Xz X0 X1 X2 X3 X4 X5 X6 X7 F⟩

