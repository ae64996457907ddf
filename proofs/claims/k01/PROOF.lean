import PyProof.Rows.All
import Wide.All
import OpenK.AllK
import Wide.FinOn
import Lean
import PyProof.EqAt
import PyProof.EqKinds
import PyProof.TupleCall
import OpenK.KOwn
import KE.KIsAll
import KE.KRevIter
import KE.KDictList
import PyProof.RulesAs
import PyProof.Rows.SumAny
import PyProof.Rows.SortRunsK
import KE.KSortTup
import KE.KDictOf
import PyProof.AttrMissHeap
import PySem.Challenge.RW_laidmarks_k01_seas_known
set_option linter.all false
set_option Elab.async false
set_option maxRecDepth 100000
set_option maxHeartbeats 4000000
namespace PySem.W.Fast
def tw363565312400901085:=0
def tw5522909659600825506:=0
def tw4654523675335360743:=0
def tw2714848146098246827:=0
def tw14435524468192758216:=0
def tw3700873392651735175:=0
def tw3298873091798569799:=0
def tw3689401685418358973:=0
def tw1502251727733288158:=0
def tw15802436523023347342:=0
def tw5861317816043558618:=0
def tw4225190547720900559:=0
def tw6884998163993713978:=0
def tw7038764829425892463:=0
def tw13606797045458114669:=0
def tw6150362339720484496:=0
def tw18331672154833703698:=0
def tw981147525818335528:=0
def tw14038515278589070457:=0
def tw16800943311411863513:=0
def tw17400988589149903371:=0
def tw16395748554579331248:=0
def tw13813257634076417016:=0
def tw7193755528987495084:=0
def tw4693222072277950114:=0
def tw10509454160755103644:=0
def tw4105076385092816662:=0
def tw11851400304264634543:=0
def tw11838346528437974444:=0
def tw13467272404904722601:=0
def tw12583481562787823452:=0
def tw4567083573972787542:=0
def tw5282071056716644894:=0
def tw13772511238568757813:=0
def tw17626904957856216596:=0
def tw9430390863255993971:=0
def tw8884246625185978914:=0
def tw12972060161214848618:=0
def tw5399677291601868330:=0
def tw6407718224647238758:=0
def tw14170322648093253308:=0
def tw10933951856482109437:=0
def tw15553613914943364610:=0
def tw8210057875958272213:=0
def tw17921122967254753584:=0
def tw14167550431387714326:=0
def tw2391779932916175535:=0
def tw4847488569677108882:=0
def tw6634789425537430241:=0
def tw7569428422406999511:=0
def tw469880983057181745:=0
def tw12428830341836374541:=0
def tw2691794709543298881:=0
def tw18422269758578876502:=0
def tw1933694197160616129:=0
def tw3709323649364574426:=0
def tw6935250521582036978:=0
def tw10516242074682638636:=0
def tw1238616990282806787:=0
def tw428132987804177419:=0
def tw17230057684257851541:=0
def tw3939044108528861738:=0
def tw5042882977519424588:=0
def tw8069713628270715664:=0
def tw3110584402391849280:=0
def tw5391946844953428915:=0
def tw8934548678072018096:=0
def tw1528255405453990150:=0
def tw15889096602985163071:=0
def tw18303105658103279218:=0
def tw12952829722310999573:=0
def tw9799287609976806034:=0
def tw2333416975895441355:=0
def tw11198697097939321810:=0
def tw6669310384156873551:=0
def tw3807100698599046671:=0
def tw9876778793256807526:=0
def tw11387103862667494286:=0
def tw15050342933920219630:=0
def tw15221650122042918737:=0
def tw18323605818397943882:=0
def tw11111943017941578879:=0
def tw3181790558377991355:=0
def tw11165943480889282001:=0
def tw692735373596564555:=0
def tw17905737097967869702:=0
def tw375924684245567280:=0
def tw4620626582044046112:=0
def tw156230703253394982:=0
def tw16052260011987732337:=0
def tw10873087797701628988:=0
def tw16542135748928807956:=0
def tw1594791196343793661:=0
def tw7794054889746229577:=0
def tw3257454704912503781:=0
def tw9680319124576810029:=0
def tw1789824814092395113:=0
def tw13736288754901664203:=0
def tw16773909296607477846:=0
def tw17796228640057117863:=0
def tw9884805512936729655:=0
def tw5409684959599103349:=0
def tw17129531507531639412:=0
def tw705141355323725705:=0
def tw14108916489219957311:=0
def tw6088789236193929904:=0
def tw1978686572394630565:=0
def tw5729342747922995071:=0
def tw2505480282468130253:=0
def tw6662456009552634506:=0
def tw1255807461674172336:=0
def tw6786394917906198709:=0
def tw8474715037574325288:=0
def tw6092603391808617488:=0
def tw1925487822279771322:=0
def tw16808845680272670764:=0
def tw1654544876066278391:=0
def tw13551063964362731627:=0
def tw18384153943057764066:=0
def tw12108270328013329305:=0
def tw8150983609235631127:=0
def tw11220099090574235009:=0
def tw1145956931842383410:=0
def tw1466304182286339685:=0
def tw5857722404439485775:=0
def tw18287347708123153277:=0
def tw17255526389175394678:=0
def tw7150855603484315889:=0
def tw16430214989226093572:=0
def tw3071113051587420369:=0
def tw1821435882367842886:=0
def tw13686163416304484948:=0
def tw9185674108450805534:=0
def tw7719802453877298345:=0
def tw9940904825541808780:=0
def tw3240991729790610874:=0
def tw2716311048938659208:=0
def tw10813142051021536225:=0
def tw2053308312602580725:=0
def tw13874469818925149343:=0
def tw5802528957898333032:=0
def tw2576384738824488468:=0
def tw7427659163834924235:=0
def tw18097722615972260585:=0
def tw17065993322364398931:=0
def tw16448876431034017093:=0
def tw10727585951346558551:=0
def tw8797671833078882990:=0
def tw15932083244236350124:=0
def tw13464315109948568120:=0
def tw10238486337660441663:=0
def tw5605006859253887438:=0
def tw10984254731390577934:=0
def tw4747828740240478935:=0
def tw1001524107580891633:=0
def tw18239874454309674205:=0
def tw49337027990167794:=0
def tw5693895885816306769:=0
def tw2769209246523954543:=0
def tw5687812566261116182:=0
def tw949224535109238417:=0
def tw10840588504077076768:=0
def tw12335761922807403928:=0
def tw5889587882835988192:=0
def tw14019108893198316567:=0
def tw9358997880794906824:=0
def tw13833564473136086840:=0
def tw11144953859283530465:=0
def tw10120189680104923097:=0
def tw14525884312229964511:=0
def tw12044171455120997053:=0
def tw7497220939407890769:=0
def tw9425320900956301804:=0
def tw11666493179465615873:=0
def tw15255161526376955858:=0
def tw4796875861610060131:=0
def tw5684648959466511646:=0
def tw5681427499159165762:=0
def tw6414159891555122020:=0
def tw10492990250952866583:=0
def tw7633192506597544147:=0
def tw14021923918287942791:=0
def tw11206061779071542629:=0
def tw6041940291986516804:=0
def tw12578529458787634407:=0
def tw6546262009330146161:=0
def tw4789822867548889671:=0
def tw5110591084873657035:=0
def tw7447505697404525519:=0
def tw4189378667292246930:=0
def tw16400339356548592398:=0
def tw12981802662020091809:=0
def tw10161270478953657047:=0
def tw4887298455969748027:=0
def tw3272807097794452674:=0
def tw17176378920491955929:=0
def tw6666370833590332807:=0
def tw9998804596123722720:=0
def tw2830374964155104139:=0
def tw7773929117248244358:=0
def tw5910968483265797024:=0
def tw1875954488106766148:=0
def tw18350380362595791957:=0
def tw14995432429842329015:=0
def tw6682633570680638118:=0
def tw4393076479677343787:=0
def tw2837570767996715943:=0
def tw16119568079290094184:=0
def tw3544078052152226951:=0
def tw66657758796869890:=0
def tw18346017285912068226:=0
def tw14875011862770835775:=0
def tw1210485875579532959:=0
def tw7992120365695078682:=0
def tw2434416943622710536:=0
def tw1342747208549866242:=0
def tw13576874536947332128:=0
def tw14579578616067928402:=0
def tw11971934040697912431:=0
def tw3489877402124308122:=0
def tw14639885098790001681:=0
def tw3865460186914363240:=0
def tw3900941854170164526:=0
def tw14530882933798120103:=0
def tw4570223139023293410:=0
def tw16786481886193575024:=0
def tw11207391714242900513:=0
def tw2643921026605842451:=0
def tw11745157929375411985:=0
def tw6744151408056552545:=0
def tw11069838400566620602:=0
def tw14796383374274472076:=0
def tw6773214071395100855:=0
def tw16665884263546340744:=0
def tw8771107030942166638:=0
def tw15526433168383331698:=0
def tw15907167884268333371:=0
def tw4706703533664306485:=0
def tw15687190774641317168:=0
def tw4293911767748315338:=0
def tw11453487522942146869:=0
def tw6935514573757059820:=0
def tw9602139029169045579:=0
def tw3670258766300946514:=0
def tw4956151980318962132:=0
def tw3284790360525112577:=0
def tw11033373617461013487:=0
def tw5386474111216709278:=0
def tw4139171139673828060:=0
def tw251452915693663583:=0
def tw17901347268547485854:=0
def tw14386342560577680096:=0
def tw14520769834455127285:=0
def tw943676351092328901:=0
def tw1004061056075551620:=0
def tw15855464005823946174:=0
def tw8035291361512779233:=0
def tw13450400467630529739:=0
def tw5566018532228714758:=0
def tw8051541740207831886:=0
def tw13822665925807063430:=0
def tw4607664629776620174:=0
def tw16085627963434369855:=0
def tw9436734993893615736:=0
def tw2039287442847718161:=0
def tw6766714558199452677:=0
def tw17201531042807657043:=0
def tw13449481838667492183:=0
def tw9900858186951977450:=0
def tw2280642563357885944:=0
def tw441309501781953357:=0
def tw9568884615838431473:=0
def tw11316184107382605689:=0
def tw12997916120777045985:=0
def tw15926611516076703103:=0
def tw15546919460132762326:=0
def tw16622550897477107634:=0
def tw2716459091018728593:=0
def tw9394367170632196215:=0
def tw13197283718825801470:=0
def tw15490525867660815396:=0
def tw4686960047231377320:=0
def tw6333251672105681269:=0
def tw5440779936490423039:=0
def tw10373554467302010040:=0
def tw15004585393265229161:=0
def tw16996889179900125324:=0
def tw4743089644663563536:=0
def tw6386410770917397777:=0
def tw8365724619688801693:=0
def tw1854833717395659798:=0
def tw284812538582156840:=0
def tw1270129787309395895:=0
def tw11212312234815474234:=0
def tw6798066194164236057:=0
def tw15164899052434126841:=0
def tw7518782974137941564:=0
def tw14442992455006898569:=0
def tw2076811480019708236:=0
def tw2980650061094776418:=0
def tw1856276111797630246:=0
def tw14257206844567966150:=0
def tw8647108011634172855:=0
def tw11109294413735152290:=0
def tw13560833359617589976:=0
def tw4363453624182975530:=0
def tw4660812944877970785:=0
def tw14043677785525035119:=0
def tw14252628460175022752:=0
def tw16421031631665654914:=0
def tw15018581749052729779:=0
def tw16199531874376144319:=0
def tw3054551770598688991:=0
def tw6024868412092668:=0
def tw5588538579457741693:=0
def tw4295558369811994350:=0
def tw4310109654494443847:=0
def tw14423777771382488861:=0
def tw158825705963442422:=0
def tw15988424067305756892:=0
def tw7577415382732096563:=0
def tw13511096329692730520:=0
def tw6984144687827559502:=0
def tw12383134175546747373:=0
def tw17342830690564971440:=0
def tw11332088671340696167:=0
def tw18084312228930292371:=0
def tw10538396812648561622:=0
def tw7383966542857979191:=0
def tw2009664918745602756:=0
def tw14975685405053409129:=0
def tw7348198025338162340:=0
def tw911434515657352685:=0
def tw16131191602270723106:=0
def tw15067478388078130139:=0
def tw11653494163926288471:=0
def tw3708966400366992719:=0
def tw8586725918344090981:=0
def tw15152067392334805569:=0
def tw3058003350628479918:=0
def tw4782475055160272951:=0
def tw4930700374317351144:=0
def tw17258751682372700320:=0
def tw17088257372999049733:=0
def tw6922758080273495781:=0
def tw2591303207647575254:=0
def tw8549310581111328502:=0
def tw13358957323757832533:=0
def tw12073729863018329143:=0
def tw14875961928746092393:=0
def tw14953354157970348691:=0
def tw12913660622446053733:=0
def tw17621857725608430746:=0
def tw8988190435264631929:=0
def tw2738708023054599621:=0
def tw8040097594508759:=0
def tw8017371578440502310:=0
def tw8013020040443403979:=0
def tw17412495337667555199:=0
def tw10426237814357348331:=0
def tw2905428119471808185:=0
def tw14638644879236723962:=0
def tw12538555778911100367:=0
def tw17414697793315340311:=0
def tw932546847621616355:=0
def tw5730643733859416918:=0
def tw11799373026118076673:=0
def tw447693377816220196:=0
def tw5149692598444337385:=0
def tw2648517860686215392:=0
def tw11062604499398503092:=0
def tw6036080197415105579:=0
def tw4619233087327789075:=0
def tw11463789613107468025:=0
def tw12245168336703761567:=0
def tw7423517364679631466:=0
def tw3841025051530556373:=0
def tw8161486765592091101:=0
def tw12954783124361998016:=0
def tw9455860566742119115:=0
def tw3125813864576997162:=0
def tw998118118126882590:=0
def tw2754281763996713516:=0
def tw5201299496101364152:=0
def tw1703957632386806141:=0
def tw16690642775859277276:=0
def tw14847248311276319627:=0
def tw15139523414429231372:=0
def tw10157711476022469808:=0
def tw8575696724602984247:=0
def tw7675833617659973154:=0
def tw11974677924286421333:=0
def tw210583457783684701:=0
def tw12537179622581910671:=0
def tw16237470539462599798:=0
def tw8176453126745396636:=0
def tw6682840534043152706:=0
def tw2956692068975791817:=0
def tw15925583942485510742:=0
def tw14183131895255433076:=0
def tw9603724253122879437:=0
def tw13003887715805698376:=0
def tw10038895678901689410:=0
def tw15016907614899699802:=0
def tw3468246305653287927:=0
def tw4033607020871005034:=0
def tw9772692541981599582:=0
def tw11330502806793435688:=0
def tw17503063889486697941:=0
def tw10654111593950697330:=0
def tw7858908869232364269:=0
def tw14621411855500729067:=0
def tw4056744190359075343:=0
def tw2305587568947899930:=0
def tw9369811224366229280:=0
def tw13470307753799482222:=0
def tw10129126619478686926:=0
def tw9249384777000294672:=0
def tw12153678957020822256:=0
def tw11855663915860230742:=0
def tw6177210197515447238:=0
def tw7600638068518089187:=0
def tw12342234013543675508:=0
def tw11597149489795167035:=0
def tw8499151353739843007:=0
def tw11351771815436209857:=0
def tw3714438213356700973:=0
def tw4034121675375721889:=0
def tw13269674847004916020:=0
def tw6287428660774727038:=0
def tw14730026424567290986:=0
def tw17930343787449153339:=0
def tw1601563067311296401:=0
def tw2193047582548961570:=0
def tw14322463651991196071:=0
def tw13831340563062221978:=0
def tw17715285044854274673:=0
def tw14096681681584948759:=0
def tw15837954116546253542:=0
def tw9305602299857532625:=0
def tw1060100637041331110:=0
def tw2514213562205126774:=0
def tw7341790862759508877:=0
def tw5631808907577912349:=0
def tw14301468477045331727:=0
def tw17976826300376000670:=0
def tw11822334216693668621:=0
def tw15303734103839005487:=0
def tw3506978811834761617:=0
def tw7003078443924726025:=0
def tw3147523591280576354:=0
def tw13690034175907106841:=0
def tw929619961735160123:=0
def tw8503743766599969867:=0
def tw17578005957464485350:=0
def tw12628914457857746722:=0
def tw1845104095804323831:=0
def tw7359599209071224995:=0
def tw3039421638045195819:=0
def tw588352449810676813:=0
def tw11587810744289263124:=0
def tw4813057224700830265:=0
def tw12740631684719220631:=0
def tw3294343058867816306:=0
def tw13612298841570220220:=0
def tw3243170920015438575:=0
def tw13925253852414495339:=0
def tw18023360572338074302:=0
def tw18153791535036375087:=0
def tw18354218710496987380:=0
def tw7555985539462957640:=0
def tw3466640376942197535:=0
def tw8063927900160722866:=0
def tw14375641612268217271:=0
def tw13560499627694958595:=0
def tw1765908662105853015:=0
def tw13783049159640377638:=0
def tw5970819255985347811:=0
def tw321758271343610028:=0
def tw13308312130239662268:=0
def tw6698454383206643907:=0
def tw13022598378501905026:=0
def tw17173752678012300241:=0
def tw8097298241705876871:=0
end PySem.W.Fast
namespace L2
open PySem PySem.Spec PyProof.Rows
abbrev Key:=Sum Int Str
def Fa:Key→Value→Bool
 |.inl k,v=>Value.isInt k v
 |.inr x,v=>Value.isStrOf x v
def keyH(w:World):Key→Int
 |.inl k=>hashInt k
 |.inr x=>hashStr w x
theorem Aq:∀{k:Key} {v:Value},Fa k v=true→(∃i t,k=Sum.inl i∧v=Value.int i t)∨(∃x t,k=Sum.inr x∧v=Value.str x t)
 |.inl i,v,h=>by
  obtain⟨t,e⟩:=Value.isInt_shape (k:=i) (v:=v) h
  exact .inl ⟨i,t,rfl,e⟩
 |.inr x,v,h=>by
  obtain⟨t,e⟩:=Value.isStrOf_shape (x:=x) (v:=v) h
  exact .inr ⟨x,t,rfl,e⟩
theorem Mr(i:Int)(t:Tok):Fa (.inl i) (.int i t)=true:=by simp[Fa,Value.isInt]
theorem Mq(x:Str)(t:Tok):Fa (.inr x) (.str x t)=true:=by simp[Fa,Value.isStrOf]
theorem T7(a b:Int):decide ((Sum.inl a:Key)=Sum.inl b)=(a == b):=by
 by_cases e:a=b
 ·subst e;simp
 ·have h:¬(Sum.inl a:Key)=Sum.inl b:=fun q=>e (Sum.inl.inj q)
  rw[decide_eq_false h]
  exact(beq_eq_false_iff_ne.mpr e).symm
theorem T4(a b:Str):decide ((Sum.inr a:Key)=Sum.inr b)=decide (a=b):=by
 by_cases e:a=b
 ·subst e;simp
 ·have h:¬(Sum.inr a:Key)=Sum.inr b:=fun q=>e (Sum.inr.inj q)
  rw[decide_eq_false h,decide_eq_false e]
theorem T6(a:Int)(b:Str):decide ((Sum.inl a:Key)=Sum.inr b)=false:=decide_eq_false (fun q=>nomatch q)
theorem T5(a:Str)(b:Int):decide ((Sum.inr a:Key)=Sum.inl b)=false:=decide_eq_false (fun q=>nomatch q)

def Bc(prog:Program)(w:World):PySem.KeyKind prog w Key where
 is:=Fa
 hash:=keyH w
 inj:=fun v a b ha hb=>by
  rcases Aq ha with ⟨i,t,rfl,rfl⟩|⟨x,t,rfl,rfl⟩
  ·rcases Aq hb with ⟨j,u,rfl,e⟩|⟨y,u,rfl,e⟩
   ·injection e with e1 _;rw[e1]
   ·exact nomatch e
  ·rcases Aq hb with ⟨j,u,rfl,e⟩|⟨y,u,rfl,e⟩
   ·exact nomatch e
   ·injection e with e1 _;rw[e1]
 byValue:=fun k v h=>by
  rcases Aq h with ⟨i,t,rfl,rfl⟩|⟨x,t,rfl,rfl⟩<;>rfl
 pyHash:=fun hv h=>by
  rcases Aq hv with ⟨i,t,rfl,rfl⟩|⟨x,t,rfl,rfl⟩
  ·exact wpAny_pyHash_int h
  ·exact wpAny_pyHash_str h
 eqBool:=fun hu hv h=>by
  rcases Aq hu with ⟨i,t,rfl,rfl⟩|⟨x,t,rfl,rfl⟩
  ·rcases Aq hv with ⟨j,u,rfl,rfl⟩|⟨y,u,rfl,rfl⟩
   ·rw[T7] at h;exact wpAny_eqBool_int h
   ·rw[T6] at h;exact SeqAt.EqAt.int_str i t y u _ _ _ _ h
  ·rcases Aq hv with ⟨j,u,rfl,rfl⟩|⟨y,u,rfl,rfl⟩
   ·rw[T5] at h;exact SeqAt.EqAt.str_int x t j u _ _ _ _ h
   ·rw[T4] at h;exact wpAny_eqBool_str h
 «strs»:=fun k x t v h=>by
  rcases Aq h with ⟨i,u,rfl,e⟩|⟨y,u,rfl,e⟩
  ·exact nomatch e
  ·injection e with e1 _
   subst e1
   cases v<;>rfl

theorem Jp(prog:Program)(w:World)(i:Int)(t:Tok):(Bc prog w).is (.inl i) (.int i t)=true:=Mr i t
theorem Jo(prog:Program)(w:World)(x:Str)(t:Tok):(Bc prog w).is (.inr x) (.str x t)=true:=Mq x t
end L2
namespace L2
open PySem PySem.Spec PyProof.Rows
inductive V where
 |non|bl (b:Bool)|int (i:Int)|str (x:Str)|byt (b:Array UInt8)|flt (b:UInt64)|ref (a:Addr)|ty (n:String)
 deriving DecidableEq

def RelV:V→Value→Prop
 |.non,u=>u=Value.none
 |.bl b,u=>u=Value.bool b
 |.int i,u=>∃t,u=Value.int i t
 |.str x,u=>∃t,u=Value.str x t
 |.byt b,u=>∃t,u=Value.bytes b t
 |.flt b,u=>∃t,u=Value.float b t
 |.ref a,u=>u=Value.ref a
 |.ty n,u=>u=Value.type n

abbrev Vals:List V→List Value→Prop:=Paired RelV
theorem Vals.length{xs:List V}{us:List Value}(r:Vals xs us):xs.length=us.length:=Paired.length r
theorem Vals.get:∀{xs:List V} {us:List Value} {i:Nat} {x:V},Vals xs us→xs[i]? = some x→∃u,us[i]? = some u∧RelV x u
 |_,_,_,_,.nil,e=>by simp at e
 |_,_,0,_,.cons r _,e=>by simp at e;subst e;exact⟨_,rfl,r⟩
 |_,_,i+1,x,.cons _ t,e=>by
  obtain⟨u,h1,h2⟩:=Vals.get (i:=i) (x:=x) t (by simpa using e)
  exact⟨u,by simpa using h1,h2⟩
theorem Vals.set{x:V}{u:Value}(r:RelV x u):∀{xs:List V} {us:List Value} (i:Nat),Vals xs us→Vals (xs.set i x) (us.set i u)
 |_,_,_,.nil=>.nil
 |_,_,0,.cons _ t=>.cons r t
 |_,_,i+1,.cons q t=>.cons q (Vals.set r i t)
theorem Vals.append:∀{xs ys:List V} {us ws:List Value},Vals xs us→Vals ys ws→Vals (xs++ys) (us++ws)
 |_,_,_,_,.nil,s=>s
 |_,_,_,_,.cons r t,s=>.cons r (Vals.append t s)
theorem Vals.take:∀{xs:List V} {us:List Value} (n:Nat),Vals xs us→Vals (xs.take n) (us.take n)
 |_,_,0,_=>.nil
 |_,_,_+1,.nil=>.nil
 |_,_,n+1,.cons r t=>.cons r (Vals.take n t)
theorem Vals.drop:∀{xs:List V} {us:List Value} (n:Nat),Vals xs us→Vals (xs.drop n) (us.drop n)
 |_,_,0,r=>r
 |_,_,_+1,.nil=>.nil
 |_,_,n+1,.cons _ t=>Vals.drop n t
def Sc:Option V→Option Value→Prop
 |some v,some u=>RelV v u
 |none,none=>True
 |_,_=>False
def KV{κ:Type}:List (κ×V)→List (κ×Value)→Prop:=Paired fun(p:κ×V) (q:κ×Value)=>p.1=q.1∧RelV p.2 q.2

def kV:Key→V
 |.inl i=>.int i
 |.inr x=>.str x

inductive HO where
 /-- a list -/
 |lst (xs:List V)
 /-- a tuple (never changes) -/
 |tup (xs:List V)
 /-- a dict whose keys are ints and texts;one whose keys are tuples of ints and texts (the empty one is both) -/
 |dK (kvs:List (Key×V))|dT (kvs:List (List Key×V))
 /-- a set of ints: its members,its size -/
 |set (S:Int→Bool) (n:Nat)
 /-- an instance of the class at C,its dict at dx,its attributes -/
 |ins (C dx:Addr) (fs:List (Str×V))
 /-- the dict of the instance at x -/
 |own (x:Addr)
 /-- the dict of an exception -/
 |xd (fs:List (Str×V))
 /-- a bound method,f of x -/
 |met (f x:Addr)
 /-- a range object lo,lo+1,.. below hi -/
 |rng (lo hi:Int)
 /-- a thing that is known to the object (the script;a dict while a loop walks it): read,never written while it is so -/
 |frz (o:Obj) (u:HO)
 /-- a code object's table -/
 |tbl (ps:Array Value)
 /-- any other thing,by what is true of its one object (a def of one's own: SetO a S n:=HO.ext fun h=>..) -/
 |ext (φ:Heap→Prop)

abbrev Hp:=Addr→Option HO
def upd(H:Hp)(a:Addr)(o:HO):Hp:=fun b=>if b=a then some o else H b
theorem Ad{H:Hp}{a:Addr}{o:HO}:upd H a o a=some o:=by unfold upd;rw[if_pos rfl]
theorem Ac{H:Hp}{a b:Addr}{o:HO}(h:b≠a):upd H a o b=H b:=by unfold upd;rw[if_neg h]
theorem Ge{H:Hp}{a b:Addr}{o u:HO}(h:H a=some o)(h':H b=some u)(d:o≠u):a≠b:=by
 intro e;subst e;rw[h] at h';exact d (Option.some.inj h')
theorem Ai{H:Hp}{a b:Addr}{o:HO}(h:H a=some o)(h':H b=none):a≠b:=by
 intro e;subst e;rw[h] at h';cases h'

section
variable(P:Program)(w:World)
def ObjOk(H:Hp)(h:Heap)(a:Addr):HO→Prop
 |.lst xs=>xs.length≤sizeLine∧∃(its:List Value) (n:Nat),Vals xs its∧h.get? a=some { cls:=.type "list",data:=.seq its.toArray n }
 |.tup xs=>xs.length≤sizeLine∧∃its:List Value,Vals xs its∧IsTup h a its.toArray
 |.dK kvs=>kvs.length≤sizeLine∧(a == sysModules)=false∧∃vs,KV kvs vs∧h.DictOf (Bc P w) a vs
 |.dT kvs=>kvs.length≤sizeLine∧(a == sysModules)=false∧∃xs:List (List Key×Addr×Value),
   Paired (fun(p:List Key×V) (q:List Key×Addr×Value)=>p.1=q.1∧H q.2.1=some (.tup (p.1.map kV))∧RelV p.2 q.2.2) kvs xs∧
   ∃o es ep,h.get? a=some o∧o.ExactDict∧o.data=.dict es ep∧es.toList=xs.map (entryOfKey (tupleKind (Bc P w)))∧(xs.map (·.1)).Nodup
 |.set S n=>h.SetOf (intKind P w) a S n
 |.ins C dx fs=>H dx=some (.own a)∧fs.length≤1000∧dx≠a∧h.get? a=some (PySem.W.instObj C dx)∧
   ∃mA,h.Ns1 dx mA∧(∀f,Sc (fs.lookup f) (mA f))∧PySem.Within mA (fs.map (·.1))
 |.own _=>∃o,h.get? a=some o
 |.xd fs=>∃mA,h.Ns1 a mA∧∀f,Sc (fs.lookup f) (mA f)
 |.rng lo hi=>∃t u v,h.get? a=some { cls:=.type "range",data:=.fields #[.int lo t,.int hi u,.int 1 v] }
 |.frz o u=>h.get? a=some o∧ObjOk H h a u
 |.tbl ps=>h.get? a=some { cls:=.none,data:=.fields ps }
 |.met f x=>h.get? a=some (PySem.W.methodObj (.ref f) (.ref x))
 |.ext φ=>φ h∧(∃o,h.get? a=some o)∧∀h1 h2:Heap,φ h1→(∀o,h1.get? a=some o→h2.get? a=some o)→φ h2
def HOk(H:Hp)(h:Heap):Prop:=∀a o,H a=some o→ObjOk P w H h a o
end
section
variable{P:Program}{w:World}{H H':Hp}{h h':Heap}{a:Addr}{o:HO}
theorem ObjOk.lt(x:ObjOk P w H h a o):a<h.objs.size:=by
 cases o with
 |lst xs=>obtain⟨_,_,_,_,e⟩:=x;exact Heap.lt_size e
 |tup xs=>obtain⟨_,_,_,p⟩:=x;exact p.lt
 |dK kvs=>obtain⟨_,_,_,_,o,_,_,e,_⟩:=x;exact Heap.lt_size e
 |dT kvs=>obtain⟨_,_,_,_,o,_,_,e,_⟩:=x;exact Heap.lt_size e
 |set S n=>obtain⟨o,_,_,_,e,_⟩:=x;exact Heap.lt_size e
 |ins C dx fs=>obtain⟨_,_,_,e,_⟩:=x;exact Heap.lt_size e
 |own y=>obtain⟨_,e⟩:=x;exact Heap.lt_size e
 |xd fs=>obtain⟨_,⟨_,_,_,e,_⟩,_⟩:=x;exact Heap.lt_size e
 |rng lo hi=>obtain⟨_,_,_,e⟩:=x;exact Heap.lt_size e
 |frz ob u=>obtain⟨e,_⟩:=x;exact Heap.lt_size e
 |tbl ps=>exact Heap.lt_size (show h.get? a=some _ from x)
 |met f y=>exact Heap.lt_size (show h.get? a=some _ from x)
 |ext φ=>obtain⟨_,⟨_,e⟩,_⟩:=x;exact Heap.lt_size e
theorem Paired.mapP{α β:Type}{F G:α→β→Prop}:∀{l₁:List α} {l₂:List β},Paired F l₁ l₂→(∀a b,F a b→G a b)→Paired G l₁ l₂
 |_,_,.nil,_=>.nil
 |_,_,.cons r t,f=>.cons (f _ _ r) (Paired.mapP t f)
theorem ObjOk.stay(x:ObjOk P w H h a o)(k:∀b u,(b=a∨H b=some (.own a))→h.get? b=some u→h'.get? b=some u)(ho:∀b,H b=some (.own a)→H' b=some (.own a))(ht:∀b xs,H b=some (.tup xs)→H' b=some (.tup xs)):ObjOk P w H' h' a o:=by
 induction o with
 |lst xs=>obtain⟨z,its,n,r,e⟩:=x;exact⟨z,its,n,r,k _ _ (.inl rfl) e⟩
 |tup xs=>obtain⟨z,its,r,ob,e,c⟩:=x;exact⟨z,its,r,ob,k _ _ (.inl rfl) e,c⟩
 |dK kvs=>obtain⟨z,y,vs,r,ob,es,ep,e,c⟩:=x;exact⟨z,y,vs,r,ob,es,ep,k _ _ (.inl rfl) e,c⟩
 |dT kvs=>
  obtain⟨z,y,xs,r,ob,es,ep,e,c⟩:=x
  exact⟨z,y,xs,Paired.mapP r fun p q z=>⟨z.1,ht _ _ z.2.1,z.2.2⟩,ob,es,ep,k _ _ (.inl rfl) e,c⟩
 |set S n=>obtain⟨ob,es,ep,t,e,c⟩:=x;exact⟨ob,es,ep,t,k _ _ (.inl rfl) e,c⟩
 |ins C dx fs=>
  obtain⟨d,z,ne,e,mA,⟨od,es,ep,e2,c⟩,r⟩:=x
  exact⟨ho _ d,z,ne,k _ _ (.inl rfl) e,mA,⟨od,es,ep,k _ _ (.inr d) e2,c⟩,r⟩
 |own y=>obtain⟨ob,e⟩:=x;exact⟨ob,k _ _ (.inl rfl) e⟩
 |xd fs=>obtain⟨mA,⟨od,es,ep,e,c⟩,r⟩:=x;exact⟨mA,⟨od,es,ep,k _ _ (.inl rfl) e,c⟩,r⟩
 |rng lo hi=>obtain⟨t,u,v,e⟩:=x;exact⟨t,u,v,k _ _ (.inl rfl) e⟩
 |frz ob u ih=>obtain⟨e,q⟩:=x;exact⟨k _ _ (.inl rfl) e,ih q⟩
 |tbl ps=>
  have e:h.get? a=some { cls:=.none,data:=.fields ps }:=x
  show h'.get? a=some { cls:=.none,data:=.fields ps }
  exact k a _ (.inl rfl) e
 |met f y=>
  have e:h.get? a=some (PySem.W.methodObj (.ref f) (.ref y)):=x
  show h'.get? a=some (PySem.W.methodObj (.ref f) (.ref y))
  exact k a _ (.inl rfl) e
 |ext φ=>obtain⟨p,⟨o,e⟩,st⟩:=x;exact⟨st _ _ p fun o q=>k _ _ (.inl rfl) q,⟨o,k _ _ (.inl rfl) e⟩,st⟩
theorem HOk.lt(x:HOk P w H h)(e:H a=some o):a<h.objs.size:=(x a o e).lt
theorem HOk.fresh(x:HOk P w H h)(e:h.objs.size≤a):H a=none:=by
 cases q:H a with
 |none=>rfl
 |some u=>exact absurd (Nat.lt_of_lt_of_le (x.lt q) e) (Nat.lt_irrefl _)
theorem HOk.kept(x:HOk P w H h)(k:∀b u,h.get? b=some u→h'.get? b=some u):HOk P w H h':=fun a o e=>
 (x a o e).stay (fun b u _ q=>k b u q) (fun _ q=>q) fun _ _ q=>q
theorem HOk.laid(x:HOk P w H h)(k:∀b u,h.get? b=some u→h'.get? b=some u)(hp:h.objs.size≤a)(new:ObjOk P w (upd H a o) h' a o):HOk P w (upd H a o) h':=fun b u e=>by
 have hn:=x.fresh hp
 by_cases hb:b=a
 ·subst hb;rw[Ad] at e;cases e;exact new
 ·rw[Ac hb] at e
  exact(x b u e).stay (fun c v _ q=>k c v q) (fun c q=>by rw[Ac (Ai q hn)];exact q) fun c xs q=>by rw[Ac (Ai q hn)];exact q
end
def Rd(H:Hp)(a:Addr)(u:HO):Prop:=H a=some u∨∃o,H a=some (.frz o u)
theorem Rd.ok{P:Program}{w:World}{H:Hp}{h:Heap}{a:Addr}{u:HO}(r:Rd H a u)(x:HOk P w H h):ObjOk P w H h a u:=by
 rcases r with r|⟨o,r⟩
 ·exact x a u r
 ·obtain⟨_,q⟩:=x a _ r
  exact q
def Mut:Option HO→Prop
 |some (.lst _)=>True
 |some (.dK _)=>True
 |some (.dT _)=>True
 |some (.set _ _)=>True
 |some (.ins _ _ _)=>True
 |some (.ext _)=>True
 |_=>False
section
variable{P:Program}{w:World}{H:Hp}{h h':Heap}{x e:Addr}{o':HO}
theorem HOk.write(ok:HOk P w H h)(mu:Mut (H x))(he:e=x∨H e=some (.own x))(k:∀b u,b≠e→h.get? b=some u→h'.get? b=some u)(heo:∃u,h'.get? e=some u)(new:ObjOk P w (upd H x o') h' x o'):HOk P w (upd H x o') h':=fun b u q=>by
 have nown:∀c y,H c=some (.own y)→c≠x:=fun c y r z=>by subst z;rw[r] at mu;exact mu
 have ntup:∀c xs,H c=some (.tup xs)→c≠x:=fun c xs r z=>by subst z;rw[r] at mu;exact mu
 by_cases hb:b=x
 ·subst hb;rw[Ad] at q;cases q;exact new
 ·rw[Ac hb] at q
  by_cases hbe:b=e
  ·have q':H b=some (.own x):=by
    rcases he with z|z
    ·exact absurd (hbe.trans z) hb
    ·rw[hbe];exact z
   rw[q] at q';cases q'
   obtain⟨v,hv⟩:=heo
   exact⟨v,by rw[hbe];exact hv⟩
  ·refine(ok b u q).stay (fun c v hc r=>k c v ?_ r) (fun c r=>by rw[Ac (nown c b r)];exact r) fun c xs r=>by rw[Ac (ntup c xs r)];exact r
   rcases hc with rfl|hc
   ·exact hbe
   ·rintro rfl
    rcases he with z|z
    ·exact nown c b hc z
    ·rw[hc] at z;cases z;exact hb rfl
end
structure Un(fs ex:List Addr)(H H':Hp)(h h':Heap):Prop where
 keep:∀b o,h.get? b=some o→H b=none→b ∉ fs→b ∉ ex→h'.get? b=some o
 slot:∀b o,h.get? b=some o→H b=none→b∈fs→b ∉ ex→∃sl,h'.get? b=some { o with slots:=sl }
 free:∀b o,h.get? b=some o→H b=none→b ∉ ex→H' b=none
 there:∀b o,h.get? b=some o→b ∉ ex→∃o',h'.get? b=some o'
 tups:∀b xs,H b=some (.tup xs)→H' b=some (.tup xs)
 frzs:∀b o u,H b=some (.frz o u)→H' b=some (.frz o u)
 tbls:∀b ps,H b=some (.tbl ps)→∃more,H' b=some (.tbl (ps++more))
section
variable{fs fs' ex ex':List Addr}{H H1 H2:Hp}{h h1 h2 h':Heap}{a x e:Addr}{o:HO}
theorem Un.any(u:Un fs ex H H1 h h1){b:Addr}{ob:Obj}(q:h.get? b=some ob)(n:H b=none)(hx:b ∉ ex):∃sl,h1.get? b=some { ob with slots:=sl }:=by
 by_cases hb:b∈fs
 ·exact u.slot b ob q n hb hx
 ·exact⟨ob.slots,u.keep b ob q n hb hx⟩
theorem Un.trans(a:Un fs ex H H1 h h1)(b:Un fs ex H1 H2 h1 h2):Un fs ex H H2 h h2 where
 keep:=fun c ob q n hc hx=>b.keep c ob (a.keep c ob q n hc hx) (a.free c ob q n hx) hc hx
 slot:=fun c ob q n hc hx=>by
  obtain⟨sl,e1⟩:=a.slot c ob q n hc hx
  obtain⟨sl',e2⟩:=b.slot c _ e1 (a.free c ob q n hx) hc hx
  exact⟨sl',e2⟩
 free:=fun c ob q n hx=>by
  obtain⟨o',e1⟩:=a.there c ob q hx
  exact b.free c o' e1 (a.free c ob q n hx) hx
 there:=fun c ob q hx=>by
  obtain⟨o',e1⟩:=a.there c ob q hx
  exact b.there c o' e1 hx
 tups:=fun c xs q=>b.tups c xs (a.tups c xs q)
 frzs:=fun c ob xs q=>b.frzs c ob xs (a.frzs c ob xs q)
 tbls:=fun c ps q=>by
  obtain⟨m1,e1⟩:=a.tbls c ps q
  obtain⟨m2,e2⟩:=b.tbls c _ e1
  exact⟨m1++m2,by rw[e2,Array.append_assoc]⟩
theorem Un.kept(k:∀b u,h.get? b=some u→h'.get? b=some u):Un fs ex H H h h':=
 ⟨fun b ob q _ _ _=>k b ob q,fun b ob q _ _ _=>⟨ob.slots,k b ob q⟩,fun _ _ _ n _=>n,fun b ob q _=>⟨ob,k b ob q⟩,fun _ _ q=>q,fun _ _ _ q=>q,fun _ ps q=>⟨#[],by rw[q];simp⟩⟩
theorem Un.refl:Un fs ex H H h h:=Un.kept fun _ _ q=>q
theorem Un.laid(k:∀b u,h.get? b=some u→h'.get? b=some u)(hp:h.objs.size≤a)(hn:H a=none):Un fs ex H (upd H a o) h h' where
 keep:=fun b u q _ _ _=>k b u q
 slot:=fun b u q _ _ _=>⟨u.slots,k b u q⟩
 free:=fun b u q n _=>by rw[Ac (Nat.ne_of_lt (Nat.lt_of_lt_of_le (Heap.lt_size q) hp))];exact n
 there:=fun b u q _=>⟨u,k b u q⟩
 tups:=fun b xs q=>by rw[Ac (Ai q hn)];exact q
 frzs:=fun b u xs q=>by rw[Ac (Ai q hn)];exact q
 tbls:=fun b ps q=>⟨#[],by rw[Ac (Ai q hn),q];simp⟩
theorem Un.write(mu:Mut (H x))(he:e=x∨H e=some (.own x))(k:∀b u,b≠e→h.get? b=some u→h'.get? b=some u)(heo:∃u,h'.get? e=some u):Un fs ex H (upd H x o) h h':=by
 have hx:∀b,H b=none→b≠x:=fun b n z=>by subst z;rw[n] at mu;exact mu
 have hb:∀b,H b=none→b≠e:=fun b n z=>by
  subst z
  rcases he with r|r
  ·exact hx b n r
  ·rw[n] at r;cases r
 have hm:∀b u,H b=some u→¬Mut (some u)→b≠x:=fun b u q nm z=>by subst z;rw[q] at mu;exact nm mu
 refine⟨fun b u q n _ _=>k b u (hb b n) q,fun b u q n _ _=>⟨u.slots,k b u (hb b n) q⟩,fun b u q n _=>by rw[Ac (hx b n)];exact n,fun b u q _=>?_,
  fun b xs q=>by rw[Ac (hm b _ q fun z=>z)];exact q,fun b u xs q=>by rw[Ac (hm b _ q fun z=>z)];exact q,fun b ps q=>⟨#[],by rw[Ac (hm b _ q fun z=>z),q];simp⟩⟩
 by_cases hbe:b=e
 ·subst hbe;exact heo
 ·exact⟨u,k b u hbe q⟩
end
def trk(h:Heap)(H:Hp):List Addr:=(List.range h.objs.size).filter fun a=>(H a).isSome
def Gy(h:Heap)(H:Hp):Heap:=PySem.W.hideAll h (trk h H)
theorem Mv(h:Heap)(H:Hp):(Gy h H).objs.size=h.objs.size:=PySem.W.hideAll_size _ _
theorem Pm{h:Heap}{H:Hp}{b:Addr}{o:Obj}(e:h.get? b=some o)(n:H b=none):(Gy h H).get? b=some o:=
 PySem.W.hideAll_get _ e fun hm=>by
  have q:(H b).isSome=true:=(List.mem_filter.mp hm).2
  rw[n] at q;simp at q
theorem Q2{h:Heap}{H:Hp}{b:Addr}{o:Obj}(e:(Gy h H).get? b=some o):h.get? b=some o∧H b=none:=by
 have e':h.get? b=some o:=PySem.W.of_hideAll (trk h H) e
 refine⟨e',?_⟩
 cases q:H b with
 |none=>rfl
 |some x=>
  have hm:b∈trk h H:=List.mem_filter.mpr ⟨List.mem_range.mpr (Heap.lt_size e'),by simp[q]⟩
  have z:(Gy h H).get? b=none:=PySem.W.hideAll_none (trk h H) hm
  rw[z] at e;cases e

def Rj(g h:Heap)(L:Addr):List (Addr×Obj):=(List.range h.objs.size).filterMap fun a=>if a=L∨(g.get? a).isSome=true then none else (h.get? a).map fun o=>(a,o)
def rest(g h:Heap)(L d:Addr):List (Addr×Obj):=(Rj g h L).filter fun p=>decide (p.1≠d)
end L2
namespace L2
open PySem PySem.Spec PyProof.Rows
structure Mod(K:PySem.W.Frag)(mg:Str→Option Value)(base:Heap):Prop where
 kin:K.In base
 glob:base.Ns mainGlobals mg
 sm:∃mm,base.Ns sysModules mm
 bm:∃bm ob,mg "__builtins__" = some (.ref bm)∧bm≠builtinsNs∧base.get? bm=some ob∧ob.cls=.type "module"∧ob.dict=some builtinsNs∧ob.data=.plain
 blt:∃mb,base.Ns builtinsNs mb∧∀x:Str,x≠"__name__"→mb x=bootBuiltins x
 nolimit:base.NoLimit

structure Cx where
 prog:Program
 w:World
 K:PySem.W.Frag
 mg:Str→Option Value
 base:Heap
 A:Around
 N:List Str
 s₀:Shared
 H₀:Hp
 env:Env
 outer:List Env
 stack:List Env
 ex:List Addr
 fn:Str→Bool
 calm:Bool
 pn:List (Addr×Obj)
 xe:Value→Shared→Prop
def frs(l:List Env):List Addr:=l.filterMap (·.frame)
abbrev Cx.fs(X:Cx):List Addr:=frs X.outer

def Vis(sc:Scope)(x:Str):Prop:=sc.names.lookup x=some .local∨sc.names.lookup x=some .cell∨sc.names.lookup x=some .free
def Loc(sc:Scope)(x:Str):Prop:=sc.names.lookup x=some .local∨sc.names.lookup x=some .cell
def Look(env:Env)(h:Heap)(m:Str→Option Value)(x:Str)(u:Value):Prop:=
 (env.kindOf x=some .local∧m x=some u)∨((env.kindOf x=some .cell∨env.kindOf x=some .free)∧∃c,env.cells.lookup x=some c∧h.IsCell c (some u))

structure Cx.Ok(X:Cx):Prop where
 mod:Mod X.K X.mg X.base
 kind:X.env.scope.kind=.function
 glob:X.env.globals=mainGlobals
 blt:X.env.builtins=builtinsNs
 above:X.s₀.heap.objs.size≤X.env.locals
 inj:∀x y c,X.env.cells.lookup x=some c→X.env.cells.lookup y=some c→x=y
 has:∀x,(X.env.kindOf x=some .cell∨X.env.kindOf x=some .free)→∃c,X.env.cells.lookup x=some c
 cab:∀x c,X.fn x=true→X.env.cells.lookup x=some c→X.s₀.heap.objs.size≤c
 hd:X.calm=true→X.A.handled=none
 frames:X.A.frames=some X.stack
 stk:X.stack=X.outer∨(X.stack=X.env::X.outer∧X.env.frame=some X.env.locals)
 exf:∀b∈X.ex,b≠X.env.locals∧∀x c,X.env.cells.lookup x=some c→c≠b
 bs:∀b o,X.base.get? b=some o→X.s₀.heap.get? b=some o∧X.H₀ b=none
 bsz:X.base.objs.size≤X.s₀.heap.objs.size
 noex:∀b o,X.base.get? b=some o→b ∉ X.ex
 exfs:∀b∈X.ex,b ∉ X.fs
 funs:X.s₀.heap.FunFrames X.base X.outer
 frf:∀b∈X.fs,X.H₀ b=none

structure Inv(X:Cx)(pins:List (Addr×Obj))(σ:List (Option V))(H:Hp)(s:Shared):Prop where
 ok:X.Ok
 os:s.os=X.s₀.os
 bare:AllBare s.gens
 base:Un X.fs X.ex X.H₀ H X.s₀.heap s.heap
 loc:∃m,s.heap.Ns X.env.locals m∧∀(i:Nat) (x:Str) (v:V),X.N[i]? = some x→σ[i]? = some (some v)→Vis X.env.scope x→∃u,RelV v u∧Look X.env s.heap m x u
 cell:∀x c,X.env.cells.lookup x=some c→∃v,s.heap.IsCell c v
 free:H X.env.locals=none
 freeC:∀x c,X.env.cells.lookup x=some c→H c=none
 pin:∀p∈X.pn++pins,s.heap.get? p.1=some p.2∧H p.1=none∧p.1≠X.env.locals∧p.1 ∉ X.fs∧∀v,p.2.data≠.cell v
 hok:HOk X.prog X.w H s.heap
 len:σ.length=X.N.length

section
variable{X:Cx}{pins:List (Addr×Obj)}{σ:List (Option V)}{H H':Hp}{s:Shared}{h':Heap}
theorem Cx.Ok.nofr(ok:X.Ok){b:Addr}{o:Obj}(e:X.base.get? b=some o):b ∉ X.fs:=fun hb=>by
 have:=(ok.funs.mem hb).1
 rw[e] at this;cases this
theorem Inv.bs(I:Inv X pins σ H s):∀b o,X.base.get? b=some o→s.heap.get? b=some o∧H b=none:=fun b o e=>
 ⟨I.base.keep b o (I.ok.bs b o e).1 (I.ok.bs b o e).2 (I.ok.nofr e) (I.ok.noex b o e),I.base.free b o (I.ok.bs b o e).1 (I.ok.bs b o e).2 (I.ok.noex b o e)⟩
theorem Inv.bk(I:Inv X pins σ H s):∀b o,X.base.get? b=some o→s.heap.get? b=some o:=fun b o e=>(I.bs b o e).1
theorem Inv.mod(I:Inv X pins σ H s):Mod X.K X.mg X.base:=I.ok.mod
theorem Inv.kIn(I:Inv X pins σ H s):X.K.In s.heap:=I.ok.mod.kin.keeps I.bk
theorem Inv.fr(I:Inv X pins σ H s):∃m,Fr X.base X.env.locals s.heap m:=
 let ⟨m,hn,_⟩:=I.loc
 ⟨m,hn,I.bk,Nat.le_trans I.ok.bsz I.ok.above⟩
theorem Inv.lt(I:Inv X pins σ H s):X.env.locals<s.heap.objs.size:=let ⟨_,hn,_⟩:=I.loc;hn.lt
theorem Inv.sz(I:Inv X pins σ H s):X.s₀.heap.objs.size≤s.heap.objs.size:=Nat.le_trans I.ok.above (Nat.le_of_lt I.lt)
theorem Inv.nofs(I:Inv X pins σ H s){a:Addr}(h:s.heap.objs.size≤a):a ∉ X.fs:=fun hb=>by
 obtain⟨_,o,ho,_⟩:=I.ok.funs.mem hb
 exact absurd (Nat.lt_of_lt_of_le (Heap.lt_size ho) (Nat.le_trans I.sz h)) (Nat.lt_irrefl _)
theorem Inv.cne(I:Inv X pins σ H s):∀x c,X.env.cells.lookup x=some c→c≠X.env.locals:=fun x c e z=>by
 obtain⟨v,o,ho,hd⟩:=I.cell x c e
 obtain⟨m,⟨o',es,ep,ho',hd',_⟩,_⟩:=I.loc
 rw[z,ho'] at ho;cases ho;rw[hd'] at hd;cases hd
theorem Inv.funs(I:Inv X pins σ H s):s.heap.FunFrames X.base X.outer:=by
 have all:∀(l:List Env),(∀b∈frs l,b∈X.fs)→X.s₀.heap.FunFrames X.base l→s.heap.FunFrames X.base l:=by
  intro l
  induction l with
  |nil=>intro _ _;trivial
  |cons env r ih=>
   intro hs hl
   obtain⟨hk,⟨L,o,hf,hn,ho,hd⟩,hr⟩:=hl
   have hL:L∈X.fs:=hs L (by unfold frs;rw[List.filterMap_cons,hf];exact List.mem_cons_self)
   obtain⟨sl,e⟩:=I.base.slot L o ho (I.ok.frf L hL) hL fun z=>I.ok.exfs L z hL
   exact⟨hk,⟨L,_,hf,hn,e,hd⟩,ih (fun b hb=>hs b (by unfold frs;rw[List.filterMap_cons,hf];exact List.mem_cons_of_mem _ hb)) hr⟩
 exact all X.outer (fun _ hb=>hb) I.ok.funs

theorem Inv.stack(I:Inv X pins σ H s):s.heap.FunFrames X.base X.stack:=by
 rcases I.ok.stk with e|⟨e,hf⟩
 ·rw[e];exact I.funs
 ·rw[e]
  obtain⟨m,hn,_⟩:=I.loc
  refine .cons (by rw[I.ok.kind];decide) hf hn ?_ I.funs
  exact Heap.get?_none_of_le (Nat.le_trans I.ok.bsz I.ok.above)
theorem Inv.stkSub(I:Inv X pins σ H s):∀b∈frs X.stack,b∈X.env.locals::X.fs:=fun b hb=>by
 rcases I.ok.stk with e|⟨e,hf⟩
 ·rw[e] at hb;exact List.mem_cons_of_mem _ hb
 ·rw[e] at hb
  unfold frs at hb
  rw[List.filterMap_cons,hf] at hb
  exact hb
theorem Inv.stkFree(I:Inv X pins σ H s):∀b∈frs X.stack,H b=none:=fun b hb=>by
 rcases List.mem_cons.mp (I.stkSub b hb) with e|hb
 ·rw[e];exact I.free
 ·obtain⟨_,o,ho,_⟩:=I.ok.funs.mem hb
  exact I.base.free b o ho (I.ok.frf b hb) fun z=>I.ok.exfs b z hb

theorem Inv.step{g':Array GenState}{t':Nat}{d':Drawn}{ch:List Addr}(I:Inv X pins σ H s)(hch:∀b∈ch,(b∈X.ex∨X.s₀.heap.objs.size≤b)∧b≠X.env.locals∧(∀x c,X.env.cells.lookup x=some c→c≠b)∧∀p∈X.pn++pins,p.1≠b)(keep:∀b o,b≠X.env.locals→b ∉ X.fs→b ∉ ch→s.heap.get? b=some o→H b=none→h'.get? b=some o)(slot:∀b o,b≠X.env.locals→b∈X.fs→b ∉ ch→s.heap.get? b=some o→H b=none→∃sl,h'.get? b=some { o with slots:=sl })(free:∀b o,b ∉ ch→s.heap.get? b=some o→H b=none→H' b=none)(there:∀b o,b ∉ ch→s.heap.get? b=some o→∃o',h'.get? b=some o')(tups:∀b xs,H b=some (.tup xs)→H' b=some (.tup xs))(frzs:∀b o u,H b=some (.frz o u)→H' b=some (.frz o u))(tbls:∀b ps,H b=some (.tbl ps)→∃more,H' b=some (.tbl (ps++more)))(ns:∀m,s.heap.Ns X.env.locals m→h'.Ns X.env.locals m)(hok:HOk X.prog X.w H' h')(hg:AllBare g') :
  Inv X pins σ H' { s with heap:=h',gens:=g',drawn:=d',toks:=t' }:=by
 have neL:∀b o,X.s₀.heap.get? b=some o→b≠X.env.locals:=fun b o e=>Nat.ne_of_lt (Nat.lt_of_lt_of_le (Heap.lt_size e) I.ok.above)
 have neC:∀b o,X.s₀.heap.get? b=some o→b ∉ X.ex→b ∉ ch:=fun b o e hx hb=>by
  rcases(hch b hb).1 with z|z
  ·exact hx z
  ·exact absurd (Nat.lt_of_lt_of_le (Heap.lt_size e) z) (Nat.lt_irrefl _)
 have Nr:∀x c,X.env.cells.lookup x=some c→∀v,s.heap.IsCell c v→h'.IsCell c v:=fun x c e v ⟨o,ho,hd⟩=>by
  have nch:c ∉ ch:=fun z=>(hch c z).2.2.1 x c e rfl
  by_cases hc:c∈X.fs
  ·obtain⟨sl,q⟩:=slot c o (I.cne x c e) hc nch ho (I.freeC x c e)
   exact⟨_,q,hd⟩
  ·exact⟨o,keep c o (I.cne x c e) hc nch ho (I.freeC x c e),hd⟩
 refine⟨I.ok,I.os,hg,⟨fun b o e n hb hx=>?_,fun b o e n hb hx=>?_,fun b o e n hx=>?_,fun b o e hx=>?_,fun b xs e=>tups b xs (I.base.tups b xs e),fun b o xs e=>frzs b o xs (I.base.frzs b o xs e),fun b ps e=>?_⟩,?_,fun x c e=>?_,?_,fun x c e=>?_,fun p hp=>?_,hok,I.len⟩
 ·exact keep b o (neL b o e) hb (neC b o e hx) (I.base.keep b o e n hb hx) (I.base.free b o e n hx)
 ·obtain⟨sl,e1⟩:=I.base.slot b o e n hb hx
  obtain⟨sl',e2⟩:=slot b _ (neL b o e) hb (neC b o e hx) e1 (I.base.free b o e n hx)
  exact⟨sl',e2⟩
 ·obtain⟨o',e1⟩:=I.base.there b o e hx
  exact free b o' (neC b o e hx) e1 (I.base.free b o e n hx)
 ·obtain⟨o',e1⟩:=I.base.there b o e hx
  exact there b o' (neC b o e hx) e1
 ·obtain⟨m1,e1⟩:=I.base.tbls b ps e
  obtain⟨m2,e2⟩:=tbls b _ e1
  exact⟨m1++m2,by rw[e2,Array.append_assoc]⟩
 ·obtain⟨m,hn,hl⟩:=I.loc
  refine⟨m,ns m hn,fun i x v e1 e2 e3=>?_⟩
  obtain⟨u,r,l⟩:=hl i x v e1 e2 e3
  refine⟨u,r,?_⟩
  rcases l with l|⟨k,c,e,z⟩
  ·exact .inl l
  ·exact .inr ⟨k,c,e,Nr x c e _ z⟩
 ·obtain⟨v,z⟩:=I.cell x c e
  exact⟨v,Nr x c e v z⟩
 ·obtain⟨m,⟨o,_,_,ho,_⟩,_⟩:=I.loc
  exact free _ o (fun z=>(hch _ z).2.1 rfl) ho I.free
 ·obtain⟨v,o,ho,hd⟩:=I.cell x c e
  exact free c o (fun z=>(hch c z).2.2.1 x c e rfl) ho (I.freeC x c e)
 ·obtain⟨e,n,ne,nf,d⟩:=I.pin p hp
  have nch:p.1 ∉ ch:=fun z=>(hch p.1 z).2.2.2 p hp rfl
  exact⟨keep p.1 p.2 ne nf nch e n,free p.1 p.2 nch e n,ne,nf,d⟩
theorem Inv.un{t':Nat}(I:Inv X pins σ H s)(u:Un X.fs [] H H' s.heap h')(hok:HOk X.prog X.w H' h'):Inv X pins σ H' { s with heap:=h',toks:=t' }:=by
 obtain⟨m,⟨o,es,ep,ho,r⟩,_⟩:=id I.loc
 obtain⟨sl,hL⟩:=u.any ho I.free (by simp)
 exact I.step (g':=s.gens) (d':=s.drawn) (ch:=[]) (fun _ z=>nomatch z) (fun b o _ hb _ e n=>u.keep b o e n hb (by simp)) (fun b o _ hb _ e n=>u.slot b o e n hb (by simp)) (fun b o _ e n=>u.free b o e n (by simp)) (fun b o _ e=>u.there b o e (by simp)) u.tups u.frzs u.tbls (fun m' hm=>by
  obtain⟨o',es',ep',ho',r'⟩:=hm
  rw[ho] at ho';cases ho'
  exact⟨_,es',ep',hL,r'⟩) hok I.bare
theorem Inv.call{g':Array GenState}{t':Nat}{d':Drawn}{ch:List Addr}(I:Inv X pins σ H s)(u:Un (frs X.stack) ch H H' s.heap h')(hok:HOk X.prog X.w H' h')(hg:AllBare g')(hch:∀b∈ch,(b∈X.ex∨X.s₀.heap.objs.size≤b)∧b≠X.env.locals∧(∀x c,X.env.cells.lookup x=some c→c≠b)∧∀p∈X.pn++pins,p.1≠b) :
  Inv X pins σ H' { s with heap:=h',gens:=g',drawn:=d',toks:=t' }:=by
 obtain⟨m,⟨o,es,ep,ho,r⟩,_⟩:=id I.loc
 obtain⟨sl,hL⟩:=u.any ho I.free fun z=>(hch _ z).2.1 rfl
 exact I.step (ch:=ch) hch (fun b o hL hb hc e n=>u.keep b o e n (fun z=>(List.mem_cons.mp (I.stkSub b z)).elim hL hb) hc) (fun b o _ _ hc e n=>u.any e n hc) (fun b o hc e n=>u.free b o e n hc) (fun b o hc e=>u.there b o e hc) u.tups u.frzs u.tbls (fun m' hm=>by
  obtain⟨o',es',ep',ho',r'⟩:=hm
  rw[ho] at ho';cases ho'
  exact⟨_,es',ep',hL,r'⟩) hok hg
theorem Inv.turned{t':Nat}{it:Addr}(I:Inv X pins σ H s)(k:∀b o,b≠it→s.heap.get? b=some o→h'.get? b=some o)(hn:H it=none)(hL:it≠X.env.locals)(h1:it∈X.ex∨X.s₀.heap.objs.size≤it)(h2:∀x c,X.env.cells.lookup x=some c→c≠it)(h3:∀p∈X.pn++pins,p.1≠it):Inv X pins σ H { s with heap:=h',toks:=t' }:=by
 have nit:∀b u,H b=some u→b≠it:=fun b u e z=>by rw[z,hn] at e;cases e
 refine I.step (g':=s.gens) (d':=s.drawn) (ch:=[it]) (fun b hb=>?_) (fun b o _ _ hc e _=>k b o (fun z=>hc (by simp[z])) e) (fun b o _ _ hc e _=>⟨o.slots,k b o (fun z=>hc (by simp[z])) e⟩) (fun _ _ _ _ n=>n)
  (fun b o hc e=>⟨o,k b o (fun z=>hc (by simp[z])) e⟩) (fun _ _ e=>e) (fun _ _ _ e=>e) (fun b ps e=>⟨#[],by rw[e];simp⟩) (fun m hm=>?_) (fun b u e=>?_) I.bare
 ·have e:b=it:=by simpa using hb
  subst e
  exact⟨h1,hL,h2,h3⟩
 ·obtain⟨o,es,ep,ho,r⟩:=hm
  exact⟨o,es,ep,k _ o (Ne.symm hL) ho,r⟩
 ·refine(I.hok b u e).stay (fun c v hc q=>k c v ?_ q) (fun _ q=>q) fun _ _ q=>q
  rcases hc with z|z
  ·rw[z];exact nit b u e
  ·exact nit c _ z
theorem Inv.tok(I:Inv X pins σ H s)(t:Nat):Inv X pins σ H { s with toks:=t }:=I.un (h':=s.heap) (t':=t) Un.refl I.hok
theorem Inv.kept{t':Nat}(I:Inv X pins σ H s)(k:∀b u,s.heap.get? b=some u→h'.get? b=some u):Inv X pins σ H { s with heap:=h',toks:=t' }:=I.un (Un.kept k) (I.hok.kept k)
theorem Inv.laid{a:Addr}{o:HO}{t':Nat}(I:Inv X pins σ H s)(k:∀b u,s.heap.get? b=some u→h'.get? b=some u)(hp:s.heap.objs.size≤a)(new:ObjOk X.prog X.w (upd H a o) h' a o) :
  Inv X pins σ (upd H a o) { s with heap:=h',toks:=t' }:=I.un (Un.laid k hp (I.hok.fresh hp)) (I.hok.laid k hp new)
theorem Inv.write{x e:Addr}{o:HO}{t':Nat}(I:Inv X pins σ H s)(mu:Mut (H x))(he:e=x∨H e=some (.own x))(k:∀b u,b≠e→s.heap.get? b=some u→h'.get? b=some u)(heo:∃u,h'.get? e=some u)(new:ObjOk X.prog X.w (upd H x o) h' x o):Inv X pins σ (upd H x o) { s with heap:=h',toks:=t' }:=I.un (Un.write mu he k heo) (I.hok.write mu he k heo new)
theorem Inv.weak{σ':List (Option V)}(I:Inv X pins σ H s)(hl:σ'.length=σ.length)(w:∀(i:Nat) v,σ'[i]? = some (some v)→σ[i]? = some (some v)):Inv X pins σ' H s:=
 ⟨I.ok,I.os,I.bare,I.base,let ⟨m,hn,hl'⟩:=I.loc;⟨m,hn,fun i x v e1 e2 e3=>hl' i x v e1 (w i v e2) e3⟩,I.cell,I.free,I.freeC,I.pin,I.hok,hl.trans I.len⟩
theorem Inv.pins_of{pins':List (Addr×Obj)}(I:Inv X pins σ H s)(h:∀p∈pins',s.heap.get? p.1=some p.2∧H p.1=none∧p.1≠X.env.locals∧p.1 ∉ X.fs∧∀v,p.2.data≠.cell v):Inv X pins' σ H s:=
 ⟨I.ok,I.os,I.bare,I.base,I.loc,I.cell,I.free,I.freeC,fun p hp=>(List.mem_append.mp hp).elim (fun z=>I.pin p (List.mem_append_left _ z)) (h p),I.hok,I.len⟩

theorem Ix{N:List Str}(hN:N.Nodup){i j:Nat}{x:Str}(a:N[i]? = some x)(b:N[j]? = some x):i=j:=by
 obtain⟨h1,e1⟩:=List.getElem?_eq_some_iff.mp a
 obtain⟨h2,e2⟩:=List.getElem?_eq_some_iff.mp b
 exact(List.getElem_inj hN).mp (e1.trans e2.symm)

theorem L6{M:Model}{A:Around}{E:Value→Shared→Prop}{i:Nat}{x:Str}{v:V}{u:Value}{Q:Unit→Shared→Prop}(I:Inv X pins σ H s)(hN:X.N.Nodup)(hi:X.N[i]? = some x)(hx:Loc X.env.scope x)(r:RelV v u)(h:∀s',Inv X pins (σ.set i (some v)) H s'→(∃a,Heap.SameBut a s.heap s'.heap∧(a=X.env.locals∨X.env.cells.lookup x=some a))→Q () s')(hf:X.fn x=true∨X.env.scope.names.lookup x=some .local:=by first|exact .inl rfl|exact .inr rfl|assumption):wpAny M A (storeName X.env x u) Q E s:=by
 obtain⟨m,hn,hl⟩:=id I.loc
 have hcls:(X.env.scope.kind == .class||(X.env.scope.kind == .module&&X.env.locals != X.env.globals))=false:=by rw[I.ok.kind];rfl
 have hiσ:i<σ.length:=by rw[I.len];exact(List.getElem?_eq_some_iff.mp hi).1
 have cne:=I.cne
 have tracked:∀{a:Addr} {h':Heap},(∃o,s.heap.get? a=some o∧H a=none)→Heap.SameBut a s.heap h'→HOk X.prog X.w H h':=fun {a h'} ha hs b ob e=>by
  obtain⟨_,_,hfree⟩:=ha
  refine(I.hok b ob e).stay (fun c w' hc q=>(hs.2 c ?_).trans q) (fun _ q=>q) fun _ _ q=>q
  rintro rfl
  rcases hc with rfl|hc
  ·rw[hfree] at e;cases e
  ·rw[hfree] at hc;cases hc
 rcases hx with hk|hk
 ·refine wpAny_storeName_local hk hn (fun h' hn' hs=>?_) hcls
  obtain⟨oL,_,_,hoL,_⟩:=id hn
  refine h _ ⟨I.ok,I.os,I.bare,⟨fun b o e n hb hx=>?_,fun b o e n hb hx=>?_,I.base.free,fun b o e hx=>?_,I.base.tups,I.base.frzs,I.base.tbls⟩,⟨_,hn',fun j y v' e1 e2 e3=>?_⟩,fun y c e=>?_,I.free,I.freeC,fun p hp=>?_,tracked ⟨oL,hoL,I.free⟩ hs,by simpa using I.len⟩ ⟨_,hs,.inl rfl⟩
  ·exact(hs.2 b (Nat.ne_of_lt (Nat.lt_of_lt_of_le (Heap.lt_size e) I.ok.above))).trans (I.base.keep b o e n hb hx)
  ·obtain⟨sl,e1⟩:=I.base.slot b o e n hb hx
   exact⟨sl,(hs.2 b (Nat.ne_of_lt (Nat.lt_of_lt_of_le (Heap.lt_size e) I.ok.above))).trans e1⟩
  ·obtain⟨o',e1⟩:=I.base.there b o e hx
   exact⟨o',(hs.2 b (Nat.ne_of_lt (Nat.lt_of_lt_of_le (Heap.lt_size e) I.ok.above))).trans e1⟩
  ·by_cases hj:j=i
   ·subst hj
    rw[hi] at e1;cases e1
    rw[List.getElem?_set_self hiσ] at e2
    cases e2
    exact⟨u,r,.inl ⟨hk,by simp⟩⟩
   ·rw[List.getElem?_set_ne (Ne.symm hj)] at e2
    obtain⟨u',r',q⟩:=hl j y v' e1 e2 e3
    refine⟨u',r',?_⟩
    rcases q with ⟨k,e⟩|⟨k,c,e,z⟩
    ·refine .inl ⟨k,?_⟩
     have:y≠x:=fun e=>hj (Ix hN e1 (e ▸ hi))
     simp[this,e]
    ·exact .inr ⟨k,c,e,z.sameBut hs (cne y c e)⟩
  ·obtain⟨w',z⟩:=I.cell y c e
   exact⟨w',z.sameBut hs (cne y c e)⟩
  ·obtain⟨e,n,ne,nf,d⟩:=I.pin p hp
   exact⟨(hs.2 p.1 ne).trans e,n,ne,nf,d⟩
 ·have hfn:X.fn x=true:=by
   rcases hf with z|z
   ·exact z
   ·rw[z] at hk;cases hk
  obtain⟨c,hc⟩:=I.ok.has x (.inl hk)
  obtain⟨w',z⟩:=I.cell x c hc
  refine wpAny_storeName_cell I.ok.kind hk hc z (fun h' hc' hs=>?_)
  obtain⟨oc,hoc,hocd⟩:=id z
  refine h { s with heap:=h' } ⟨I.ok,I.os,I.bare,⟨fun b o e n hb hx=>?_,fun b o e n hb hx=>?_,I.base.free,fun b o e hx=>?_,I.base.tups,I.base.frzs,I.base.tbls⟩,⟨m,hn.sameBut hs (Ne.symm (cne x c hc)),fun j y v' e1 e2 e3=>?_⟩,fun y c' e=>?_,I.free,I.freeC,fun p hp=>?_,tracked ⟨oc,hoc,I.freeC x c hc⟩ hs,by simpa using I.len⟩ ⟨c,hs,.inr hc⟩
  ·exact(hs.2 b (Nat.ne_of_lt (Nat.lt_of_lt_of_le (Heap.lt_size e) (I.ok.cab x c hfn hc)))).trans (I.base.keep b o e n hb hx)
  ·obtain⟨sl,e1⟩:=I.base.slot b o e n hb hx
   exact⟨sl,(hs.2 b (Nat.ne_of_lt (Nat.lt_of_lt_of_le (Heap.lt_size e) (I.ok.cab x c hfn hc)))).trans e1⟩
  ·obtain⟨o',e1⟩:=I.base.there b o e hx
   exact⟨o',(hs.2 b (Nat.ne_of_lt (Nat.lt_of_lt_of_le (Heap.lt_size e) (I.ok.cab x c hfn hc)))).trans e1⟩
  ·by_cases hj:j=i
   ·subst hj
    rw[hi] at e1;cases e1
    rw[List.getElem?_set_self hiσ] at e2
    cases e2
    exact⟨u,r,.inr ⟨.inl hk,c,hc,hc'⟩⟩
   ·rw[List.getElem?_set_ne (Ne.symm hj)] at e2
    obtain⟨u',r',q⟩:=hl j y v' e1 e2 e3
    refine⟨u',r',?_⟩
    rcases q with q|⟨k,c',e,z'⟩
    ·exact .inl q
    ·refine .inr ⟨k,c',e,z'.sameBut hs ?_⟩
     rintro rfl
     exact hj (Ix hN e1 (I.ok.inj _ _ _ e hc ▸ hi))
  ·by_cases hcc:c'=c
   ·subst hcc;exact⟨_,hc'⟩
   ·obtain⟨w2,z2⟩:=I.cell y c' e
    exact⟨w2,z2.sameBut hs hcc⟩
  ·obtain⟨e,n,ne,nf,d⟩:=I.pin p hp
   refine⟨(hs.2 p.1 ?_).trans e,n,ne,nf,d⟩
   intro q
   rw[q,hoc] at e
   have q':oc=p.2:=Option.some.inj e
   exact d w' (by rw[←q'];exact hocd)
theorem Cy{M:Model}{A:Around}{E:Value→Shared→Prop}{i:Nat}{x:Str}{v:V}{u:Value}{Q:Unit→Shared→Prop}(I:Inv X pins σ H s)(hN:X.N.Nodup)(hi:X.N[i]? = some x)(hx:Loc X.env.scope x)(r:RelV v u)(h:∀s',Inv X pins (σ.set i (some v)) H s'→Q () s')(hf:X.fn x=true∨X.env.scope.names.lookup x=some .local:=by first|exact .inl rfl|exact .inr rfl|assumption):wpAny M A (storeName X.env x u) Q E s:=
 L6 I hN hi hx r (fun s' I' _=>h s' I') hf
theorem Inv.call'{s':Shared}{ch:List Addr}(I:Inv X pins σ H s)(ho:s'.os=s.os)(u:Un (frs X.stack) ch H H' s.heap s'.heap)(hok:HOk X.prog X.w H' s'.heap)(hg:AllBare s'.gens)(hch:∀b∈ch,(b∈X.ex∨X.s₀.heap.objs.size≤b)∧b≠X.env.locals∧(∀x c,X.env.cells.lookup x=some c→c≠b)∧∀p∈X.pn++pins,p.1≠b):Inv X pins σ H' s':=by
 obtain⟨h',g',d',t',o'⟩:=s'
 have e:o'=s.os:=ho
 subst e
 exact I.call (g':=g') (t':=t') (d':=d') u hok hg hch
end
abbrev XK:=Value→Option Addr→Hp→Prop
abbrev St:=List (Option V)
abbrev VK:=V→Hp→Prop
abbrev TE:=St→Hp→VK→Prop
abbrev TT:=St→Hp→(Bool→Hp→Prop)→Prop
abbrev TA:=St→Hp→(List V→Hp→Prop)→Prop
structure Ends where
 nx:St→Hp→Prop
 rt:VK
 bk:St→Hp→Prop:=fun _ _=>False
 ct:St→Hp→Prop:=fun _ _=>False
abbrev TS:=Ends→St→Hp→Prop

def EP(X:Cx)(pins:List (Addr×Obj))(σ:St)(Q:VK)(u:Value)(s':Shared):Prop:=∃v H',Inv X pins σ H' s'∧RelV v u∧Q v H'
def TP(X:Cx)(pins:List (Addr×Obj))(σ:St)(Q:Bool→Hp→Prop)(b:Bool)(s':Shared):Prop:=∃H',Inv X pins σ H' s'∧Q b H'
def AP(X:Cx)(pins:List (Addr×Obj))(σ:St)(Q:List V→Hp→Prop)(us:List Value)(s':Shared):Prop:=∃vs H',Inv X pins σ H' s'∧Vals vs us∧Q vs H'
def SP(X:Cx)(pins:List (Addr×Obj))(D:Ends)(f:Flow)(s':Shared):Prop:=
 match f with
 |.next=>∃σ' H',Inv X pins σ' H' s'∧D.nx σ' H'
 |.brk=>∃σ' H',Inv X pins σ' H' s'∧D.bk σ' H'
 |.cont=>∃σ' H',Inv X pins σ' H' s'∧D.ct σ' H'
 |.ret u=>∃v σ' H',Inv X pins σ' H' s'∧RelV v u∧D.rt v H'

def PE(X:Cx)(e:Expr)(t:TE):Prop:=
 ∀(pins:List (Addr×Obj)) (s:Shared) (σ:St) (H:Hp) (Q:VK),Inv X pins σ H s→t σ H Q→wpAny (model X.prog X.w) X.A (eval e X.env) (EP X pins σ Q) X.xe s
def PT(X:Cx)(e:Expr)(t:TT):Prop:=
 ∀(pins:List (Addr×Obj)) (s:Shared) (σ:St) (H:Hp) (Q:Bool→Hp→Prop),Inv X pins σ H s→t σ H Q→wpAny (model X.prog X.w) X.A (isTrue e X.env (eval e X.env)) (TP X pins σ Q) X.xe s
def PW(X:Cx)(e:Expr)(t:TT):Prop:=
 ∀(whole:Sem Value) (pins:List (Addr×Obj)) (s:Shared) (σ:St) (H:Hp) (Q:Bool→Hp→Prop),Inv X pins σ H s→t σ H Q→wpAny (model X.prog X.w) X.A (isTrue e X.env whole) (TP X pins σ Q) X.xe s
theorem PW.pt{X:Cx}{e:Expr}{t:TT}(h:PW X e t):PT X e t:=h _
def PA(X:Cx)(es:List Expr)(t:TA):Prop:=
 ∀(pos:Pos) (pins:List (Addr×Obj)) (s:Shared) (σ:St) (H:Hp) (Q:List V→Hp→Prop),Inv X pins σ H s→t σ H Q→wpAny (model X.prog X.w) X.A (spliced (backTo pos (starEach es X.env))) (AP X pins σ Q) X.xe s
def PS(X:Cx)(st:Stmt)(t:TS):Prop:=
 ∀(pins:List (Addr×Obj)) (s:Shared) (σ:St) (H:Hp) (D:Ends),Inv X pins σ H s→t D σ H→wpAny (model X.prog X.w) X.A (exec st X.env) (SP X pins D) X.xe s
def PSs(X:Cx)(st:List Stmt)(t:TS):Prop:=
 ∀(pins:List (Addr×Obj)) (s:Shared) (σ:St) (H:Hp) (D:Ends),Inv X pins σ H s→t D σ H→wpAny (model X.prog X.w) X.A (execs st X.env) (SP X pins D) X.xe s
theorem thn{α:Type}{t:Sem α}{Q Q':α→Shared→Prop}{M:Model}{A:Around}{E:Value→Shared→Prop}{s:Shared}(h:wpAny M A t Q E s)(hQ:∀a s,Q a s→Q' a s):wpAny M A t Q' E s:=wpAny_mono h hQ fun _ _ x=>x
end L2
namespace L2
open PySem PySem.Spec PyProof.Rows
section
variable{X:Cx}
theorem bin{a b:Expr}{ta tb:TE}(ha:PE X a ta)(hb:PE X b tb){pins:List (Addr×Obj)}{s:Shared}{σ:St}{H:Hp}{R:V→V→Hp→Prop}(I:Inv X pins σ H s)(h:ta σ H fun x H1=>tb σ H1 fun y H2=>R x y H2){α:Type}{Q:α→Shared→Prop}{f:Value→Value→Sem α}(hf:∀v u s2 x y H2,Inv X pins σ H2 s2→RelV x v→RelV y u→R x y H2→wpAny (model X.prog X.w) X.A (f v u) Q X.xe s2) :
  wpAny (model X.prog X.w) X.A (eval a X.env) (fun v s₁=>wpAny (model X.prog X.w) X.A (eval b X.env) (fun u s₂=>wpAny (model X.prog X.w) X.A (f v u) Q X.xe s₂) X.xe s₁) X.xe s:=by
 refine thn (ha pins s σ H _ I h) fun v s1 ⟨x,H1,I1,r1,q1⟩=>?_
 refine thn (hb pins s1 σ H1 _ I1 q1) fun u s2 ⟨y,H2,I2,r2,q2⟩=>?_
 exact hf v u s2 x y H2 I2 r1 r2 q2

def tVar(i:Nat):TE:=fun σ H Q=>∃v,σ[i]? = some (some v)∧Q v H
def tC(v:V):TE:=fun _ H Q=>Q v H
theorem Kc{i:Nat}{x:Str}{pos:Pos}(hN:X.N[i]? = some x)(hv:Vis X.env.scope x)(hd:(x == ("__debug__" : Str))=false:=by decide)(hcd:(x == ("__classdict__" : Str))=false:=by decide):PE X (.Name x pos) (tVar i):=by
 intro pins s σ H Q I h
 obtain⟨v,e,h⟩:=h
 obtain⟨m,hn,hl⟩:=I.loc
 obtain⟨u,r,l⟩:=hl i x v hN e hv
 have fin:EP X pins σ Q u s:=⟨v,H,I,r,h⟩
 rcases l with ⟨hk,hm⟩|⟨hk,c,hc,hcell⟩
 ·exact wpAny_Name (wpAny_loadName_local I.ok.kind hk hn hm fin) hd
 ·rcases hk with hk|hk
  ·exact wpAny_Name (wpAny_loadName_cell I.ok.kind hk hc hcell fin) hd
  ·exact wpAny_Name (wpAny_loadName_free I.ok.kind hk hc hcell fin hcd) hd
theorem Tg{i j pos}:PE X (.Constant (.int i) j pos) (tC (.int i)):=fun _ _ _ H _ I h=>wpAny_Constant_int ⟨.int i,H,I.tok _,⟨_,rfl⟩,h⟩
theorem Vh{b j pos}:PE X (.Constant (.bool b) j pos) (tC (.bl b)):=fun _ _ _ H _ I h=>Constant_bool ⟨.bl b,H,I,rfl,h⟩
theorem Te{j pos}:PE X (.Constant .none j pos) (tC .non):=fun _ _ _ H _ I h=>Constant_none ⟨.non,H,I,rfl,h⟩
theorem N0{x j pos}:PE X (.Constant (.str x) j pos) (tC (.str x)):=fun _ _ _ H _ I h=>Calls.Constant_str ⟨.str x,H,I.tok _,⟨_,rfl⟩,h⟩

def Gl(X:Cx)(x:Str):Prop:=X.env.kindOf x=some .globalImplicit
theorem Dr{E:Value→Shared→Prop}{pins:List (Addr×Obj)}{s:Shared}{σ:St}{H:Hp}{x:Str}{u:Value}{pos:Pos}{Q:Value→Shared→Prop}(I:Inv X pins σ H s)(hg:Gl X x)(hm:X.mg x=some u)(h:Q u s)(hd:(x == ("__debug__" : Str))=false:=by decide):wpAny (model X.prog X.w) X.A (eval (.Name x pos) X.env) Q E s:=
 Calls.Name_function_global I.ok.kind hg (Calls.loadGlobal_global (by rw[I.ok.glob];exact I.mod.glob.keeps I.bk) hm h) hd
theorem Hc{E:Value→Shared→Prop}{pins:List (Addr×Obj)}{s:Shared}{σ:St}{H:Hp}{x:Str}{u:Value}{pos:Pos}{Q:Value→Shared→Prop}(I:Inv X pins σ H s)(hg:Gl X x)(hm:X.mg x=none)(hv:bootBuiltins x=some u)(h:Q u s)(hn:x≠"__name__":=by decide)(hd:(x == ("__debug__" : Str))=false:=by decide):wpAny (model X.prog X.w) X.A (eval (.Name x pos) X.env) Q E s:=by
 obtain⟨mb,h1,h2⟩:=I.mod.blt
 exact Calls.Name_function_global I.ok.kind hg (Calls.loadGlobal_builtin (by rw[I.ok.glob];exact I.mod.glob.keeps I.bk) hm (by rw[I.ok.blt];exact h1.keeps I.bk) ((h2 x hn).trans hv) h) hd
theorem Lh{x:Str}{v:V}{u:Value}{pos:Pos}(hg:Gl X x)(hm:X.mg x=some u)(r:RelV v u)(hd:(x == ("__debug__" : Str))=false:=by decide):PE X (.Name x pos) (tC v):=
 fun _ _ _ H _ I h=>Dr I hg hm ⟨v,H,I,r,h⟩ hd
theorem Qr{x:Str}{v:V}{u:Value}{pos:Pos}(hg:Gl X x)(hm:X.mg x=none)(hv:bootBuiltins x=some u)(r:RelV v u)(hn:x≠"__name__":=by decide)(hd:(x == ("__debug__" : Str))=false:=by decide):PE X (.Name x pos) (tC v):=
 fun _ _ _ H _ I h=>Hc I hg hm hv ⟨v,H,I,r,h⟩ hn hd

variable{a b:Expr}{ta tb:TE}{pos:Pos}
variable{tA tB':TT}{rest:List Expr}
def tAnd(t u:TT):TT:=fun σ H Q=>t σ H fun c H1=>if c=true then u σ H1 Q else Q false H1
def tOr(t u:TT):TT:=fun σ H Q=>t σ H fun c H1=>if c=true then Q true H1 else u σ H1 Q
def tNot(t:TT):TT:=fun σ H Q=>t σ H fun c H1=>Q (!c) H1
theorem Ql(ha:PT X a tA):PW X (.BoolOp .And [a] pos) tA:=by
 intro wh pins s σ H Q I h
 refine isTrue_and (thn (ha pins s σ H Q I h) fun c s1 e=>?_)
 cases c with
 |true=>exact isTrue_and_nil e
 |false=>exact e
theorem S1(ha:PT X a tA):PW X (.BoolOp .Or [a] pos) tA:=by
 intro wh pins s σ H Q I h
 refine isTrue_or (thn (ha pins s σ H Q I h) fun c s1 e=>?_)
 cases c with
 |false=>exact isTrue_or_nil e
 |true=>exact e
theorem S2(ha:PT X a tA)(hb:PW X (.BoolOp .And (b::rest) pos) tB'):PW X (.BoolOp .And (a::b::rest) pos) (tAnd tA tB'):=by
 intro wh pins s σ H Q I h
 refine isTrue_and (thn (ha pins s σ H _ I h) fun c s1 ⟨H1,I1,q1⟩=>?_)
 cases c with
 |true=>exact hb wh pins s1 σ H1 Q I1 q1
 |false=>exact⟨H1,I1,q1⟩
theorem Vd(ha:PT X a tA)(hb:PW X (.BoolOp .Or (b::rest) pos) tB'):PW X (.BoolOp .Or (a::b::rest) pos) (tOr tA tB'):=by
 intro wh pins s σ H Q I h
 refine isTrue_or (thn (ha pins s σ H _ I h) fun c s1 ⟨H1,I1,q1⟩=>?_)
 cases c with
 |true=>exact⟨H1,I1,q1⟩
 |false=>exact hb wh pins s1 σ H1 Q I1 q1
theorem S3(ha:PT X a tA):PT X (.UnaryOp .Not a pos) (tNot tA):=by
 intro pins s σ H Q I h
 exact isTrue_not (ha pins s σ H (fun c H1=>Q (!c) H1) I h)
def U6(ta tb:TE):TE:=fun σ H Q=>ta σ H fun x H1=>∃c,x=.bl c∧if c=true then tb σ H1 Q else Q (.bl false) H1
def U1(ta:TE):TE:=fun σ H Q=>ta σ H fun x H1=>∃c,x=.bl c∧Q (.bl (!c)) H1
theorem Tc{op}{t:TE}(h:PE X a t):PE X (.BoolOp op [a] pos) t:=fun pins s σ H Q I hw=>BoolOp_one (h pins s σ H Q I hw)
theorem Th(ha:PE X a ta)(hb:PE X (.BoolOp .And (b::rest) pos) tb):PE X (.BoolOp .And (a::b::rest) pos) (U6 ta tb):=by
 intro pins s σ H Q I h
 refine BoolOp_and (thn (ha pins s σ H _ I h) fun v s1 ⟨x,H1,I1,r1,q1⟩=>?_)
 obtain⟨c,rfl,q1⟩:=q1
 cases r1
 refine wpAny_truthy_bool ?_
 cases c with
 |true=>exact hb pins s1 σ H1 Q I1 q1
 |false=>exact⟨.bl false,H1,I1,rfl,q1⟩
theorem Td(ha:PE X a ta):PE X (.UnaryOp .Not a pos) (U1 ta):=by
 intro pins s σ H Q I h
 refine UnaryOp_ (thn (ha pins s σ H _ I h) fun v s1 ⟨x,H1,I1,r1,q1⟩=>?_)
 obtain⟨c,rfl,q1⟩:=q1
 cases r1
 exact not_of (wpAny_truthy_bool ⟨.bl (!c),H1,I1,rfl,q1⟩)
end
end L2
namespace L2
open PySem PySem.Spec PyProof.Rows
def SqL(K:PySem.W.Frag)(H:Hp)(a:Addr)(xs:List V):Prop:=
 Rd H a (.lst xs)∨
  ∃(o:Obj) (its:Array Value) (n:Nat),K.lookup a=some o∧o.cls=.type "list"∧o.dict=none∧o.data=.seq its n∧its.size≤sizeLine∧Vals xs its.toList
def SqT(K:PySem.W.Frag)(H:Hp)(a:Addr)(xs:List V):Prop:=
 Rd H a (.tup xs)∨
  ∃(o:Obj) (its:Array Value) (n:Nat),K.lookup a=some o∧o.cls=.type "tuple"∧o.data=.seq its n∧its.size≤sizeLine∧Vals xs its.toList
def absV:Value→Option V
 |.none=>some .non
 |.bool b=>some (.bl b)
 |.int i _=>some (.int i)
 |.str x _=>some (.str x)
 |.bytes b _=>some (.byt b)
 |.float b _=>some (.flt b)
 |.ref a=>some (.ref a)
 |.type n=>some (.ty n)
 |_=>none
theorem RelV.abs{x:V}{u:Value}(r:RelV x u):absV u=some x:=by
 cases x with
 |non=>cases r;rfl
 |bl _=>cases r;rfl
 |int _=>obtain⟨t,rfl⟩:=r;rfl
 |str _=>obtain⟨t,rfl⟩:=r;rfl
 |byt _=>obtain⟨t,rfl⟩:=r;rfl
 |flt _=>obtain⟨t,rfl⟩:=r;rfl
 |ref _=>cases r;rfl
 |ty _=>cases r;rfl
theorem RelV.inj{x y:V}{u:Value}(r:RelV x u)(q:RelV y u):x=y:=Option.some.inj (r.abs.symm.trans q.abs)
theorem Vals.inj:∀{xs ys:List V} {us:List Value},Vals xs us→Vals ys us→xs=ys
 |_,_,_,.nil,.nil=>rfl
 |_,_,_,.cons r t,.cons r' t'=>by rw[r.inj r',Vals.inj t t']
section
variable{X:Cx}{pins:List (Addr×Obj)}{σ:St}{H:Hp}{s:Shared}{a:Addr}{xs ys:List V}
theorem Inv.list(I:Inv X pins σ H s)(h:SqL X.K H a xs):∃its:List Value,Vals xs its∧PlainL s.heap a its.toArray∧xs.length≤sizeLine:=by
 rcases h with h|⟨o,its,n,hk,hc,hd,hs,hz,r⟩
 ·obtain⟨z,its,n,r,e⟩:=h.ok I.hok
  exact⟨its,r,⟨_,n,e,rfl,rfl,rfl⟩,z⟩
 ·refine⟨its.toList,r,⟨o,n,I.kIn a o hk,hc,hd,by simpa using hs⟩,?_⟩
  have e:=r.length
  simp only[Array.length_toList] at e
  omega
theorem Inv.tuple(I:Inv X pins σ H s)(h:SqT X.K H a xs):∃its:List Value,Vals xs its∧IsTup s.heap a its.toArray∧xs.length≤sizeLine:=by
 rcases h with h|⟨o,its,n,hk,hc,hs,hz,r⟩
 ·obtain⟨z,its,r,p⟩:=h.ok I.hok
  exact⟨its,r,p,z⟩
 ·refine⟨its.toList,r,⟨o,I.kIn a o hk,hc,n,by simpa using hs⟩,?_⟩
  have e:=r.length
  simp only[Array.length_toList] at e
  omega
theorem Inv.list_inj(I:Inv X pins σ H s)(h:SqL X.K H a xs)(h':SqL X.K H a ys):xs=ys:=by
 obtain⟨its,r,⟨o,n,e,_,_,d⟩,_⟩:=I.list h
 obtain⟨its',r',⟨o',n',e',_,_,d'⟩,_⟩:=I.list h'
 rw[e] at e';cases e'
 rw[d] at d'
 injection d' with d1 _
 have:its=its':=by simpa using congrArg Array.toList d1
 subst this
 exact r.inj r'
theorem Inv.tuple_inj(I:Inv X pins σ H s)(h:SqT X.K H a xs)(h':SqT X.K H a ys):xs=ys:=by
 obtain⟨its,r,⟨o,e,_,n,d⟩,_⟩:=I.tuple h
 obtain⟨its',r',⟨o',e',_,n',d'⟩,_⟩:=I.tuple h'
 rw[e] at e';cases e'
 rw[d] at d'
 injection d' with d1 _
 have:its=its':=by simpa using congrArg Array.toList d1
 subst this
 exact r.inj r'
end
abbrev Cx.wish(X:Cx)(E:Value→Shared→Prop):Cx:={ X with xe:=E }
abbrev Cx.nox(X:Cx):Cx:=X.wish fun _ _=>False
theorem Cx.Ok.wish{X:Cx}(ok:X.Ok)(E:Value→Shared→Prop):(X.wish E).Ok:=
 ⟨ok.mod,ok.kind,ok.glob,ok.blt,ok.above,ok.inj,ok.has,ok.cab,ok.hd,ok.frames,ok.stk,ok.exf,ok.bs,ok.bsz,ok.noex,ok.exfs,ok.funs,ok.frf⟩
theorem Cx.Ok.unwish{X:Cx}{E:Value→Shared→Prop}(ok:(X.wish E).Ok):X.Ok:=
 ⟨ok.mod,ok.kind,ok.glob,ok.blt,ok.above,ok.inj,ok.has,ok.cab,ok.hd,ok.frames,ok.stk,ok.exf,ok.bs,ok.bsz,ok.noex,ok.exfs,ok.funs,ok.frf⟩
section
variable{X:Cx}{pins:List (Addr×Obj)}{σ:St}{H:Hp}{s:Shared}{E:Value→Shared→Prop}
theorem Inv.wish(I:Inv X pins σ H s)(E:Value→Shared→Prop):Inv (X.wish E) pins σ H s:=⟨I.ok.wish E,I.os,I.bare,I.base,I.loc,I.cell,I.free,I.freeC,I.pin,I.hok,I.len⟩
theorem Inv.unwish(I:Inv (X.wish E) pins σ H s):Inv X pins σ H s:=⟨I.ok.unwish,I.os,I.bare,I.base,I.loc,I.cell,I.free,I.freeC,I.pin,I.hok,I.len⟩
theorem SP.unwish{D:Ends}{f:Flow}{s':Shared}(h:SP (X.wish E) pins D f s'):SP X pins D f s':=by
 cases f with
 |next=>obtain⟨σ',H',I,q⟩:=h;exact⟨σ',H',I.unwish,q⟩
 |brk=>obtain⟨σ',H',I,q⟩:=h;exact⟨σ',H',I.unwish,q⟩
 |cont=>obtain⟨σ',H',I,q⟩:=h;exact⟨σ',H',I.unwish,q⟩
 |ret u=>obtain⟨v,σ',H',I,r,q⟩:=h;exact⟨v,σ',H',I.unwish,r,q⟩
theorem PSs.nox{st:List Stmt}{t:TS}(h:PSs X.nox st t):PSs X st t:=fun pins s σ H D I hw=>
 wpAny_mono (h pins s σ H D (I.wish _) hw) (fun _ _ q=>q.unwish) fun _ _ z=>False.elim z
end
section
variable{X:Cx}{st:Stmt}{rest:List Stmt}{t u:TS}{e:Expr}{te:TE}{pos:Pos}
def U2:TS:=fun D σ H=>D.nx σ H
def Ul(t u:TS):TS:=fun D σ H=>t { D with nx:=u D } σ H
theorem pss_nil:PSs X [] U2:=fun _ _ σ H _ I h=>wpAny_execs_nil ⟨σ,H,I,h⟩
theorem Ir(h1:PS X st t)(h2:PSs X rest u):PSs X (st::rest) (Ul t u):=by
 intro pins s σ H D I h
 refine wpAny_execs_cons (thn (h1 pins s σ H { D with nx:=u D } I h) fun f s1 q=>?_)
 cases f with
 |next=>
  obtain⟨σ',H',I',q⟩:=q
  exact h2 pins s1 σ' H' D I' q
 |ret v=>exact q
 |brk=>exact q
 |cont=>exact q
theorem Hi(h1:PS X st t):PSs X [st] t:=by
 intro pins s σ H D I h
 refine wpAny_execs_cons (thn (h1 pins s σ H D I h) fun f s1 q=>?_)
 cases f with
 |next=>exact wpAny_execs_nil q
 |ret v=>exact q
 |brk=>exact q
 |cont=>exact q
theorem Inv.quiet{pins:List (Addr×Obj)}{σ:St}{H:Hp}{s:Shared}(I:Inv X pins σ H s):interactive X.env=false:=by simp[interactive,I.ok.kind]
def U3(te:TE):TS:=fun D σ H=>te σ H fun _ H1=>D.nx σ H1
theorem Lg(he:PE X e te)(hs:swapsWith e none pos.line X.env=pure false:=by rfl):PS X (.Expr e pos) (U3 te):=by
 intro pins s σ H D I h
 exact wpAny_Expr_any (thn (he pins s σ H _ I h) fun v s1 ⟨x,H1,I1,r1,q1⟩=>⟨σ,H1,I1,q1⟩) I.quiet hs
def tRet(te:TE):TS:=fun D σ H=>te σ H D.rt
theorem Ny(he:PE X e te):PS X (.Return (some e) pos) (tRet te):=by
 intro pins s σ H D I h
 exact wpAny_Return_some (thn (he pins s σ H _ I h) fun v s1 ⟨x,H1,I1,r1,q1⟩=>⟨x,σ,H1,I1,r1,q1⟩)
def tIfS(c:TT)(t u:TS):TS:=fun D σ H=>c σ H fun b H1=>if b=true then t D σ H1 else u D σ H1
theorem Rp{c:Expr}{a b:List Stmt}{tc:TT}(hc:PT X c tc)(ha:PSs X a t)(hb:PSs X b u):PS X (.If c a b pos) (tIfS tc t u):=by
 intro pins s σ H D I h
 refine wpAny_If (thn (hc pins s σ H _ I h) fun d s1 ⟨H1,I1,q1⟩=>?_)
 cases d with
 |true=>exact ha pins s1 σ H1 D I1 q1
 |false=>exact hb pins s1 σ H1 D I1 q1
end
abbrev TG:=V→St→Hp→(St→Hp→Prop)→Prop
abbrev TGs:=List V→St→Hp→(St→Hp→Prop)→Prop
def PG(X:Cx)(target:Expr)(t:TG):Prop:=
 ∀(pins:List (Addr×Obj)) (s:Shared) (σ:St) (H:Hp) (v:V) (u:Value) (Q:St→Hp→Prop),Inv X pins σ H s→RelV v u→t v σ H Q→
  wpAny (model X.prog X.w) X.A (assign target X.env u) (fun _ s'=>∃σ' H',Inv X pins σ' H' s'∧Q σ' H') X.xe s
def PGs(X:Cx)(ts:List Expr)(t:TGs):Prop:=
 ∀(pins:List (Addr×Obj)) (s:Shared) (σ:St) (H:Hp) (vs:List V) (us:List Value) (Q:St→Hp→Prop),Inv X pins σ H s→Vals vs us→t vs σ H Q→
  wpAny (model X.prog X.w) X.A (assignInOrder ((assignEach ts X.env).map (·.2)) us) (fun _ s'=>∃σ' H',Inv X pins σ' H' s'∧Q σ' H') X.xe s
abbrev Nf:=V→V→V→Hp→(Hp→Prop)→Prop
def PSet(X:Cx)(t:Nf):Prop:=
 ∀(pins:List (Addr×Obj)) (s:Shared) (σ:St) (H:Hp) (o i v:V) (ov iv u:Value) (Q:Hp→Prop),Inv X pins σ H s→RelV o ov→RelV i iv→RelV v u→t o i v H Q→
  wpAny (model X.prog X.w) X.A (setItem ov iv u) (fun _ s'=>∃H',Inv X pins σ H' s'∧Q H') X.xe s
section
variable{X:Cx}{pos:Pos}
def Rw(i:Nat):TG:=fun v σ H Q=>Q (σ.set i (some v)) H
theorem Qo{i:Nat}{x:Str}(hN:X.N.Nodup)(hi:X.N[i]? = some x)(hx:Loc X.env.scope x)(hf:X.fn x=true∨X.env.scope.names.lookup x=some .local:=by first|exact .inl rfl|exact .inr rfl|assumption):PG X (.Name x pos) (Rw i):=by
 intro pins s σ H v u Q I r h
 exact wpAny_assign_Name (Cy I hN hi hx r (fun s' I'=>⟨_,H,I',h⟩) hf)
def gNil:TGs:=fun vs σ H Q=>vs=[]∧Q σ H
def Vr(t:TG)(u:TGs):TGs:=fun vs σ H Q=>∃v r,vs=v::r∧t v σ H fun σ' H'=>u r σ' H' Q
theorem pgs_nil:PGs X [] gNil:=by
 intro pins s σ H vs us Q I r h
 obtain⟨e,h⟩:=h
 subst e
 cases r
 exact assignInOrder_nil ⟨σ,H,I,h⟩
theorem O2{e:Expr}{es:List Expr}{t:TG}{u:TGs}(h1:PG X e t)(h2:PGs X es u)(hs:(assignEach (e::es) X.env).map (·.2)=assign e X.env::(assignEach es X.env).map (·.2):=by rfl):PGs X (e::es) (Vr t u):=by
 intro pins s σ H vs us Q I r h
 obtain⟨v,vr,e1,h⟩:=h
 subst e1
 cases r with
 |cons r rr=>
  rw[hs]
  refine assignInOrder_cons (thn (h1 pins s σ H _ _ _ I r h) fun _ s1 ⟨σ1,H1,I1,q1⟩=>?_)
  exact h2 pins s1 σ1 H1 _ _ Q I1 rr q1
def gTup(K:PySem.W.Frag)(n:Nat)(t:TGs):TG:=fun v σ H Q=>∃a xs,v=.ref a∧SqT K H a xs∧xs.length=n∧t xs σ H Q
theorem S8{es:List Expr}{k:Nat}{t:TGs}{n:Nat}(hc:X.calm=true)(h:PGs X es t)(hn:(assignEach es X.env).length=n:=by rfl)(hst:(assignEach es X.env).findIdx? (·.1)=none:=by rfl):PG X (.Tuple es k pos) (gTup X.K n t):=by
 intro pins s σ H v u Q I r hw
 obtain⟨a,xs,e1,hq,hl,hw⟩:=hw
 subst e1
 cases r
 obtain⟨its,rv,ht,hz⟩:=I.tuple hq
 refine assign_Tuple_tuple (I.ok.hd hc) ht (by simp[hn,←hl,rv.length]) hst fun h' hx=>?_
 have I1:Inv X pins σ H { s with heap:=h' }:=I.kept (t':=s.toks) fun b o e=>hx b o (Nat.ne_of_lt (Heap.lt_size e)) e
 exact h pins _ σ H xs _ Q I1 (by simpa using rv) hw
def gSub(to ti:TE)(t:Nf):TG:=fun v σ H Q=>to σ H fun o H1=>ti σ H1 fun i H2=>t o i v H2 fun H3=>Q σ H3
theorem S9{o i:Expr}{to ti:TE}{t:Nf}(ho:PE X o to)(hi:PE X i ti)(hs:PSet X t)(ha:∀v,assign (.Subscript o i pos) X.env v=(do
   let ov ←holding [v] (eval o X.env)
   let iv ←holding [v,ov] (eval i X.env)
   standAt pos
   holding [v,ov,iv] (setItem ov iv v)
   release [v,ov,iv] []):=by intro _;rfl):PG X (.Subscript o i pos) (gSub to ti t):=by
 intro pins s σ H v u Q I r h
 rw[ha]
 refine wpAny_bind (wpAny_holding (thn (ho pins s σ H _ I h) fun ov s1 ⟨x,H1,I1,r1,q1⟩=>?_))
 refine wpAny_bind (wpAny_holding (thn (hi pins s1 σ H1 _ I1 q1) fun iv s2 ⟨y,H2,I2,r2,q2⟩=>?_))
 refine wpAny_bind (wpAny_standAt (wpAny_bind (wpAny_holding (thn (hs pins s2 σ H2 x y v ov iv u _ I2 r1 r2 r q2) fun _ s3 ⟨H3,I3,q3⟩=>?_))))
 exact wpAny_release ⟨σ,H3,I3,q3⟩
def R4(te:TE)(g:TG):TS:=fun D σ H=>te σ H fun x H1=>g x σ H1 D.nx
theorem S7{tg e:Expr}{te:TE}{g:TG}(he:PE X e te)(hg:PG X tg g)(hs:swapsWithSole [tg] e pos.line X.env=pure false:=by rfl)(hw:swappedStores [tg] e X.env=pure none:=by rfl)(h1:(assignEach [tg] X.env).map (·.2)=[assign tg X.env]:=by rfl):PS X (.Assign [tg] e pos) (R4 te g):=by
 intro pins s σ H D I h
 refine wpAny_Assign_stores (thn (he pins s σ H _ I h) fun v s1 ⟨x,H1,I1,r1,q1⟩=>?_) hs hw
 rw[h1]
 exact thn (hg pins s1 σ H1 x v _ I1 r1 q1) fun _ s2 q=>q
theorem S5{i:Nat}{x:Str}{e:Expr}{te:TE}{pos':Pos}(hN:X.N.Nodup)(hi:X.N[i]? = some x)(hx:Loc X.env.scope x)(he:PE X e te)(hs:swapsWith e (some (.Name x pos')) pos.line X.env=pure false:=by rfl)(hf:X.fn x=true∨X.env.scope.names.lookup x=some .local:=by first|exact .inl rfl|exact .inr rfl|assumption) :
  PS X (.Assign [.Name x pos'] e pos) (R4 te (Rw i)):=by
 intro pins s σ H D I h
 refine wpAny_Assign_Name (thn (he pins s σ H _ I h) fun v s1 ⟨y,H1,I1,r1,q1⟩=>?_) hs
 exact Cy I1 hN hi hx r1 (fun s2 I2=>⟨_,H1,I2,q1⟩) hf
def tPar(i j:Nat)(ta:TA):TS:=fun D σ H=>ta σ H fun vs H1=>∃v w,vs=[v,w]∧D.nx ((σ.set i (some v)).set j (some w)) H1
theorem S6{i j:Nat}{x y:Str}{a b:Expr}{ta:TA}{px py pt:Pos}{kt k2 pt2}(hc:X.calm=true)(hN:X.N.Nodup)(hi:X.N[i]? = some x)(hj:X.N[j]? = some y)(hij:i≠j)(hx:X.env.scope.names.lookup x=some .local)(hy:X.env.scope.names.lookup y=some .local)(ha:PA X [a,b] ta)(hw:swappedStores [.Tuple [.Name x px,.Name y py] kt pt] (.Tuple [a,b] k2 pt2) X.env=pure (some [x,y]))(hs:swapsWithSole [.Tuple [.Name x px,.Name y py] kt pt] (.Tuple [a,b] k2 pt2) pos.line X.env=pure false:=by rfl) :
  PS X (.Assign [.Tuple [.Name x px,.Name y py] kt pt] (.Tuple [a,b] k2 pt2) pos) (tPar i j ta):=by
 intro pins s σ H D I h
 rw[exec_Assign_arm]
 refine wpAny_bind (wpAny_standAt ?_)
 rw[hs]
 refine wpAny_bind (wpAny_pure ?_)
 rw[if_neg (by decide)]
 refine wpAny_bind (Tuple_ (thn (ha _ pins s σ H _ I h) fun us s1 ⟨vs,H1,I1,r1,q1⟩=>?_))
 obtain⟨v,w,e1,q1⟩:=q1
 subst e1
 obtain⟨u1,u2,rfl,rv,rw'⟩:∃u1 u2,us=[u1,u2]∧RelV v u1∧RelV w u2:=by
  cases r1 with
  |cons p q=>
   cases q with
   |cons p' q'=>
    cases q'
    exact⟨_,_,rfl,p,p'⟩
 refine wpAny_newObj_type ?_ (by show 2≤sizeLine;decide)
 have I2:Inv X pins σ H1 { s1 with heap:=s1.heap.push { cls:=.type "tuple",data:=.seq [u1,u2].toArray } }:=I1.kept (t':=s1.toks) fun b o e=>Heap.get?_push_of_some _ e
 rw[hw]
 refine wpAny_bind (wpAny_pure ?_)
 show wpAny (model X.prog X.w) X.A (do rule "assign.swapped-stores";let items ←unpackItems (.ref s1.heap.objs.size) 2 none;assignInOrder [fun v=>bindName X.env y v,fun v=>bindName X.env x v] items.reverse;pure Flow.next) _ _ _
 refine wpAny_bind (wpAny_rule (wpAny_bind (unpackItems_tuple (items:=#[u1,u2]) (I.ok.hd hc) (IsTup.new s1.heap _) fun h' hx'=>?_)))
 have I3:=I2.kept (h':=h') (t':=s1.toks) fun b o e=>hx' b o (Nat.ne_of_lt (Heap.lt_size e)) e
 show wpAny _ _ (assignInOrder [fun v=>bindName X.env y v,fun v=>bindName X.env x v] [u2,u1] >>= fun _=>pure Flow.next) _ _ _
 refine wpAny_bind (assignInOrder_cons (wpAny_bindName (Cy I3 hN hj (.inl hy) rw' (fun s2 I4=>?_) (.inr hy))))
 refine assignInOrder_cons (wpAny_bindName (Cy I4 hN hi (.inl hx) rv (fun s3 I5=>assignInOrder_nil (wpAny_pure ?_)) (.inr hx)))
 rw[List.set_comm _ _ (Ne.symm hij)] at I5
 exact⟨_,H1,I5,q1⟩
end
section
variable{X:Cx}{pos:Pos}
end
structure It where
 go:Nat→Hp→Prop
 yld:Nat→Hp→V→Hp→Prop
 stop:Nat→Hp→Prop
def Dg(X:Cx)(pins:List (Addr×Obj))(H:Hp)(b:Addr):Prop:=
 H b=none∧b≠X.env.locals∧b ∉ X.fs∧(b∈X.ex∨X.s₀.heap.objs.size≤b)∧(∀x c,X.env.cells.lookup x=some c→c≠b)∧∀p∈X.pn++pins,p.1≠b
theorem Inv.fpOk{X:Cx}{pins:List (Addr×Obj)}{σ:St}{H H':Hp}{s:Shared}{b:Addr}(I:Inv X pins σ H s)(hb:s.heap.objs.size≤b)(hn:H' b=none):Dg X pins H' b:=by
 refine⟨hn,Nat.ne_of_gt (Nat.lt_of_lt_of_le I.lt hb),I.nofs hb,.inr (Nat.le_trans I.sz hb),fun x c e z=>?_,fun p hp z=>?_⟩
 ·obtain⟨v,q⟩:=I.cell x c e
  exact absurd (Nat.lt_of_lt_of_le q.lt (by rw[z];exact hb)) (Nat.lt_irrefl _)
 ·exact absurd (Nat.lt_of_lt_of_le (Heap.lt_size (I.pin p hp).1) (by rw[z];exact hb)) (Nat.lt_irrefl _)
structure Turn(P:Program)(w:World)(K:PySem.W.Frag)(tg:Expr)(J:It)(fp:List Addr)(it:Addr)(tn:Nat→Heap→Prop):Prop where
 mem:it∈fp
 obj:∀i h,tn i h→∀b∈fp,∃o,h.get? b=some o∧∀v,o.data≠.cell v
 keep:∀i h h',tn i h→(∀b∈fp,∀o,h.get? b=some o→h'.get? b=some o)→tn i h'
 item:∀(X:Cx),X.prog=P→X.w=w→X.K=K→X.calm=true→∀(i:Nat) (pins:List (Addr×Obj)) (s:Shared) (σ:St) (H:Hp) (E:Value→Shared→Prop),Inv X pins σ H s→(∀b∈fp,Dg X pins H b)→tn i s.heap→J.go i H→
  wpAny (model P w) X.A (pyNext (.ref it)) (fun r s1=>∃u,r=some u∧
   wpAny (model P w) X.A (letOwnedTupleGo tg (.ref it) u) (fun _ s2=>∃x H',Inv X pins σ H' s2∧RelV x u∧J.yld i H x H'∧tn (i+1) s2.heap∧∀b∈fp,H' b=none) E s1) E s
 done:∀(X:Cx),X.prog=P→X.w=w→X.K=K→X.calm=true→∀(i:Nat) (pins:List (Addr×Obj)) (s:Shared) (σ:St) (H:Hp) (E:Value→Shared→Prop),Inv X pins σ H s→(∀b∈fp,Dg X pins H b)→tn i s.heap→J.stop i H→
  wpAny (model P w) X.A (pyNext (.ref it)) (fun r s1=>r=none∧Inv X pins σ H s1) E s
 self:∀(A:Around) (i:Nat) (s:Shared) (Q:Value→Shared→Prop) (E:Value→Shared→Prop),tn i s.heap→Q (.ref it) s→wpAny (model P w) A (pyIter (.ref it)) Q E s
abbrev TI:=St→Hp→(It→Hp→Prop)→Prop
def PIE(X:Cx)(pins:List (Addr×Obj))(σ:St)(tg:Expr)(R:It→Hp→Prop)(itv:Value)(s2:Shared):Prop:=
 ∃(it:Addr) (fp:List Addr) (tn:Nat→Heap→Prop) (J:It) (H':Hp),itv=.ref it∧Inv X pins σ H' s2∧Turn X.prog X.w X.K tg J fp it tn∧tn 0 s2.heap∧(∀b∈fp,Dg X pins H' b)∧R J H'
def PI(X:Cx)(tg iter:Expr)(wi:TI):Prop:=
 ∀(pins:List (Addr×Obj)) (s:Shared) (σ:St) (H:Hp) (R:It→Hp→Prop),Inv X pins σ H s→wi σ H R→
  wpAny (model X.prog X.w) X.A (eval iter X.env) (fun v s1=>wpAny (model X.prog X.w) X.A (pyIter v) (PIE X pins σ tg R) X.xe s1) X.xe s

theorem No {M:Model} {A:Around} {E:Value→Shared→Prop} {s:Shared} {tg:Expr} {it:Addr} {u:Value} {o:Obj} {n:String} {vs:Array Value} {Q:Unit→Shared→Prop} (ho:s.heap.get? it=some o) (hc:o.cls=.type n) (hd:o.data=.fields vs)
    (hn:["enumerate", "zip", "dict_itemiterator", "dict_reverseitemiterator", "odict_iterator", "itertools.zip_longest", "itertools.pairwise"].contains n=false) (hQ:Q () s):wpAny M A (letOwnedTupleGo tg (.ref it) u) Q E s:=by
  unfold letOwnedTupleGo
  cases tg<;>first
    | exact wpAny_pure hQ
    | (cases u<;>first
        | exact wpAny_pure hQ
        | (refine wpAny_bind (wpAny_load ho ?_)
           rw [hc,hd]
           show wpAny M A (if (["enumerate", "zip", "dict_itemiterator", "dict_reverseitemiterator", "odict_iterator", "itertools.zip_longest", "itertools.pairwise"].contains n&&vs[0]? == some (rawInt _))=true then _ else _) Q E s
           rw [if_neg (by intro h;rw [hn,Bool.false_and] at h;cases h)]
           exact wpAny_pure hQ))

def Itl(K:PySem.W.Frag)(a:Addr):It:=
 ⟨fun i H=>∃xs x,SqL K H a xs∧xs[i]? = some x,fun i H x H'=>H'=H∧∀xs,SqL K H a xs→xs[i]? = some x,fun i H=>∃xs,SqL K H a xs∧xs.length≤i⟩
def Itt(K:PySem.W.Frag)(a:Addr):It:=
 ⟨fun i H=>∃xs x,SqT K H a xs∧xs[i]? = some x,fun i H x H'=>H'=H∧∀xs,SqT K H a xs→xs[i]? = some x,fun i H=>∃xs,SqT K H a xs∧xs.length≤i⟩
def Itr(lo:Int)(n:Nat):It:=⟨fun i _=>i<n,fun i H x H'=>H'=H∧x=.int (lo+i),fun i _=>n≤i⟩
theorem L5{P:Program}{w:World}{K:W.Frag}{tg:Expr}(a it:Addr):Turn P w K tg (Itl K a) [it] it (fun i h=>h.IsListIter it a i) where
 mem:=by simp
 obj:=fun i h st b hb=>by
  have e:b=it:=by simpa using hb
  subst e
  obtain⟨o,e,c,d⟩:=st
  exact⟨o,e,fun v z=>by rw[d] at z;cases z⟩
 keep:=fun i h h' st k=>st.at fun o e=>k it (by simp) o e
 item:=by
  intro X hP hw hK hc i pins s σ H E I hf st hg
  subst hP hw hK
  obtain⟨xs,x,hq,hx⟩:=hg
  obtain⟨its,rv,p,hz⟩:=I.list hq
  obtain⟨u,hu,ru⟩:=rv.get hx
  obtain⟨f0,f1,f2,f3,f4,f5⟩:=hf it (by simp)
  refine wpAny_pyNext_list_item st p.isList (x:=u) (by simpa using hu) fun h' st' sb=>?_
  have I1:Inv X pins σ H { s with heap:=h' }:=I.turned (t':=s.toks) (fun b o hb e=>(sb.2 b hb).trans e) f0 f1 f3 f4 f5
  obtain⟨o,e,c,d⟩:=id st'
  exact⟨u,rfl,No (s:={ s with heap:=h' }) e c d (by decide) ⟨x,H,I1,ru,⟨rfl,fun ys hy=>by rw[I.list_inj hy hq];exact hx⟩,st',fun b hb=>(hf b hb).1⟩⟩
 done:=by
  intro X hP hw hK hc i pins s σ H E I hf st hg
  subst hP hw hK
  obtain⟨xs,hq,hx⟩:=hg
  obtain⟨its,rv,p,hz⟩:=I.list hq
  obtain⟨f0,f1,f2,f3,f4,f5⟩:=hf it (by simp)
  have hl:=rv.length
  exact wpAny_pyNext_list_end (I.ok.hd hc) st p.isList (by simp;omega) fun h' eb=>⟨rfl,I.turned (t':=s.toks) (fun b o hb e=>eb b o hb e) f0 f1 f3 f4 f5⟩
 self:=fun _ _ _ _ _ st h=>wpAny_pyIter_listiter st h
theorem Ki{P:Program}{w:World}{K:W.Frag}{tg:Expr}(a it:Addr):Turn P w K tg (Itt K a) [it] it (fun i h=>h.IsTupleIter it a i) where
 mem:=by simp
 obj:=fun i h st b hb=>by
  have e:b=it:=by simpa using hb
  subst e
  obtain⟨o,e,c,d⟩:=st
  exact⟨o,e,fun v z=>by rw[d] at z;cases z⟩
 keep:=fun i h h' st k=>st.at fun o e=>k it (by simp) o e
 item:=by
  intro X hP hw hK hc i pins s σ H E I hf st hg
  subst hP hw hK
  obtain⟨xs,x,hq,hx⟩:=hg
  obtain⟨its,rv,p,hz⟩:=I.tuple hq
  obtain⟨u,hu,ru⟩:=rv.get hx
  obtain⟨f0,f1,f2,f3,f4,f5⟩:=hf it (by simp)
  refine wpAny_pyNext_tuple_item st (show s.heap.IsTuple a its.toArray from p) (x:=u) (by simpa using hu) fun h' st' sb=>?_
  have I1:Inv X pins σ H { s with heap:=h' }:=I.turned (t':=s.toks) (fun b o hb e=>(sb.2 b hb).trans e) f0 f1 f3 f4 f5
  obtain⟨o,e,c,d⟩:=id st'
  exact⟨u,rfl,No (s:={ s with heap:=h' }) e c d (by decide) ⟨x,H,I1,ru,⟨rfl,fun ys hy=>by rw[I.tuple_inj hy hq];exact hx⟩,st',fun b hb=>(hf b hb).1⟩⟩
 done:=by
  intro X hP hw hK hc i pins s σ H E I hf st hg
  subst hP hw hK
  obtain⟨xs,hq,hx⟩:=hg
  obtain⟨its,rv,p,hz⟩:=I.tuple hq
  obtain⟨f0,f1,f2,f3,f4,f5⟩:=hf it (by simp)
  have hl:=rv.length
  exact wpAny_pyNext_tuple_end (I.ok.hd hc) st (show s.heap.IsTuple a its.toArray from p) (by simp;omega) fun h' eb=>⟨rfl,I.turned (t':=s.toks) (fun b o hb e=>eb b o hb e) f0 f1 f3 f4 f5⟩
 self:=fun _ _ _ _ _ st h=>wpAny_pyIter_tupleiter st h
theorem Kj{P:Program}{w:World}{K:W.Frag}{tg:Expr}(it:Addr)(lo:Int)(n:Nat):Turn P w K tg (Itr lo n) [it] it (fun i h=>IsRangeIter h it (lo+(i:Nat)*1) ((n:Int)-(i:Nat)) 1) where
 mem:=by simp
 obj:=fun i h st b hb=>by
  have e:b=it:=by simpa using hb
  subst e
  exact⟨_,st,fun v z=>by
   have z':Data.fields _=Data.cell v:=z
   cases z'⟩
 keep:=fun i h h' st k=>k it (by simp) _ st
 item:=by
  intro X hP hw hK hc i pins s σ H E I hf st hg
  subst hP hw hK
  obtain⟨f0,f1,f2,f3,f4,f5⟩:=hf it (by simp)
  have W:=Walks.range (prog:=X.prog) (w:=X.w) (I.ok.hd hc) it lo 1 n
  refine W.item i s _ _ hg st fun v h' tk hv st' kk=>?_
  obtain⟨t,rfl⟩:=hv
  have I1:Inv X pins σ H { s with heap:=h',toks:=tk }:=I.turned (fun b o hb e=>kk b o (by simpa using hb) e) f0 f1 f3 f4 f5
  refine⟨_,rfl,No (s:={ s with heap:=h',toks:=tk }) (n:="range_iterator") st' rfl rfl (by decide) ⟨.int (lo+i),H,I1,⟨t,?_⟩,⟨rfl,rfl⟩,st',fun b hb=>(hf b hb).1⟩⟩
  rw[Int.mul_one]
 done:=by
  intro X hP hw hK hc i pins s σ H E I hf st hg
  subst hP hw hK
  obtain⟨f0,f1,f2,f3,f4,f5⟩:=hf it (by simp)
  exact wpAny_pyNext_range_end (I.ok.hd hc) st (by have:n≤i:=hg;omega) fun h' eb=>⟨rfl,I.turned (t':=s.toks) (fun b o hb e=>eb b o hb e) f0 f1 f3 f4 f5⟩
 self:=fun _ _ _ _ _ st h=>wpAny_pyIter_rangeiter st h
end L2
namespace L2
open PySem PySem.Spec PyProof.Rows
section
variable{X:Cx}{tg:Expr}
theorem Ou{pins:List (Addr×Obj)}{σ:St}{H:Hp}{s:Shared}{R:It→Hp→Prop}{E:Value→Shared→Prop}{lo hi:Int}{t u v:Tok}{tk:Nat}(I:Inv X pins σ H s)(h1 : -(2 ^ 62)≤lo)(h2:lo<2 ^ 62)(h3 : -(2 ^ 62)≤hi)(h4:hi<2 ^ 62)(q:R (Itr lo (hi-lo).toNat) H):wpAny (model X.prog X.w) X.A (pyIter (.ref s.heap.objs.size)) (PIE X pins σ tg R) E { s with heap:=s.heap.push { cls:=.type "range",data:=.fields #[.int lo t,.int hi u,.int 1 v] },toks:=tk }:=by
 refine wpAny_pyIter_range (IsRange.new ..) (small_one h1 h2 h3 h4) ?_
 have I1:Inv X pins σ H { s with heap:=s.heap.push { cls:=.type "range",data:=.fields #[.int lo t,.int hi u,.int 1 v] },toks:=tk }:=I.kept fun b o e=>Heap.get?_push_of_some _ e
 refine⟨(s.heap.push { cls:=.type "range",data:=.fields #[.int lo t,.int hi u,.int 1 v] }).objs.size,[(s.heap.push { cls:=.type "range",data:=.fields #[.int lo t,.int hi u,.int 1 v] }).objs.size],_,_,H,rfl,
  I1.kept (t':=tk) fun b o e=>Heap.get?_push_of_some _ e,Kj _ lo (hi-lo).toNat,?_,fun b hb=>?_,q⟩
 ·have e1:lo+((0:Nat):Int)*1=lo:=by simp
  have e2:(((hi-lo).toNat:Nat):Int)-((0:Nat):Int)=Builtin.Range.rangeSize lo hi 1:=by rw[rangeSize_one];split<;>omega
  show IsRangeIter _ _ (lo+((0:Nat):Int)*1) ((((hi-lo).toNat:Nat):Int)-((0:Nat):Int)) 1
  rw[e1,e2]
  exact Heap.get?_push_size _ rfl
 ·have e:b=(s.heap.push { cls:=.type "range",data:=.fields #[.int lo t,.int hi u,.int 1 v] }).objs.size:=by simpa using hb
  subst e
  exact I1.fpOk (Nat.le_refl _) (I1.hok.fresh (Nat.le_refl _))
def Vq(ta:TA):TI:=fun σ H R=>ta σ H fun vs H1=>∃j:Int,vs=[.int j]∧-(2 ^ 62)≤j∧j<2 ^ 62∧R (Itr 0 j.toNat) H1
theorem Gi{a:Expr}{ta:TA}{p pos:Pos}(hg:Gl X "range")(hm:X.mg "range" = none)(ha:PA X [a] ta)(hs:starEach [a] X.env=[(false,eval a X.env)]:=by rfl):PI X tg (.Call (.Name "range" p) [a] [] pos) (Vq ta):=by
 intro pins s σ H R I h
 refine Call_ (Hc I hg hm boot_range (PyProof.Rows.callWith_type1 (thn (ha pos pins s σ H _ I h) fun us s1 ⟨vs,H1,I1,r1,q1⟩=>?_) hs rfl))
 obtain⟨j,e,q1,q2,q⟩:=q1
 subst e
 cases r1 with
 |cons r rr=>
  cases rr
  obtain⟨t,rfl⟩:=r
  exact call_range_1 (Ou I1 (by omega) (by omega) q1 q2 (by simpa using q))
def tFor(wi:TI)(g:TG)(tb:TS):TS:=fun D σ H=>wi σ H fun J H1=>∃W:Nat→Nat→St→Hp→Prop,(∃m,W 0 m σ H1)∧∀i m σ H,W i m σ H→
 (J.stop i H∧D.nx σ H)∨(J.go i H∧∃N:St→Hp→Prop,(∀σ' H',N σ' H'→∃m',m'<m∧W (i+1) m' σ' H')∧∀x H',J.yld i H x H'→g x σ H' fun σ2 H2=>tb { D with nx:=N,ct:=N,bk:=D.nx } σ2 H2)
def Cv(fp:List Addr)(h:Heap):List (Addr×Obj):=fp.filterMap fun b=>(h.get? b).map fun o=>(b,o)
theorem Bt{fp:List Addr}{h:Heap}{b:Addr}{o:Obj}(hb:b∈fp)(e:h.get? b=some o):(b,o)∈Cv fp h:=List.mem_filterMap.mpr ⟨b,hb,by rw[e];rfl⟩
theorem Mh{fp:List Addr}{h:Heap}{p:Addr×Obj}(hp:p∈Cv fp h):p.1∈fp∧h.get? p.1=some p.2:=by
 obtain⟨b,hb,e⟩:=List.mem_filterMap.mp hp
 cases q:h.get? b with
 |none=>rw[q] at e;cases e
 |some o=>
  rw[q] at e
  have e':(b,o)=p:=Option.some.inj e
  subst e'
  exact⟨hb,q⟩
theorem Inv.pinned{pins:List (Addr×Obj)}{σ:St}{H:Hp}{s:Shared}{fp:List Addr}(I:Inv X pins σ H s)(hf:∀b∈fp,Dg X pins H b)(ho:∀b∈fp,∃o,s.heap.get? b=some o∧∀v,o.data≠.cell v):Inv X (pins++Cv fp s.heap) σ H s:=
 I.pins_of fun p hp=>(List.mem_append.mp hp).elim (fun z=>I.pin p (List.mem_append_right _ z)) fun z=>by
  obtain⟨hb,e⟩:=Mh z
  obtain⟨f0,f1,f2,_⟩:=hf p.1 hb
  obtain⟨o,e',d⟩:=ho p.1 hb
  rw[e] at e';cases e'
  exact⟨e,f0,f1,f2,d⟩
theorem Inv.unpinned{pins pl:List (Addr×Obj)}{σ:St}{H:Hp}{s:Shared}(I:Inv X (pins++pl) σ H s):Inv X pins σ H s:=I.pins_of fun p hp=>I.pin p (List.mem_append_right _ (List.mem_append_left _ hp))
theorem Nz{iter:Expr}{body:List Stmt}{wi:TI}{g:TG}{tb:TS}{pos:Pos}(hp:PassesOwn (model X.prog X.w) X.A X.env X.xe)(hc:X.calm=true)(hi:PI X tg iter wi)(hg:PG X tg g)(hb:PSs X body tb)(hs:∀x,foldedSetIterable iter X.env x=pure x:=by intro _;rfl):PS X (.For tg iter body [] pos) (tFor wi g tb):=by
 intro pins s σ H D I h
 refine wpAny_For (thn (hi pins s σ H _ I h) fun v s1 h1=>thn h1 fun itv s2 h2=>?_) hs
 obtain⟨it,fp,tn,J,H2,e,I2,T,st2,f2,W,⟨m0,w0⟩,turn⟩:=h2
 subst e
 -- what stays true of the iterator's objects through the loop
 have stat:∀{H':Hp},(∀b∈fp,H' b=none)→∀b∈fp,Dg X pins H' b:=fun hn b hb=>⟨hn b hb,(f2 b hb).2⟩
 refine codeAny_forLoop_any (fun n s'=>∃i σ' H',Inv X pins σ' H' s'∧tn i s'.heap∧(∀b∈fp,H' b=none)∧W i n σ' H') ?_ m0 ⟨0,σ,H2,I2,st2,fun b hb=>(f2 b hb).1,w0⟩
 rintro n s3 ⟨i,σ3,H3,I3,st3,fr3,w3⟩
 rcases turn i n σ3 H3 w3 with ⟨stop,qn⟩|⟨go,N,hN,step⟩
 ·refine wpAny_passesOwn hp (thn (T.done X rfl rfl rfl hc i pins s3 σ3 H3 X.xe I3 (stat fr3) st3 stop) fun r s4 ⟨hr,I4⟩=>?_)
  subst hr
  exact wpAny_execs_nil ⟨σ3,H3,I4,qn⟩
 ·refine wpAny_passesOwn hp (thn (T.item X rfl rfl rfl hc i pins s3 σ3 H3 X.xe I3 (stat fr3) st3 go) fun r s4 ⟨u,hr,h4⟩=>?_)
  subst hr
  refine wpAny_passesOwn hp (thn h4 fun _ s5 ⟨x,H5,I5,r5,y5,st5,fr5⟩=>?_)
  have I5':=I5.pinned (stat fr5) (T.obj _ _ st5)
  refine wpAny_passesOwn hp (thn (hg _ s5 σ3 H5 x u _ I5' r5 (step x H5 y5)) fun _ s6 ⟨σ6,H6,I6,q6⟩=>?_)
  refine wpAny_passesOwn hp (thn (hb _ s6 σ6 H6 _ I6 q6) fun f s7 q7=>?_)
  have again:∀{σ7:St} {H7:Hp},Inv X (pins++Cv fp s5.heap) σ7 H7 s7→N σ7 H7→∃m,m<n∧∃i σ' H',Inv X pins σ' H' s7∧tn i s7.heap∧(∀b∈fp,H' b=none)∧W i m σ' H':=fun {σ7 H7} I7 n7=>by
   obtain⟨m',hm,w7⟩:=hN σ7 H7 n7
   refine⟨m',hm,i+1,σ7,H7,I7.unpinned,T.keep _ _ _ st5 fun b hb o e=>(I7.pin (b,o) (List.mem_append_right _ (List.mem_append_right _ (Bt hb e)))).1,fun b hb=>?_,w7⟩
   obtain⟨o,e,d⟩:=T.obj _ _ st5 b hb
   exact(I7.pin (b,o) (List.mem_append_right _ (List.mem_append_right _ (Bt hb e)))).2.1
  cases f with
  |next=>obtain⟨σ7,H7,I7,n7⟩:=q7;exact again I7 n7
  |cont=>obtain⟨σ7,H7,I7,n7⟩:=q7;exact again I7 n7
  |brk=>obtain⟨σ7,H7,I7,q7⟩:=q7;exact⟨σ7,H7,I7.unpinned,q7⟩
  |ret v=>obtain⟨x7,σ7,H7,I7,r7,q7⟩:=q7;exact⟨x7,σ7,H7,I7.unpinned,r7,q7⟩
end
end L2
namespace L2
open PySem PySem.Spec PyProof.Rows
abbrev R2:=V→V→Hp→VK→Prop
def OpR(X:Cx)(f:Value→Value→Sem Value)(r:R2):Prop:=
 ∀(pins:List (Addr×Obj)) (s:Shared) (σ:St) (H:Hp) (x y:V) (v u:Value) (Q:VK),Inv X pins σ H s→RelV x v→RelV y u→r x y H Q→
  wpAny (model X.prog X.w) X.A (f v u) (EP X pins σ Q) X.xe s
def UnR(X:Cx)(f:Value→Sem Value)(r:V→Hp→VK→Prop):Prop:=
 ∀(pins:List (Addr×Obj)) (s:Shared) (σ:St) (H:Hp) (x:V) (v:Value) (Q:VK),Inv X pins σ H s→RelV x v→r x H Q→
  wpAny (model X.prog X.w) X.A (f v) (EP X pins σ Q) X.xe s
def CallR(X:Cx)(f:Value)(r:List V→Hp→VK→Prop):Prop:=
 ∀(pins:List (Addr×Obj)) (s:Shared) (σ:St) (H:Hp) (xs:List V) (us:List Value) (Q:VK),Inv X pins σ H s→Vals xs us→r xs H Q→
  wpAny (model X.prog X.w) X.A (call f us) (EP X pins σ Q) X.xe s
def TruR(X:Cx)(r:V→Hp→(Bool→Hp→Prop)→Prop):Prop:=
 ∀(pins:List (Addr×Obj)) (s:Shared) (σ:St) (H:Hp) (x:V) (v:Value) (Q:Bool→Hp→Prop),Inv X pins σ H s→RelV x v→r x H Q→
  wpAny (model X.prog X.w) X.A (truthy v) (TP X pins σ Q) X.xe s

def tOp(r:R2)(ta tb:TE):TE:=fun σ H Q=>ta σ H fun x H1=>tb σ H1 fun y H2=>r x y H2 Q
def tUn(r:V→Hp→VK→Prop)(ta:TE):TE:=fun σ H Q=>ta σ H fun x H1=>r x H1 Q
def rI(C:Int→Int→Prop)(g:Int→Int→V):R2:=fun x y H Q=>∃i j,x=.int i∧y=.int j∧C i j∧Q (g i j) H
def rI0(g:Int→Int→V):R2:=fun x y H Q=>∃i j,x=.int i∧y=.int j∧Q (g i j) H
def rU(g:Int→V):V→Hp→VK→Prop:=fun x H Q=>∃i,x=.int i∧Q (g i) H

section
variable{X:Cx}{a b c:Expr}{ta tb tc:TE}{pos:Pos}
theorem R9(ha:PE X a ta)(hb:PE X b tb){pins:List (Addr×Obj)}{s:Shared}{σ:St}{H:Hp}{R:V→V→Hp→Prop}(I:Inv X pins σ H s)(h:ta σ H fun x H1=>tb σ H1 fun y H2=>R x y H2){Q:Value→Shared→Prop}{f:Value→Value→Sem Value}(hf:∀v u s2 x y H2,Inv X pins σ H2 s2→RelV x v→RelV y u→R x y H2→wpAny (model X.prog X.w) X.A (f v u) Q X.xe s2) :
  wpAny (model X.prog X.w) X.A (eval a X.env) (fun v s₁=>wpAny (model X.prog X.w) X.A (eval b X.env) (fun u s₂=>wpAny (model X.prog X.w) X.A (f v u) Q X.xe s₂) X.xe s₁) X.xe s:=by
 refine thn (ha pins s σ H _ I h) fun v s1 ⟨x,H1,I1,r1,q1⟩=>?_
 refine thn (hb pins s1 σ H1 _ I1 q1) fun u s2 ⟨y,H2,I2,r2,q2⟩=>?_
 exact hf v u s2 x y H2 I2 r1 r2 q2

theorem Vf{op:Operator}{r:R2}(ho:OpR X (binaryOp op) r)(ha:PE X a ta)(hb:PE X b tb):PE X (.BinOp a op b pos) (tOp r ta tb):=by
 intro pins s σ H Q I h
 exact wpAny_BinOp (R9 ha hb I h fun v u s2 x y H2 I2 rx ry q=>ho pins s2 σ H2 x y v u Q I2 rx ry q)
theorem Ve{op:UnaryOp}{r:V→Hp→VK→Prop}(ho:UnR X (unaryOp op) r)(ha:PE X a ta):PE X (.UnaryOp op a pos) (tUn r ta):=by
 intro pins s σ H Q I h
 exact UnaryOp_ (thn (ha pins s σ H _ I h) fun v s1 ⟨x,H1,I1,r1,q1⟩=>ho pins s1 σ H1 x v Q I1 r1 q1)
theorem opI{f:Value→Value→Sem Value}{C:Int→Int→Prop}{g:Int→Int→Int}(rule:∀(i j:Int) (t u:Tok) (s:Shared) (Q:Value→Shared→Prop) (E:Value→Shared→Prop),C i j→Q (.int (g i j) s.toks) { s with toks:=s.toks+1 }→wpAny (model X.prog X.w) X.A (f (.int i t) (.int j u)) Q E s) :
  OpR X f (rI C fun i j=>.int (g i j)):=by
 intro pins s σ H x y v u Q I rx ry h
 obtain⟨i,j,rfl,rfl,hc,q⟩:=h
 obtain⟨t,rfl⟩:=rx
 obtain⟨t',rfl⟩:=ry
 exact rule i j t t' s _ _ hc ⟨.int (g i j),H,I.tok _,⟨_,rfl⟩,q⟩
theorem Us{f:Value→Value→Sem Value}{g:Int→Int→Int}(rule:∀(i j:Int) (t u:Tok) (s:Shared) (Q:Value→Shared→Prop) (E:Value→Shared→Prop),Q (.int (g i j) s.toks) { s with toks:=s.toks+1 }→wpAny (model X.prog X.w) X.A (f (.int i t) (.int j u)) Q E s) :
  OpR X f (rI0 fun i j=>.int (g i j)):=by
 intro pins s σ H x y v u Q I rx ry h
 obtain⟨i,j,rfl,rfl,q⟩:=h
 obtain⟨t,rfl⟩:=rx
 obtain⟨t',rfl⟩:=ry
 exact rule i j t t' s _ _ ⟨.int (g i j),H,I.tok _,⟨_,rfl⟩,q⟩
theorem Ut{f:Value→Value→Sem Value}{g:Int→Int→Bool}(rule:∀(i j:Int) (t u:Tok) (s:Shared) (Q:Value→Shared→Prop) (E:Value→Shared→Prop),Q (.bool (g i j)) s→wpAny (model X.prog X.w) X.A (f (.int i t) (.int j u)) Q E s) :
  OpR X f (rI0 fun i j=>.bl (g i j)):=by
 intro pins s σ H x y v u Q I rx ry h
 obtain⟨i,j,rfl,rfl,q⟩:=h
 obtain⟨t,rfl⟩:=rx
 obtain⟨t',rfl⟩:=ry
 exact rule i j t t' s _ _ ⟨.bl (g i j),H,I,rfl,q⟩

def J1(i j:Int):Prop:=0<j∧j<1073741824
def Qa(i j:Int):Prop:=0≤j∧j≤1000000∧i.natAbs<2 ^ 64
def CMul(i j:Int):Prop:=(-(2 ^ 64)<i∧i<2 ^ 64)∨(-(2 ^ 64)<j∧j<2 ^ 64)
theorem CMul.ok{i j:Int}(h:CMul i j):IntMulOk i j:=by
 rcases h with ⟨h1,h2⟩|⟨h1,h2⟩
 ·exact .of_left (intBits_le_64 h1 h2)
 ·exact .of_right (intBits_le_64 h1 h2)
theorem Tq:OpR X (binaryOp .Add) (rI0 fun i j=>.int (i+j)):=Us fun _ _ _ _ _ _ _ q=>add_int q
theorem Ti:OpR X (binaryOp .Sub) (rI0 fun i j=>.int (i-j)):=Us fun _ _ _ _ _ _ _ q=>sub_int q
theorem Tl:OpR X (binaryOp .Mult) (rI CMul fun i j=>.int (i*j)):=opI fun _ _ _ _ _ _ _ hc q=>mul_int q hc.ok
theorem Qt:OpR X (binaryOp .FloorDiv) (rI J1 fun i j=>.int (i / j)):=opI fun i j _ _ _ _ _ hc q=>by
 have h1:(0:Int)<j:=hc.1
 have h2:j<1073741824:=hc.2
 exact floordiv_int (by omega) (by rw[Int.fdiv_eq_ediv_of_nonneg i (by omega)];exact q) (.inl (PyProof.noPylong_small (by omega)))
theorem To:OpR X (binaryOp .Mod) (rI (fun _ j=>0<j) fun i j=>.int (i % j)):=opI fun i j _ _ _ _ _ hc q=>by
 have h1:(0:Int)<j:=hc
 exact mod_int' (by omega) (by rw[Int.fmod_eq_emod_of_nonneg i (by omega)];exact q)
theorem Tk:OpR X (binaryOp .Pow) (rI Qa fun i j=>.int (i ^ j.toNat)):=opI fun _ _ _ _ _ _ _ hc q=>pow_int_small hc.1 hc.2.1 hc.2.2 q
theorem unI{f:Value→Sem Value}{g:Int→Int}(rule:∀(i:Int) (t:Tok) (s:Shared) (Q:Value→Shared→Prop) (E:Value→Shared→Prop),Q (.int (g i) s.toks) { s with toks:=s.toks+1 }→wpAny (model X.prog X.w) X.A (f (.int i t)) Q E s) :
  UnR X f (rU fun i=>.int (g i)):=by
 intro pins s σ H x v Q I rx h
 obtain⟨i,rfl,q⟩:=h
 obtain⟨t,rfl⟩:=rx
 exact rule i t s _ _ ⟨.int (g i),H,I.tok _,⟨_,rfl⟩,q⟩
theorem Sd:UnR X (unaryOp .USub) (rU fun i=>.int (-i)):=unI fun _ _ _ _ _ q=>neg_int q
end
def R5:V→V→Bool
 |.non,.non=>true|.non,.int _=>true|.int _,.non=>true|.non,.bl _=>true|.bl _,.non=>true|.non,.str _=>true|.str _,.non=>true
 |.int _,.int _=>true|.bl _,.bl _=>true|.str _,.str _=>true|.byt _,.byt _=>true
 |.int _,.str _=>true|.str _,.int _=>true|.bl _,.str _=>true|.str _,.bl _=>true
 |_,_=>false
def rEq:R2:=fun x y H Q=>R5 x y=true∧Q (.bl (decide (x=y))) H
def rNe:R2:=fun x y H Q=>R5 x y=true∧Q (.bl (!decide (x=y))) H

theorem Lr{i j:Int}:decide (V.int i=V.int j)=(i == j):=by
 rw[Bool.eq_iff_iff]
 simp
theorem Od{i j:Bool}:decide (V.bl i=V.bl j)=(i == j):=by
 rw[Bool.eq_iff_iff]
 simp
theorem Lq{i j:Str}:decide (V.str i=V.str j)=(i == j):=by
 rw[Bool.eq_iff_iff]
 simp
theorem Ls{i j:Array UInt8}:decide (V.byt i=V.byt j)=(i.toList == j.toList):=by
 rw[Bool.eq_iff_iff]
 cases i
 cases j
 simp

section
variable{X:Cx}{a b c:Expr}{ta tb tc:TE}{pos:Pos}
theorem An{pins:List (Addr×Obj)}{σ:St}{H:Hp}{s:Shared}{Q:VK}{k k':Bool}(I:Inv X pins σ H s)(q:Q (.bl k) H)(e:k=k'):EP X pins σ Q (.bool k') s:=by
 subst e
 exact⟨.bl k,H,I,rfl,q⟩
theorem Vl:OpR X (compareOp .Eq) rEq:=by
 intro pins s σ H x y v u Q I rx ry h
 obtain⟨hs,q⟩:=h
 cases x with
 |non=>
  cases rx
  cases y with
  |non=>cases ry;exact PySem.EqNone.eq_none_none (An I q (by simp))
  |bl j=>cases ry;exact PySem.EqNone.eq_none_bool (An I q (by simp))
  |int j=>obtain⟨t',rfl⟩:=ry;exact PySem.EqNone.eq_none_int (An I q (by simp))
  |str j=>obtain⟨t',rfl⟩:=ry;exact PySem.EqNone.eq_none_str (An I q (by simp))
  |_=>exact absurd (show false=true from hs) Bool.false_ne_true
 |bl i=>
  cases rx
  cases y with
  |non=>cases ry;exact PySem.EqNone.eq_bool_none (An I q (by simp))
  |bl j=>cases ry;exact eq_bool (An I q Od)
  |str j=>obtain⟨t',rfl⟩:=ry;exact PySem.EqMixed.eq_bool_str (An I q (by simp))
  |_=>exact absurd (show false=true from hs) Bool.false_ne_true
 |int i=>
  obtain⟨t,rfl⟩:=rx
  cases y with
  |non=>cases ry;exact PySem.EqNone.eq_int_none (An I q (by simp))
  |int j=>obtain⟨t',rfl⟩:=ry;exact eq_int (An I q Lr)
  |str j=>obtain⟨t',rfl⟩:=ry;exact PySem.EqMixed.eq_int_str (An I q (by simp))
  |_=>exact absurd (show false=true from hs) Bool.false_ne_true
 |str i=>
  obtain⟨t,rfl⟩:=rx
  cases y with
  |non=>cases ry;exact PySem.EqNone.eq_str_none (An I q (by simp))
  |bl j=>cases ry;exact PySem.EqMixed.eq_str_bool (An I q (by simp))
  |int j=>obtain⟨t',rfl⟩:=ry;exact PySem.EqMixed.eq_str_int (An I q (by simp))
  |str j=>obtain⟨t',rfl⟩:=ry;exact eq_str (An I q Lq)
  |_=>exact absurd (show false=true from hs) Bool.false_ne_true
 |byt i=>
  obtain⟨t,rfl⟩:=rx
  cases y with
  |byt j=>obtain⟨t',rfl⟩:=ry;exact PySem.W.eq_bytes (An I q Ls)
  |_=>exact absurd (show false=true from hs) Bool.false_ne_true
 |_=>cases y<;>exact absurd (show false=true from hs) Bool.false_ne_true
theorem Vi:OpR X (compareOp .NotEq) rNe:=by
 intro pins s σ H x y v u Q I rx ry h
 obtain⟨hs,q⟩:=h
 cases x with
 |non=>
  cases rx
  cases y with
  |non=>cases ry;exact PySem.EqNone.ne_none_none (An I q (by simp))
  |bl j=>cases ry;exact PySem.EqNone.ne_none_bool (An I q (by simp))
  |int j=>obtain⟨t',rfl⟩:=ry;exact PySem.EqNone.ne_none_int (An I q (by simp))
  |str j=>obtain⟨t',rfl⟩:=ry;exact PySem.EqNone.ne_none_str (An I q (by simp))
  |_=>exact absurd (show false=true from hs) Bool.false_ne_true
 |bl i=>
  cases rx
  cases y with
  |non=>cases ry;exact PySem.EqNone.ne_bool_none (An I q (by simp))
  |bl j=>cases ry;exact ne_bool (An I q (congrArg not Od))
  |str j=>obtain⟨t',rfl⟩:=ry;exact PySem.EqMixed.ne_bool_str (An I q (by simp))
  |_=>exact absurd (show false=true from hs) Bool.false_ne_true
 |int i=>
  obtain⟨t,rfl⟩:=rx
  cases y with
  |non=>cases ry;exact PySem.EqNone.ne_int_none (An I q (by simp))
  |int j=>obtain⟨t',rfl⟩:=ry;exact ne_int (An I q (congrArg not Lr))
  |str j=>obtain⟨t',rfl⟩:=ry;exact PySem.EqMixed.ne_int_str (An I q (by simp))
  |_=>exact absurd (show false=true from hs) Bool.false_ne_true
 |str i=>
  obtain⟨t,rfl⟩:=rx
  cases y with
  |non=>cases ry;exact PySem.EqNone.ne_str_none (An I q (by simp))
  |bl j=>cases ry;exact PySem.EqMixed.ne_str_bool (An I q (by simp))
  |int j=>obtain⟨t',rfl⟩:=ry;exact PySem.EqMixed.ne_str_int (An I q (by simp))
  |str j=>obtain⟨t',rfl⟩:=ry;exact ne_str (An I q (congrArg not Lq))
  |_=>exact absurd (show false=true from hs) Bool.false_ne_true
 |byt i=>
  obtain⟨t,rfl⟩:=rx
  cases y with
  |byt j=>obtain⟨t',rfl⟩:=ry;exact PySem.W.ne_bytes (An I q (congrArg not Ls))
  |_=>exact absurd (show false=true from hs) Bool.false_ne_true
 |_=>cases y<;>exact absurd (show false=true from hs) Bool.false_ne_true

theorem Vj:OpR X (compareOp .Lt) (rI0 fun i j=>.bl (decide (i<j))):=Ut fun _ _ _ _ _ _ _ q=>lt_int q
theorem Vk:OpR X (compareOp .LtE) (rI0 fun i j=>.bl (decide (i≤j))):=Ut fun _ _ _ _ _ _ _ q=>le_int q
theorem nomark(b:Expr){op:CmpOp}(h:op≠.In:=by decide)(h2:op≠.NotIn:=by decide):behindInMarks op b=false:=by
 have e1:(op == CmpOp.In)=false:=by cases op<;>first|rfl|exact absurd rfl h
 have e2:(op == CmpOp.NotIn)=false:=by cases op<;>first|rfl|exact absurd rfl h2
 cases b<;>simp[behindInMarks,e1,e2]
theorem Qp{op:CmpOp}{r:R2}(ho:OpR X (compareOp op) r)(ha:PE X a ta)(hb:PE X b tb)(hm:behindInMarks op b=false):PE X (.Compare a [op] [b] pos) (tOp r ta tb):=by
 intro pins s σ H Q I h
 exact wpAny_Compare1 (R9 ha hb I h fun v u s2 x y H2 I2 rx ry q=>ho pins s2 σ H2 x y v u Q I2 rx ry q) hm
def Ro(t:TE):TT:=fun σ H Q=>t σ H fun x H'=>∃k,x=.bl k∧Q k H'
theorem Qm{op:CmpOp}{r:R2}(ho:OpR X (compareOp op) r)(ha:PE X a ta)(hb:PE X b tb)(hm:behindInMarks op b=false):PT X (.Compare a [op] [b] pos) (Ro (tOp r ta tb)):=by
 intro pins s σ H Q I h
 refine wpAny_isTrue_Compare1 (thn (ha pins s σ H _ I h) fun v s1 ⟨x,H1,I1,r1,q1⟩=>thn (hb pins s1 σ H1 _ I1 q1) fun u s2 ⟨y,H2,I2,r2,q2⟩=>
  thn (ho pins s2 σ H2 x y v u _ I2 r1 r2 q2) fun c s3 ⟨z,H3,I3,r3,k,e,q3⟩=>?_) hm
 subst e
 cases r3
 exact wpAny_truthy_bool ⟨H3,I3,q3⟩
def J2(r r':R2)(ta tb tc:TE):TE:=fun σ H Q=>ta σ H fun x H1=>tb σ H1 fun y H2=>r x y H2 fun z H3=>∃k,z=.bl k∧
 (if k=true then tc σ H3 fun w' H4=>r' y w' H4 Q else Q (.bl false) H3)
theorem O5{op op':CmpOp}{r r':R2}(ho:OpR X (compareOp op) r)(ho':OpR X (compareOp op') r')(ha:PE X a ta)(hb:PE X b tb)(hc:PE X c tc)(hm:lastMarks [op,op'] [b,c]=false:=by with_unfolding_all rfl):PE X (.Compare a [op,op'] [b,c] pos) (J2 r r' ta tb tc):=by
 intro pins s σ H Q I h
 refine Compare_chain (thn (ha pins s σ H _ I h) fun v s1 ⟨x,H1,I1,r1,q1⟩=>chain_link (thn (hb pins s1 σ H1 _ I1 q1) fun u s2 ⟨y,H2,I2,r2,q2⟩=>
  thn (ho pins s2 σ H2 x y v u _ I2 r1 r2 q2) fun d s3 ⟨z,H3,I3,r3,k,e,q3⟩=>?_)) hm
 subst e
 cases r3
 refine wpAny_truthy_bool ?_
 cases k with
 |false=>exact ite_ff ⟨.bl false,H3,I3,rfl,q3⟩
 |true=>exact ite_tt (chain_last (thn (hc pins s3 σ H3 _ I3 q3) fun w' s4 ⟨z',H4,I4,r4,q4⟩=>ho' pins s4 σ H4 y z' u w' Q I4 r2 r4 q4))
theorem Oy{op op':CmpOp}{r r':R2}(ho:OpR X (compareOp op) r)(ho':OpR X (compareOp op') r')(ha:PE X a ta)(hb:PE X b tb)(hc:PE X c tc)(hm:lastMarks [op,op'] [b,c]=false:=by with_unfolding_all rfl):PT X (.Compare a [op,op'] [b,c] pos) (Ro (J2 r r' ta tb tc)):=by
 intro pins s σ H Q I h
 refine isTrue_chain (thn (ha pins s σ H _ I h) fun v s1 ⟨x,H1,I1,r1,q1⟩=>test_link (thn (hb pins s1 σ H1 _ I1 q1) fun u s2 ⟨y,H2,I2,r2,q2⟩=>
  thn (ho pins s2 σ H2 x y v u _ I2 r1 r2 q2) fun d s3 ⟨z,H3,I3,r3,k,e,q3⟩=>?_)) hm
 subst e
 cases r3
 refine wpAny_truthy_bool ?_
 cases k with
 |false=>
  obtain⟨k',e',q'⟩:=q3
  cases e'
  exact ite_ff ⟨H3,I3,q'⟩
 |true=>
  refine ite_tt (test_last (thn (hc pins s3 σ H3 _ I3 q3) fun w' s4 ⟨z',H4,I4,r4,q4⟩=>thn (ho' pins s4 σ H4 y z' u w' _ I4 r2 r4 q4) fun d' s5 ⟨z2,H5,I5,r5,k2,e2,q5⟩=>?_))
  subst e2
  cases r5
  exact wpAny_truthy_bool ⟨H5,I5,q5⟩

def Sb(K:PySem.W.Frag)(x:V)(H:Hp)(k:Bool):Prop:=
 match x with
 |.non=>k=false
 |.bl b=>k=b
 |.int i=>k=(i != 0)
 |.str y=>y.length≤sizeLine∧k=((y.length:Int) != 0)
 |.byt y=>y.size≤sizeLine∧k=((y.size:Int) != 0)
 |.ref p=>(∃xs,SqL K H p xs∧k = !xs.isEmpty)∨(∃xs,SqT K H p xs∧k = !xs.isEmpty)∨∃kvs,H p=some (.dK kvs)∧k = !kvs.isEmpty
 |_=>False
theorem Ku{κ:Type}{kvs:List (κ×V)}{vs:List (κ×Value)}(r:KV kvs vs):(!vs.isEmpty) = !kvs.isEmpty:=by
 cases r<;>rfl
theorem Fy{xs:List V}{its:List Value}(r:Vals xs its):(!its.toArray.isEmpty) = !xs.isEmpty:=by
 cases r<;>simp
theorem D9:(sizeLine:Nat)<2 ^ 63:=by rw[sizeLine_eq];decide
theorem Si:TruR X (fun x H Q=>∃k,Sb X.K x H k∧Q k H):=by
 intro pins s σ H x v Q I rx h
 obtain⟨k,e,q⟩:=h
 have hl:=D9
 have hs:sizeLine=16777216:=sizeLine_eq
 cases x with
 |non=>
  cases rx
  have e':k=false:=e
  subst e'
  exact truthy_none ⟨H,I,q⟩
 |bl b=>
  cases rx
  have e':k=b:=e
  subst e'
  exact wpAny_truthy_bool ⟨H,I,q⟩
 |int i=>
  obtain⟨t,rfl⟩:=rx
  have e':k=(i != 0):=e
  subst e'
  exact PySem.P.truthy_int ⟨H,I,q⟩
 |str y=>
  obtain⟨t,rfl⟩:=rx
  obtain⟨hy,e'⟩:y.length≤sizeLine∧k=((y.length:Int) != 0):=e
  subst e'
  exact PySem.P.truthy_str (by omega) ⟨H,I.tok _,q⟩
 |byt y=>
  obtain⟨t,rfl⟩:=rx
  obtain⟨hy,e'⟩:y.size≤sizeLine∧k=((y.size:Int) != 0):=e
  subst e'
  exact PySem.W.truthy_bytes (by omega) ⟨H,I.tok _,q⟩
 |ref p=>
  cases rx
  have e':(∃xs,SqL X.K H p xs∧k = !xs.isEmpty)∨(∃xs,SqT X.K H p xs∧k = !xs.isEmpty)∨∃kvs,H p=some (.dK kvs)∧k = !kvs.isEmpty:=e
  rcases e' with ⟨xs,hx,e'⟩|⟨xs,hx,e'⟩|⟨kvs,hx,e'⟩
  ·subst e'
   obtain⟨its,r,pl,hz⟩:=I.list hx
   have hlen:=r.length
   exact wpAny_truthy_list pl.isList (by simp only[List.size_toArray];omega) ⟨H,I.tok _,by rw[Fy r];exact q⟩
  ·subst e'
   obtain⟨its,r,pl,hz⟩:=I.tuple hx
   have hlen:=r.length
   exact truthy_tuple pl (by simp only[List.size_toArray];omega) ⟨H,I.tok _,by rw[Fy r];exact q⟩
  ·subst e'
   obtain⟨hz,hS,vs,r,m⟩:kvs.length≤sizeLine∧(p == sysModules)=false∧∃vs,KV kvs vs∧s.heap.DictOf (Bc X.prog X.w) p vs:=I.hok p _ hx
   have hlen:kvs.length=vs.length:=Paired.length r
   exact wpAny_truthy_dict hS m (by omega) ⟨H,I.tok _,by rw[Ku r];exact q⟩
 |_=>exact(show False from e).elim
theorem Ox(ha:PE X a ta)(he:∀whole,isTrue a X.env whole=(do let v ←whole;standAt a.pos;holding [v] (truthy v))) :
  PT X a (fun σ H Q=>ta σ H fun x H'=>∃k,Sb X.K x H' k∧Q k H'):=by
 intro pins s σ H Q I h
 exact isTrue_plain (thn (ha pins s σ H _ I h) fun v s1 ⟨x,H1,I1,r1,q1⟩=>Si pins s1 σ H1 x v Q I1 r1 q1) (he _)

theorem Gb{x:V}{us:List Value}(r:Vals [x] us):∃u,us=[u]∧RelV x u:=by
 cases r with
 |cons r1 r2=>cases r2;exact⟨_,rfl,r1⟩
theorem Ga{x y:V}{us:List Value}(r:Vals [x,y] us):∃u w',us=[u,w']∧RelV x u∧RelV y w':=by
 cases r with
 |cons r1 r2=>
  cases r2 with
  |cons r3 r4=>cases r4;exact⟨_,_,rfl,r1,r3⟩
theorem call_abs:CallR X (.builtin "abs") (fun xs H Q=>∃i,xs=[.int i]∧Q (.int (if i<0 then -i else i)) H):=by
 intro pins s σ H xs us Q I r h
 obtain⟨i,rfl,q⟩:=h
 obtain⟨u,rfl,t,rfl⟩:=Gb r
 exact call_abs_int fun u tk=>⟨.int (if i<0 then -i else i),H,I.tok _,⟨_,rfl⟩,q⟩
theorem M0(hc:X.calm=true):CallR X (.builtin "max") (fun xs H Q=>∃i j,xs=[.int i,.int j]∧Q (.int (if j>i then j else i)) H):=by
 intro pins s σ H xs us Q I r h
 obtain⟨i,j,rfl,q⟩:=h
 obtain⟨u,w',rfl,⟨t,rfl⟩,⟨t',rfl⟩⟩:=Ga r
 refine max_two_ints (I.ok.hd hc) fun h' tk k=>⟨_,H,I.kept k,?_,q⟩
 by_cases hj:j>i
 ·rw[if_pos hj,if_pos hj];exact⟨_,rfl⟩
 ·rw[if_neg hj,if_neg hj];exact⟨_,rfl⟩
theorem Mz(hc:X.calm=true):CallR X (.builtin "min") (fun xs H Q=>∃i j,xs=[.int i,.int j]∧Q (.int (if j<i then j else i)) H):=by
 intro pins s σ H xs us Q I r h
 obtain⟨i,j,rfl,q⟩:=h
 obtain⟨u,w',rfl,⟨t,rfl⟩,⟨t',rfl⟩⟩:=Ga r
 refine min_two_ints (I.ok.hd hc) fun h' tk k=>⟨_,H,I.kept k,?_,q⟩
 by_cases hj:j<i
 ·rw[if_pos hj,if_pos hj];exact⟨_,rfl⟩
 ·rw[if_neg hj,if_neg hj];exact⟨_,rfl⟩
def LenV(K:PySem.W.Frag)(x:V)(H:Hp)(n:Nat):Prop:=
 match x with
 |.str y=>y.length≤sizeLine∧n=y.length
 |.byt y=>y.size≤sizeLine∧n=y.size
 |.ref p=>(∃xs,SqL K H p xs∧n=xs.length)∨∃xs,SqT K H p xs∧n=xs.length
 |_=>False
theorem call_len:CallR X (.builtin "len") (fun xs H Q=>∃x n,xs=[x]∧LenV X.K x H n∧Q (.int n) H):=by
 intro pins s σ H xs us Q I r h
 obtain⟨x,n,rfl,e,q⟩:=h
 obtain⟨u,rfl,rx⟩:=Gb r
 have hl:=D9
 have hs:sizeLine=16777216:=sizeLine_eq
 cases x with
 |str y=>
  obtain⟨t,rfl⟩:=rx
  obtain⟨hy,e'⟩:y.length≤sizeLine∧n=y.length:=e
  subst e'
  exact len_str (by omega) ⟨.int _,H,I.tok _,⟨_,rfl⟩,q⟩
 |byt y=>
  obtain⟨t,rfl⟩:=rx
  obtain⟨hy,e'⟩:y.size≤sizeLine∧n=y.size:=e
  subst e'
  exact PySem.W.len_bytes (by omega) ⟨.int _,H,I.tok _,⟨_,rfl⟩,q⟩
 |ref p=>
  cases rx
  have e':(∃xs,SqL X.K H p xs∧n=xs.length)∨∃xs,SqT X.K H p xs∧n=xs.length:=e
  rcases e' with ⟨xs,hx,e'⟩|⟨xs,hx,e'⟩
  ·subst e'
   obtain⟨its,r',pl,hz⟩:=I.list hx
   have hlen:=r'.length
   exact Calls.call_len_list pl.isList (by simp only[List.size_toArray];omega) ⟨.int xs.length,H,I.tok _,⟨_,by simp only[List.size_toArray];rw[hlen]⟩,q⟩
  ·subst e'
   obtain⟨its,r',pl,hz⟩:=I.tuple hx
   have hlen:=r'.length
   exact len_tuple pl (by simp only[List.size_toArray];omega) ⟨.int xs.length,H,I.tok _,⟨_,by simp only[List.size_toArray];rw[hlen]⟩,q⟩
 |_=>exact(show False from e).elim
theorem call_divmod:CallR X (.builtin "divmod") (fun xs H Q=>∃i j,xs=[.int i,.int j]∧J1 i j∧∀p,H p=none→Q (.ref p) (upd H p (.tup [.int (i / j),.int (i % j)]))):=by
 intro pins s σ H xs us Q I r h
 obtain⟨i,j,rfl,⟨h1,h2⟩,q⟩:=h
 obtain⟨u,w',rfl,⟨t,rfl⟩,⟨t',rfl⟩⟩:=Ga r
 refine divmod_int (by omega) ?_ (.inl (PyProof.noPylong_small (by omega)))
 rw[Int.fdiv_eq_ediv_of_nonneg i (by omega),Int.fmod_eq_emod_of_nonneg i (by omega)]
 have hn:H s.heap.objs.size=none:=I.hok.fresh (Nat.le_refl _)
 refine⟨.ref s.heap.objs.size,_,?_,rfl,q _ hn⟩
 refine I.laid (fun b o e=>Heap.get?_push_of_some _ e) (Nat.le_refl _) ⟨by simp only[List.length_cons,List.length_nil];rw[sizeLine_eq];decide,[.int (i / j) s.toks,.int (i % j) (s.toks+1)],.cons ⟨_,rfl⟩ (.cons ⟨_,rfl⟩ .nil),?_⟩
 exact⟨_,Heap.get?_push_size s.heap rfl,rfl,0,rfl⟩
end
end L2
namespace L2
open PySem PySem.Spec PyProof.Rows
structure ObjM(h:Heap)(x dx C:Addr)(mA:Str→Option Value):Prop where
 obj:h.get? x=some (PySem.W.instObj C dx)
 ns:h.Ns1 dx mA
 ne:dx≠x

theorem Mm{h:Heap}{dx:Addr}{mA:Str→Option Value}(n:h.Ns1 dx mA):∃od,h.get? dx=some od∧∀name,PySem.W.lookIn name od=some (mA name):=by
 obtain⟨o,es,ep,ho,hd,hk,_,hm⟩:=n
 refine⟨o,ho,fun name=>?_⟩
 have e:=hm name
 unfold nsFind findBy at e
 rw[←Array.find?_toList] at e
 unfold PySem.W.lookIn
 rw[hd]
 dsimp only
 split
 ·rename_i y q
  rw[q] at e
  exact congrArg some e
 ·rename_i q
  rw[q] at e
  have a:es.toList.any (·.refKey)=false:=by
   rw[List.any_eq_false]
   intro y hy
   obtain⟨z,t,hkey⟩:=hk y (Array.mem_toList_iff.mp hy)
   simp[DictEntry.refKey,hkey]
  have a':¬es.toList.any (·.refKey)=true:=by rw[a];exact Bool.false_ne_true
  rw[if_neg a']
  exact congrArg some e

theorem ObjM.look{h:Heap}{x dx C:Addr}{mA:Str→Option Value}(I:ObjM h x dx C mA):∃od,PySem.W.InstAt h x (PySem.W.instObj C dx) C (some od)∧∀name,PySem.W.lookIn name od=some (mA name):=
 let ⟨od,ho,hl⟩:=Mm I.ns
 ⟨od,⟨I.obj,rfl,rfl,ho⟩,hl⟩

section
variable{prog:Program}{w:World}{A:Around}{E:Value→Shared→Prop}{s:Shared}{K:W.Frag}{x dx C f:Addr}{mA:Str→Option Value}{name:Str}{v:Value}
end
section
variable{P:Program}{w:World}{H H':Hp}{h h':Heap}{a C dx:Addr}{fs fs':List (Str×V)}
theorem ins_get(hok:HOk P w H h)(e:H a=some (.ins C dx fs)):∃mA,ObjM h a dx C mA∧(∀f,Sc (fs.lookup f) (mA f))∧PySem.Within mA (fs.map (·.1))∧fs.length≤1000∧H dx=some (.own a):=by
 obtain⟨d,z,ne,ob,mA,n,r,q⟩:=(show ObjOk P w H h a (.ins C dx fs) from hok a _ e)
 exact⟨mA,⟨ob,n,ne⟩,r,q,z,d⟩
end
structure Cls(K:PySem.W.Frag)(C:Addr):Prop where
 pg:PySem.W.plainGet K C Str.empty=true
 hd:PySem.W.hasDictIn K C=true
 po:PySem.W.plainOver K C=true
 sa:PySem.W.findIn K (.ref C) "__setattr__" = some (some (.builtin "object.__setattr__"))
theorem Cls.get{K:W.Frag}{C:Addr}(c:Cls K C)(f:Str):PySem.W.plainGet K C f=true:=c.pg
section
variable{X:Cx}{pins:List (Addr×Obj)}{σ:St}{H:Hp}{s:Shared}{a C dx:Addr}{fs:List (Str×V)}{f:Str}{v:V}{A:Around}{E:Value→Shared→Prop}
end
section
variable{X:Cx}{o e value:Expr}{f:Str}{pos pos' tpos:Pos}{ta tv:TE}
end
section
variable{X:Cx}{pins:List (Addr×Obj)}{σ:St}{H:Hp}{s:Shared}{A:Around}{E:Value→Shared→Prop}{Q:Value→Shared→Prop}{c:Value}{b:Bool}
inductive TyOf (K:PySem.W.Frag) (H:Hp):V→Value→Prop where
 |non:TyOf K H .non (.type "NoneType")
 |bl (x:Bool):TyOf K H (.bl x) (.type "bool")
 |int (i:Int):TyOf K H (.int i) (.type "int")
 |str (x:Str):TyOf K H (.str x) (.type "str")
 |flt (x:UInt64):TyOf K H (.flt x) (.type "float")
 |lst {a:Addr} {xs:List V} (e:H a=some (.lst xs)):TyOf K H (.ref a) (.type "list")
 |frz {a:Addr} {o:Obj} {xs:List V} (e:H a=some (.frz o (.lst xs))):TyOf K H (.ref a) (.type "list")
 |tup {a:Addr} {xs:List V} (e:H a=some (.tup xs)):TyOf K H (.ref a) (.type "tuple")
 |dK {a:Addr} {kvs:List (Key×V)} (e:H a=some (.dK kvs)):TyOf K H (.ref a) (.type "dict")
 |dT {a:Addr} {kvs:List (List Key×V)} (e:H a=some (.dT kvs)):TyOf K H (.ref a) (.type "dict")
 |ins {a C dx:Addr} {fs:List (Str×V)} (e:H a=some (.ins C dx fs)) (cl:Cls K C) (ha:PySem.W.findIn K (.ref C) "__class__" = some (some (.builtin "object.__class__")))
   (hn:PySem.W.specialIn K (.builtin "object.__class__") "__get__" = some (some (.builtin "getset_descriptor.__get__"))) (htk:PySem.W.takesIn K (.builtin "object.__class__")=some true)
   (hm:PySem.W.mroIn K C (.type "object")=some true):TyOf K H (.ref a) (.ref C)
theorem Mu{x:V}{u t:Value}(I:Inv X pins σ H s)(rx:RelV x u)(ty:TyOf X.K H x t)(e:PySem.W.kitOne X.K t c=some b)(h:∀tk,Q (.bool b) { s with toks:=tk }) :
  wpAny (model X.prog X.w) A (call (.builtin "isinstance") [u,c]) Q E s:=by
 cases ty with
 |non=>cases(show u=Value.none from rx);exact PySem.W.kia_one PySem.W.kitx_none I.kIn True.intro e (fun z=>nomatch z) h
 |bl y=>cases(show u=Value.bool y from rx);exact PySem.W.kia_one PySem.W.kitx_bool I.kIn True.intro e (fun z=>nomatch z) h
 |int i=>obtain⟨t,q⟩:=(show ∃t,u=Value.int i t from rx);cases q;exact PySem.W.kia_one PySem.W.kitx_int I.kIn True.intro e (fun z=>nomatch z) h
 |str y=>obtain⟨t,q⟩:=(show ∃t,u=Value.str y t from rx);cases q;exact PySem.W.kia_one PySem.W.kitx_str I.kIn True.intro e (fun z=>nomatch z) h
 |flt y=>obtain⟨t,q⟩:=(show ∃t,u=Value.float y t from rx);cases q;exact PySem.W.kia_one PySem.W.kitx_float I.kIn True.intro e (fun z=>nomatch z) h
 |@lst a xs ea=>
  cases(show u=Value.ref a from rx)
  obtain⟨_,_,n,_,h1⟩:=(show ObjOk X.prog X.w H s.heap a (.lst xs) from I.hok a _ ea)
  exact PySem.W.kia_one PySem.W.kitx_list I.kIn ⟨_,h1,rfl⟩ e (fun z=>nomatch z) h
 |@frz a ob xs ea=>
  cases(show u=Value.ref a from rx)
  obtain⟨_,_,_,n,_,h1⟩:=(show ObjOk X.prog X.w H s.heap a (.frz ob (.lst xs)) from I.hok a _ ea)
  exact PySem.W.kia_one PySem.W.kitx_list I.kIn ⟨_,h1,rfl⟩ e (fun z=>nomatch z) h
 |@tup a xs ea=>
  cases(show u=Value.ref a from rx)
  obtain⟨_,_,_,p⟩:=(show ObjOk X.prog X.w H s.heap a (.tup xs) from I.hok a _ ea)
  obtain⟨o,h1,h2,_⟩:=p
  exact PySem.W.kia_one PySem.W.kitx_tuple I.kIn ⟨o,h1,h2⟩ e (fun z=>nomatch z) h
 |@dK a kvs ea=>
  cases(show u=Value.ref a from rx)
  obtain⟨_,_,vs,_,p⟩:=(show ObjOk X.prog X.w H s.heap a (.dK kvs) from I.hok a _ ea)
  obtain⟨o,es,ep,h1,h2,_⟩:=p
  exact PySem.W.kia_one PySem.W.kitx_dict I.kIn ⟨o,h1,h2.1⟩ e (fun z=>nomatch z) h
 |@dT a kvs ea=>
  cases(show u=Value.ref a from rx)
  obtain⟨_,_,xs,_,o,es,ep,h1,h2,_⟩:=(show ObjOk X.prog X.w H s.heap a (.dT kvs) from I.hok a _ ea)
  exact PySem.W.kia_one PySem.W.kitx_dict I.kIn ⟨o,h1,h2.1⟩ e (fun z=>nomatch z) h
 |@ins a C dx fs ea cl ha hn htk hm=>
  cases(show u=Value.ref a from rx)
  obtain⟨mA,O,_⟩:=ins_get I.hok ea
  obtain⟨od,J,_⟩:=O.look
  exact PySem.W.kia_one (PySem.W.kitx_own (cl.get _) cl.hd ha hn htk hm) I.kIn J e (fun z=>nomatch z) h
end
end L2
namespace L2
open PySem PySem.Spec PyProof.Rows
structure Room(k:Nat)(A:Around):Prop where
 hd:A.handled=none
 dp:A.depth+3*k+5<recursionLimit
 un:A.units+16*k+200<cLine
 gd:A.guards=some []
theorem Room.mono{j k:Nat}{A:Around}(r:Room k A)(h:j≤k):Room j A:=⟨r.hd,by have:=r.dp;omega,by have:=r.un;omega,r.gd⟩
theorem Room.deeper{k:Nat}{A:Around}(r:Room (k+1) A)(env:Env):Room k (A.deeper env):=
 ⟨r.hd,by have:=r.dp;show A.depth+1+3*k+5<_;omega,by have:=r.un;show A.units+3+16*k+200<_;omega,r.gd⟩
theorem Room.depth{k:Nat}{A:Around}(r:Room k A):A.depth<recursionLimit:=by have:=r.dp;omega
def tNil:TA:=fun _ H Q=>Q [] H
def U4(ta:TE)(tr:TA):TA:=fun σ H Q=>ta σ H fun x H1=>tr σ H1 fun xs H2=>Q (x::xs) H2
section
variable{X:Cx}{e:Expr}{es:List Expr}{te:TE}{t:TA}{pos:Pos}
theorem pa_nil:PA X [] tNil:=fun _ _ _ _ H Q I h=>Calls.spliced_nil ⟨[],H,I,.nil,h⟩
theorem Hj(ha:PE X e te)(hr:PA X es t)(hs:starEach (e::es) X.env=(false,eval e X.env)::starEach es X.env:=by rfl):PA X (e::es) (U4 te t):=by
 intro pos pins s σ H Q I h
 rw[hs]
 show wpAny _ _ (spliced ((false,eval e X.env)::backTo pos (starEach es X.env))) _ _ s
 refine Calls.spliced_cons (thn (ha pins s σ H _ I h) fun u s1 ⟨x,H1,I1,r1,q1⟩=>?_)
 exact thn (hr pos pins s1 σ H1 _ I1 q1) fun us s2 ⟨xs,H2,I2,r2,q2⟩=>⟨x::xs,H2,I2,.cons r1 r2,q2⟩

def tTup(t:TA):TE:=fun σ H Q=>t σ H fun xs H1=>xs.length≤sizeLine∧∀p,H1 p=none→Q (.ref p) (upd H1 p (.tup xs))
def tLst(t:TA):TE:=fun σ H Q=>t σ H fun xs H1=>xs.length≤sizeLine∧∀p,H1 p=none→Q (.ref p) (upd H1 p (.lst xs))
theorem Tb{x1}(h:PA X es t):PE X (.Tuple es x1 pos) (tTup t):=by
 intro pins s σ H Q I hq
 refine wpAny_Tuple_spliced (thn (h pos pins s σ H _ I hq) fun us s1 ⟨xs,H1,I1,r,z,q⟩=>⟨by rw[←r.length];exact z,?_⟩)
 have hf:H1 s1.heap.objs.size=none:=I1.hok.fresh (Nat.le_refl _)
 refine⟨.ref s1.heap.objs.size,upd H1 s1.heap.objs.size (.tup xs),I1.laid (t':=s1.toks) (fun b u e=>Heap.get?_push_of_some _ e) (Nat.le_refl _) ?_,rfl,q _ hf⟩
 exact⟨z,us,r,⟨_,Heap.get?_push_size _ rfl,rfl,_,rfl⟩⟩
theorem Tf(h:PA X es t):PE X (.List es pos) (tLst t):=by
 intro pins s σ H Q I hq
 refine wpAny_List_spliced (thn (h pos pins s σ H _ I hq) fun us s1 ⟨xs,H1,I1,r,z,q⟩=>⟨by rw[←r.length];exact z,?_⟩)
 have hf:H1 s1.heap.objs.size=none:=I1.hok.fresh (Nat.le_refl _)
 refine⟨.ref s1.heap.objs.size,upd H1 s1.heap.objs.size (.lst xs),I1.laid (t':=s1.toks) (fun b u e=>Heap.get?_push_of_some _ e) (Nat.le_refl _) ?_,rfl,q _ hf⟩
 exact⟨z,us,0,r,Heap.get?_push_size _ rfl⟩
end
abbrev Sp:=List V→Hp→VK→XK→Prop
abbrev CXT:=List Env→Hp→Shared→XK→Value→Shared→Prop

structure Env0(P:Program)(w:World)(K:PySem.W.Frag)(mg:Str→Option Value)(base:Heap)(A:Around)(outer:List Env)(s:Shared)(H:Hp):Prop where
 frames:A.frames=some outer
 mod:Mod K mg base
 bs:∀b o,base.get? b=some o→s.heap.get? b=some o∧H b=none
 bsz:base.objs.size≤s.heap.objs.size
 funs:s.heap.FunFrames base outer
 frf:∀b∈frs outer,H b=none
 hok:HOk P w H s.heap
 bare:AllBare s.gens
def CE(outer:List Env)(P:Program)(w:World)(H:Hp)(s:Shared)(Q:VK)(u:Value)(s':Shared):Prop:=
 ∃v H',s'.os=s.os∧AllBare s'.gens∧Un (frs outer) [] H H' s.heap s'.heap∧HOk P w H' s'.heap∧RelV v u∧Q v H'
def CR(CX:CXT)(outer:List Env)(P:Program)(w:World)(H:Hp)(s:Shared)(Q:VK)(E:XK)(r:Result)(s':Shared):Prop:=
 match r with
 |.ok (.ret u)=>CE outer P w H s Q u s'
 |.ok _=>False
 |.error e=>CX outer H s E e s'
structure FnOk(P:Program)(w:World)(K:PySem.W.Frag)(mg:Str→Option Value)(base:Heap)(CX:CXT)(k:Nat)(f:Addr)(fd:FuncData)(ps:List Str)(sp:Sp):Prop where
 len:∀vs H Q E,sp vs H Q E→vs.length=ps.length
 run:∀(A:Around) (outer:List Env) (s:Shared) (H:Hp) (args:Args) (us:List Value) (vs:List V) (Q:VK) (E:XK),Room k A→Env0 P w K mg base A outer s H→BindsTo s fd args (ps.zip us)→Vals vs us→sp vs H Q E→
  codeAny (model P w) A (.call (.ref f) args) (CR CX outer P w H s Q E) s
section
variable{X:Cx}{pins:List (Addr×Obj)}{σ:St}{H:Hp}{s s':Shared}
theorem Inv.env0(I:Inv X pins σ H s):Env0 X.prog X.w X.K X.mg X.base X.A X.stack s H:=
 ⟨I.ok.frames,I.ok.mod,I.bs,Nat.le_trans I.ok.bsz I.sz,I.stack,I.stkFree,I.hok,I.bare⟩
theorem Inv.after{Q:VK}{u:Value}(I:Inv X pins σ H s)(h:CE X.stack X.prog X.w H s Q u s'):EP X pins σ Q u s':=by
 obtain⟨v,H',os,bare,un,hok,r,q⟩:=h
 obtain⟨hh,g,d,t,os'⟩:=s'
 obtain rfl:os'=s.os:=os
 exact⟨v,H',I.call (h':=hh) (g':=g) (d':=d) (t':=t) (ch:=[]) un hok bare (fun b z=>absurd z (by simp)),r,q⟩
end
def U5(sp:Sp)(dvs:List V)(E:XK)(t:TA):TE:=fun σ H Q=>t σ H fun vs H1=>sp (vs++dvs) H1 Q E
def Binds(K:PySem.W.Frag)(fd:FuncData)(ps:List Str)(ds:List Value):Prop:=
 ∀(s:Shared) (us:List Value),K.In s.heap→(us++ds).length=ps.length→BindsTo s fd ⟨us,[]⟩ (ps.zip (us++ds))
theorem Binds.all{K:W.Frag}{fd:FuncData}{ps:List Str}(h:∀us:List Value,us.length=ps.length→bindArgs fd ⟨us,[]⟩=pure (ps.zip us)):Binds K fd ps []:=fun s us _ hl=>by
 rw[List.append_nil] at hl ⊢
 exact .of_eq (h us hl)

def Cd(CX:CXT)(X:Cx)(E:XK):Prop:=∀(pins:List (Addr×Obj)) (σ:St) (H:Hp) (s:Shared) (e:Value) (s':Shared),Inv X pins σ H s→CX X.stack H s E e s'→X.xe e s'

section
variable{X:Cx}{CX:CXT}{k:Nat}{f C:Addr}{fd:FuncData}{ps:List Str}{sp:Sp}{dvs:List V}{ds:List Value}{E:XK}{x m:Str}{p pos apos:Pos}{e o:Expr}{es:List Expr}{ta:TE}{t:TA}
theorem Su{pins:List (Addr×Obj)}{σ:St}{H:Hp}{s:Shared}{Q:VK}{us:List Value}{vs:List V}(F:FnOk X.prog X.w X.K X.mg X.base CX k f fd ps sp)(hr:Room k X.A)(hb:Binds X.K fd ps ds)(hd:Vals dvs ds)(hx:Cd CX X E)(I:Inv X pins σ H s)(r:Vals vs us)(h:sp (vs++dvs) H Q E):wpAny (model X.prog X.w) X.A (call (.ref f) us) (EP X pins σ Q) X.xe s:=by
 have r2:Vals (vs++dvs) (us++ds):=r.append hd
 have hl:(us++ds).length=ps.length:=by rw[←r2.length];exact F.len _ _ _ _ h
 refine wpAny_call (codeAny_mono (F.run X.A X.stack s H ⟨us,[]⟩ (us++ds) (vs++dvs) Q E hr I.env0 (hb s us I.kIn hl) r2 h) fun r s' hq=>?_)
 cases r with
 |error e=>exact hx pins σ H s e s' I hq
 |ok fl=>
  cases fl with
  |ret u=>exact I.after hq
  |next=>exact False.elim hq
  |brk=>exact False.elim hq
  |cont=>exact False.elim hq

theorem Qq(F:FnOk X.prog X.w X.K X.mg X.base CX k f fd ps sp)(hr:Room k X.A)(hg:Gl X x)(hm:X.mg x=some (.ref f))(hk:PySem.W.keepIn X.K (.ref f)=true)(hb:Binds X.K fd ps ds)(hd:Vals dvs ds)(hx:Cd CX X E)(ha:PA X (e::es) t)(hdb:(x == ("__debug__" : Str))=false:=by decide)(he:starEach (e::es) X.env=(false,eval e X.env)::starEach es X.env:=by rfl)(hpl:(backTo pos (starEach es X.env)).any (·.1)=false:=by rfl) :
  PE X (.Call (.Name x p) (e::es) [] pos) (U5 sp dvs E t):=by
 intro pins s σ H Q I h
 refine wpAny_Call_Name_kw (Dr I hg hm ?_ hdb)
 refine PySem.W.callWith_K (h₀:=X.base) I.ok.mod.kin hk (thn (ha pos pins s σ H _ I h) fun us s1 ⟨vs,H1,I1,r,q⟩=>⟨I1.kIn,?_⟩) he hpl
 exact Su F hr hb hd hx I1 r q
structure Mk(K:PySem.W.Frag)(C f:Addr):Prop where
 makes:PySem.W.makesIn K C=true
 init:PySem.W.findIn K (.ref C) "__init__" = some (some (.ref f))
 fn:PySem.W.isFn K (.ref f)=true
 kp:PySem.W.keepIn K (.ref C)=true

end
section
variable{X:Cx}{CX:CXT}{k:Nat}{f C:Addr}{fd:FuncData}{ps ks:List Str}{sp:Sp}{E:XK}{x m:Str}{p pos apos kpos:Pos}{e o:Expr}{es:List Expr}{kws:List Keyword}{te ta:TE}{t tk:TA}{nm:Option Str}
variable{g:List Value→List Value→List Value}{gV:List V→List V→List V}
end
structure FnScope(N P:List Str)(sc:Scope):Prop where
 kind:sc.kind=.function
 co:sc.isCoroutine=false
 gen:sc.isGenerator=false
 nd:N.Nodup
 pre:N.take P.length=P
 par:∀x∈P,sc.names.lookup x=some .local∨sc.names.lookup x=some .cell
 nofree:∀y∈sc.names,y.2≠.free

theorem Gr{kindOf:Str→Option NameKind}{x:Str}:∀{binds:List (Str×Value)} {m:Str→Option Value},(∀v,(x,v) ∉ binds)→bindL kindOf binds m x=m x
 |[],_,_=>rfl
 |(n,v)::r,m,h=>by
  unfold bindL
  rw[Gr fun w hw=>h w (List.mem_cons_of_mem _ hw)]
  split
  ·have:x≠n:=by rintro rfl;exact h v List.mem_cons_self
   simp[this]
  ·rfl
theorem Gt{kindOf:Str→Option NameKind}{x:Str}:∀{binds:List (Str×Value)} {m:Str→Option Value},(∀v,(x,v) ∉ binds)→bindC kindOf binds m x=m x
 |[],_,_=>rfl
 |(n,v)::r,m,h=>by
  unfold bindC
  rw[Gt fun w hw=>h w (List.mem_cons_of_mem _ hw)]
  split
  ·rfl
  ·have:x≠n:=by rintro rfl;exact h v List.mem_cons_self
   simp[this]
theorem Gs{kindOf:Str→Option NameKind}{x:Str}{v:Value}:∀{P:List Str} {vs:List Value} {i:Nat} {m:Str→Option Value},P.Nodup→P[i]? = some x→vs[i]? = some v→kindOf x=some .local→
  bindL kindOf (P.zip vs) m x=some v
 |[],_,_,_,_,h,_,_=>by simp at h
 |_::_,[],_,_,_,_,h,_=>by simp at h
 |p::P,w::vs,0,m,nd,h1,h2,hk=>by
  simp at h1 h2;subst h1;subst h2
  show bindL kindOf ((p,w)::P.zip vs) m p=_
  unfold bindL
  rw[Gr fun v hv=>(List.nodup_cons.mp nd).1 (List.of_mem_zip hv).1,if_pos hk]
  simp
 |p::P,w::vs,i+1,m,nd,h1,h2,hk=>by
  show bindL kindOf ((p,w)::P.zip vs) m x=_
  unfold bindL
  exact Gs (i:=i) (List.nodup_cons.mp nd).2 (by simpa using h1) (by simpa using h2) hk
theorem Gu{kindOf:Str→Option NameKind}{x:Str}{v:Value}:∀{P:List Str} {vs:List Value} {i:Nat} {m:Str→Option Value},P.Nodup→P[i]? = some x→vs[i]? = some v→kindOf x≠some .local→
  bindC kindOf (P.zip vs) m x=some v
 |[],_,_,_,_,h,_,_=>by simp at h
 |_::_,[],_,_,_,_,h,_=>by simp at h
 |p::P,w::vs,0,m,nd,h1,h2,hk=>by
  simp at h1 h2;subst h1;subst h2
  show bindC kindOf ((p,w)::P.zip vs) m p=_
  unfold bindC
  rw[Gt fun v hv=>(List.nodup_cons.mp nd).1 (List.of_mem_zip hv).1,if_neg hk]
  simp
 |p::P,w::vs,i+1,m,nd,h1,h2,hk=>by
  show bindC kindOf ((p,w)::P.zip vs) m x=_
  unfold bindC
  exact Gu (i:=i) (List.nodup_cons.mp nd).2 (by simpa using h1) (by simpa using h2) hk

def B9(N:List Str)(vs:List V):St:=vs.map some++List.replicate (N.length-vs.length) none

def Bz(CX:CXT)(P:Program)(w:World)(K:PySem.W.Frag)(mg:Str→Option Value)(base:Heap)(N:List Str)(qual:Str)(scope:Scope)(f:Addr)(cd:Value)(A:Around)(outer:List Env)(s:Shared)(H:Hp)(E:XK):Cx where
 prog:=P
 w:=w
 K:=K
 mg:=mg
 base:=base
 A:=A.deeper (envOfC qual scope s.heap.objs.size f cd)
 N:=N
 s₀:=s
 H₀:=H
 env:=envOfC qual scope s.heap.objs.size f cd
 outer:=outer
 stack:=envOfC qual scope s.heap.objs.size f cd::outer
 ex:=[]
 calm:=true
 fn:=fun _=>true
 pn:=[]
 xe:=fun e s'=>wpAny (model P w) (A.deeper (envOfC qual scope s.heap.objs.size f cd)) (leaving (envOfC qual scope s.heap.objs.size f cd) e) (fun _ s''=>CX outer H s E e s'') (fun e' s''=>CX outer H s E e' s'') s'

theorem Jh{sc:Scope}{n:Nat}{x:Str}(h:sc.names.lookup x=some .cell):∃c,(cellsFrom n sc.names []).lookup x=some c:=by
 have q:=PySem.W.cellsFrom_some sc.names n [] (.inl h)
 exact Option.isSome_iff_exists.mp q

theorem Go{CX:CXT}{P:Program}{w:World}{K:W.Frag}{mg:Str→Option Value}{base:Heap}{N ps:List Str}{qual:Str}{scope:Scope}{f:Addr}{cd:Value}{A:Around}{outer:List Env}{s s1:Shared}{H:Hp}{E:XK}{us:List Value}{vs:List V}(S:FnScope N ps scope)(hd:A.handled=none)(e0:Env0 P w K mg base A outer s H)(hl:vs.length=ps.length)(r:Vals vs us)(x:InCallC s s.heap.objs.size (bindL (envOfC qual scope s.heap.objs.size f cd).kindOf (ps.zip us) fun _=>none) (cellsFrom (s.heap.objs.size+1) scope.names []) (bindC (envOfC qual scope s.heap.objs.size f cd).kindOf (ps.zip us) fun _=>none) s1) :
  Inv (Bz CX P w K mg base N qual scope f cd A outer s H E) [] (B9 N vs) H s1:=by
 have hpl:ps.length≤N.length:=by have:=congrArg List.length S.pre;rw[List.length_take] at this;omega
 obtain⟨h1,tk,rfl,hk⟩:=x.done
 have noA:∀b:Addr,b ∉ (Bz CX P w K mg base N qual scope f cd A outer s H E).ex:=fun b z=>absurd (show b∈([]:List Addr) from z) (by simp)
 refine⟨⟨e0.mod,S.kind,rfl,rfl,Nat.le_refl _,fun y z c h1 h2=>?_,fun y hy=>?_,fun y c _ h=>?_,fun _=>hd,Around.frames_deeper e0.frames,.inr ⟨rfl,rfl⟩,fun b z=>absurd z (noA b),e0.bs,e0.bsz,fun b _ _=>noA b,fun b z=>absurd z (noA b),e0.funs,e0.frf⟩,
  rfl,e0.bare,Un.kept hk,⟨_,x.toInCall.ns,fun i y v h1 h2 h3=>?_⟩,fun y c h=>⟨_,x.cell y c h⟩,e0.hok.fresh (Nat.le_refl _),fun y c h=>?_,fun p hp=>absurd (show p∈([]:List (Addr×Obj)) from hp) (by simp),e0.hok.kept hk,?_⟩
 ·exact name_of_addr x.apart (PySem.mem_of_lookup h1) (PySem.mem_of_lookup h2)
 ·have hy:scope.names.lookup y=some .cell∨scope.names.lookup y=some .free:=hy
  rcases hy with hy|hy
  ·exact Jh hy
  ·exact absurd rfl (S.nofree _ (PySem.mem_of_lookup hy))
 ·exact Nat.le_of_lt (x.above y c (PySem.mem_of_lookup h))
 ·have hi:i<vs.length:=by
   unfold B9 at h2
   by_cases hi:i<vs.length
   ·exact hi
   ·rw[List.getElem?_append_right (by simpa using hi)] at h2
    rw[List.getElem?_replicate] at h2
    split at h2<;>cases h2
  have ha:vs[i]? = some v:=by
   unfold B9 at h2
   rw[List.getElem?_append_left (by simpa using hi),List.getElem?_map] at h2
   cases e:vs[i]? with
   |none=>rw[e] at h2;cases h2
   |some a=>rw[e] at h2;cases h2;rfl
  obtain⟨u,hu,rv⟩:=r.get ha
  have hp:ps[i]? = some y:=by
   rw[←S.pre,List.getElem?_take_of_lt (by omega)];exact h1
  have ndP:ps.Nodup:=by rw[←S.pre];exact S.nd.sublist (List.take_sublist _ _)
  refine⟨u,rv,?_⟩
  rcases S.par y (List.mem_of_getElem? hp) with k|k
  ·exact .inl ⟨k,Gs ndP hp hu k⟩
  ·obtain⟨c,e⟩:=Jh (n:=s.heap.objs.size+1) k
   refine .inr ⟨.inl k,c,e,?_⟩
   have q:=x.cell y c e
   rw[Gu ndP hp hu (by show scope.names.lookup y≠_;rw[k];decide)] at q
   exact q
 ·exact e0.hok.fresh (Nat.le_of_lt (x.above y c (PySem.mem_of_lookup h)))
 ·unfold B9
  show _=N.length
  rw[List.length_append,List.length_map,List.length_replicate]
  omega

theorem Np{CX:CXT}{P:Program}{w:World}{K:W.Frag}{mg:Str→Option Value}{base:Heap}{k:Nat}{f:Addr}{name qual:Str}{params:Arguments}{body:List Stmt}{scope:Scope}{dV kV doc pm cdv ct oc:Value}{an od:Option Addr}{osl:Array (Option Value)}{N ps:List Str}{sp:Sp}(lk:K.lookup f=some ⟨oc,od,.func (PySem.W.fnOf name qual params body scope dV kV doc pm an cdv ct),osl⟩)(hcd:PySem.W.codeIn K cdv qual=true)(S:FnScope N ps scope)(len:∀vs H Q E,sp vs H Q E→vs.length=ps.length)(hbody:∀(A:Around) (outer:List Env) (s:Shared) (H:Hp) (vs:List V) (Q:VK) (E:XK),Room k (A.deeper (envOfC qual scope s.heap.objs.size f cdv))→sp vs H Q E→
   ∃t,PSs (Bz CX P w K mg base N qual scope f cdv A outer s H E) body t∧t { nx:=fun _ H'=>Q .non H',rt:=Q } (B9 N vs) H) :
  FnOk P w K mg base CX (k+1) f (PySem.W.fnOf name qual params body scope dV kV doc pm an cdv ct) ps sp:=by
 refine⟨len,fun A outer s H args us vs Q E hr e0 hb r hsp=>?_⟩
 have hl:=len _ _ _ _ hsp
 have KX:K.In s.heap:=e0.mod.kin.keeps fun b o e=>(e0.bs b o e).1
 have lim:s.heap.NoLimit:=e0.mod.nolimit.keeps fun b o e=>(e0.bs b o e).1
 have hkind:∀y∈ps.zip us,scope.names.lookup y.1=some .local∨(scope.names.lookup y.1=some .cell∧((cellsFrom (s.heap.objs.size+1) scope.names []).lookup y.1).isSome=true):=fun⟨n,v⟩ hy=>by
  rcases S.par n (List.of_mem_zip hy).1 with q|q
  ·exact .inl q
  ·exact .inr ⟨q,PySem.W.cellsFrom_some _ _ _ (.inl q)⟩
 refine codeAny_call_function hr.depth (KX _ _ lk) rfl S.co S.gen rfl (PySem.W.codeRec_of KX hcd) (hb _ _ _ _ ?_)
 refine wpAny_newFunctionEnv_cells S.kind hkind fun env he s1 x=>?_
 subst he
 refine⟨lim.keeps x.toInCall.keep,codeAny_func ?_⟩
 obtain⟨t,ht,hq⟩:=hbody A outer s H vs Q E (hr.deeper _) hsp
 have I:Inv (Bz CX P w K mg base N qual scope f cdv A outer s H E) [] (B9 N vs) H s1:=Go S hr.hd e0 hl r x
 refine wpAny_mono (ht [] s1 (B9 N vs) H _ I hq) (fun fl s' hs=>?_) fun e s' hs=>hs
 have fin:∀{σ':St} {H':Hp} {v:V} {u:Value},Inv (Bz CX P w K mg base N qual scope f cdv A outer s H E) [] σ' H' s'→RelV v u→Q v H'→CE outer P w H s Q u s':=
  fun {σ' H' v u} J rv q=>⟨v,H',J.os,J.bare,J.base,J.hok,rv,q⟩
 cases fl with
 |ret u=>
  obtain⟨v,σ',H',J,rv,q⟩:=hs
  exact fin J rv q
 |next=>
  obtain⟨σ',H',J,q⟩:=hs
  exact fin (v:=V.non) (u:=Value.none) J rfl q
 |brk=>
  obtain⟨_,_,_,q⟩:=hs
  exact False.elim q
 |cont=>
  obtain⟨_,_,_,q⟩:=hs
  exact False.elim q
end L2
namespace L2
open PySem PySem.Spec PyProof.Rows
section
variable{X:Cx}{x:Str}{p pos:Pos}{e:Expr}{es:List Expr}{t:TA}{id T:String}{r:List V→Hp→VK→Prop}
def tCB(r:List V→Hp→VK→Prop)(t:TA):TE:=fun σ H Q=>t σ H fun vs H1=>r vs H1 Q
theorem O7(hc:CallR X (.builtin id) r)(hg:Gl X x)(hm:X.mg x=none)(hv:bootBuiltins x=some (.builtin id))(ha:PA X (e::es) t)(hn:x≠"__name__":=by decide)(hdb:(x == ("__debug__" : Str))=false:=by decide)(he:starEach (e::es) X.env=(false,eval e X.env)::starEach es X.env:=by rfl)(hpl:(backTo pos (starEach es X.env)).any (·.1)=false:=by rfl):PE X (.Call (.Name x p) (e::es) [] pos) (tCB r t):=by
 intro pins s σ H Q I h
 refine wpAny_Call_Name_kw (Hc I hg hm hv ?_ hn hdb)
 exact PyProof.Rows.callWith_builtin1 (thn (ha pos pins s σ H _ I h) fun us s1 ⟨vs,H1,I1,r1,q1⟩=>hc pins s1 σ H1 vs us Q I1 r1 q1) he hpl
theorem Me(hc:CallR X (.type T) r)(hg:Gl X x)(hm:X.mg x=none)(hv:bootBuiltins x=some (.type T))(ha:PA X (e::es) t)(hn:x≠"__name__":=by decide)(hdb:(x == ("__debug__" : Str))=false:=by decide)(he:starEach (e::es) X.env=(false,eval e X.env)::starEach es X.env:=by rfl)(hpl:(backTo pos (starEach es X.env)).any (·.1)=false:=by rfl):PE X (.Call (.Name x p) (e::es) [] pos) (tCB r t):=by
 intro pins s σ H Q I h
 refine wpAny_Call_Name_kw (Hc I hg hm hv ?_ hn hdb)
 exact PyProof.Rows.callWith_type1 (thn (ha pos pins s σ H _ I h) fun us s1 ⟨vs,H1,I1,r1,q1⟩=>hc pins s1 σ H1 vs us Q I1 r1 q1) he hpl
end
end L2
namespace HT
open PySem PyProof.Rows
section
open PySem.SeqAt
open PySem.AutoSeq1 (wpAny_loadPart')
open PySem.MeetsSeq PySem.MeetsSeq2 PySem.MeetsSeq3
end
section
variable{prog:Program}{w:World}{A:Around}{E:Value→Shared→Prop}{s:Shared}
theorem cat_tup{t b:Addr}{vs ws:List Value}{Q:Value→Shared→Prop}(ht:IsTup s.heap t vs.toArray)(hb:IsTup s.heap b ws.toArray)(hv:vs≠[])(h1:ws=[]→Q (.ref t) s)(h2:ws≠[]→Q (.ref s.heap.objs.size) { s with heap:=s.heap.push { cls:=.type "tuple",data:=.seq (vs++ws).toArray } })(hsz:vs.length+ws.length≤sizeLine):wpAny (model prog w) A (binaryOp .Add (.ref t) (.ref b)) Q E s:=by
 obtain⟨⟨cls,dd,data,sl⟩,ho,hc,n,hd⟩:=id ht
 obtain⟨⟨cls2,dd2,data2,sl2⟩,ho2,hc2,n2,hd2⟩:=id hb
 simp only at hc hd hc2 hd2
 subst hc hd hc2 hd2
 have e:vs.toArray++ws.toArray=(vs++ws).toArray:=by simp
 by_cases hw:ws=[]
 ·exact concat_meets ⟨_,ho,rfl⟩ ⟨_,ho2,rfl⟩ noFill_tuple_add seq_tuple_add PySem.F.slot_tuple_add PySem.F.entry_tuple_add (PySem.F.args_tuple_add_2 _ _)
   (tuple_addW1 t b vs.toArray ws.toArray n n2 dd dd2 sl sl2 (by simpa using hv) (by simp[hw])) ⟨ho,ho2,h1 hw⟩
 ·refine concat_meets ⟨_,ho,rfl⟩ ⟨_,ho2,rfl⟩ noFill_tuple_add seq_tuple_add PySem.F.slot_tuple_add PySem.F.entry_tuple_add (PySem.F.args_tuple_add_2 _ _)
   (tuple_addW2 t b vs.toArray ws.toArray n n2 dd dd2 sl sl2 (by simpa using hv) (by simpa using hw) (by rw[List.size_toArray,List.size_toArray];exact hsz)) ⟨ho,ho2,?_⟩
  rw[e]
  exact h2 hw

def sIx(n d:Nat):Option Int→Nat
 |none=>d
 |some v=>if v<0 then (v+(n:Int)).toNat else min v.toNat n
theorem Ss(n d:Nat)(hd:d≤n)(o:Option Int):sIx n d o≤n:=by
 cases o with
 |none=>exact hd
 |some v=>
  show(if v<0 then (v+(n:Int)).toNat else min v.toNat n)≤n
  by_cases hv:v<0
  ·rw[if_pos hv];omega
  ·rw[if_neg hv];exact Nat.min_le_right _ _
theorem Lu(v:Int)(n d:Nat):(if v<0 then max (v+(n:Int)) 0 else min v (n:Int))=((sIx n d (some v):Nat):Int):=by
 show(if v<0 then max (v+(n:Int)) 0 else min v (n:Int))=(((if v<0 then (v+(n:Int)).toNat else min v.toNat n):Nat):Int)
 by_cases hv:v<0
 ·simp only[if_pos hv];omega
 ·simp only[if_neg hv];omega
theorem Ky(lo hi:Option Int)(n:Nat):Builtin.Slice.sliceAdjust lo hi 1 (n:Int)=(((sIx n 0 lo:Nat):Int),((sIx n n hi:Nat):Int)):=by
 have h1:¬((1:Int)<0):=by omega
 unfold Builtin.Slice.sliceAdjust
 simp only[h1,if_false]
 refine Prod.ext ?_ ?_
 ·cases lo with
  |none=>rfl
  |some v=>exact Lu v n 0
 ·cases hi with
  |none=>rfl
  |some v=>exact Lu v n n
theorem Ko(i j:Nat):Builtin.Slice.slicePlaces (i:Int) (j:Int) 1=j-i:=by
 unfold Builtin.Slice.slicePlaces
 have h1:(1:Int)>0:=by omega
 simp only[h1,if_true,Int.ediv_one]
 split<;>omega
theorem slicePart_{v:Value}{o:Option Int}{Q:Option Int→Shared→Prop}(p:IsPart v o)(h:Q o s):wpAny (model prog w) A (Builtin.Slice.slicePartIndex v) Q E s:=by
 cases p with
 |none=>exact slicePart_none h
 |int i t=>exact slicePart_int h
theorem sliceApplied_gen{sl:Addr}{vl vu:Value}{lo hi:Option Int}{n:Nat}{Q:Int×Int×Nat→Shared→Prop}(hs:s.heap.IsSliceOf sl vl vu .none)(pl:IsPart vl lo)(pu:IsPart vu hi)(h:Q (((sIx n 0 lo:Nat):Int),1,sIx n n hi-sIx n 0 lo) s):wpAny (model prog w) A (Builtin.Slice.sliceApplied (.ref sl) (pure (n:Int))) Q E s:=by
 obtain⟨os,hos,hcs,hds⟩:=id hs
 unfold Builtin.Slice.sliceApplied Builtin.Slice.sliceFields
 refine wpAny_bind (wpAny_bind (wpAny_field hos hds (x:=vl) rfl (wpAny_bind (wpAny_field hos hds (x:=vu) rfl (wpAny_bind (wpAny_field hos hds (x:=.none) rfl (wpAny_pure ?_)))))))
 refine wpAny_bind (slicePart_none ?_)
 show wpAny _ _ (if ((1:Int) == 0)=true then _ else _) _ _ s
 rw[if_neg (by decide)]
 refine wpAny_bind (slicePart_ pl (wpAny_bind (slicePart_ pu (wpAny_bind (wpAny_pure ?_)))))
 show wpAny _ _ (match Builtin.Slice.sliceAdjust lo hi 1 (n:Int) with|(lo,hi)=>pure (lo,(1:Int),Builtin.Slice.slicePlaces lo hi 1)) _ _ s
 rw[Ky lo hi n]
 show wpAny _ _ (pure (((sIx n 0 lo:Nat):Int),(1:Int),Builtin.Slice.slicePlaces ((sIx n 0 lo:Nat):Int) ((sIx n n hi:Nat):Int) 1)) _ _ s
 rw[Ko]
 exact wpAny_pure h
theorem O1(xs:Array Value)(i k:Nat):((List.range k).filterMap fun(m:Nat)=>xs[((i:Int)+(m:Int)*1).toNat]?).toArray=((xs.toList.drop i).take k).toArray:=by
 have e:(fun(m:Nat)=>xs[((i:Int)+(m:Int)*1).toNat]?)=fun m=>xs[i+m]?:=by
  funext m
  have:((i:Int)+(m:Int)*1).toNat=i+m:=by omega
  rw[this]
 rw[e]
 have:=pick_run xs i k
 rw[List.filterMap_map] at this
 have e2:((fun x=>xs[x]?) ∘ fun x=>i+x)=fun m=>xs[i+m]?:=rfl
 rw[e2] at this
 rw[this]

theorem getItem_tuple_cut{t sl:Addr}{items:Array Value}{vl vu:Value}{lo hi:Option Int}{Q:Value→Shared→Prop}(ht:IsTup s.heap t items)(hs:s.heap.IsSliceOf sl vl vu .none)(pl:IsPart vl lo)(pu:IsPart vu hi)(hw:¬(sIx items.size 0 lo=0∧sIx items.size items.size hi=items.size))(h:Q (.ref s.heap.objs.size) { s with heap:=s.heap.push { cls:=.type "tuple",data:=.seq ((items.toList.drop (sIx items.size 0 lo)).take (sIx items.size items.size hi-sIx items.size 0 lo)).toArray } })(hsz:items.size≤sizeLine):wpAny (model prog w) A (getItem (.ref t) (.ref sl)) Q E s:=by
 have htake:sizeOk (.seq ((items.toList.drop (sIx items.size 0 lo)).take (sIx items.size items.size hi-sIx items.size 0 lo)).toArray):=by
  show((items.toList.drop (sIx items.size 0 lo)).take (sIx items.size items.size hi-sIx items.size 0 lo)).toArray.size≤sizeLine
  rw[List.size_toArray,List.length_take,List.length_drop,Array.length_toList]
  omega
 have hj:sIx items.size items.size hi≤items.size:=Ss _ _ (Nat.le_refl _) hi
 obtain⟨os,hos,hcs,hds⟩:=id hs
 have hTs:s.TypeIs (.ref sl) "slice":=⟨os,hos,hcs⟩
 unfold getItem
 try with_reducible refine wpAny_holding ?_
 first|refine wpAny_bind (wpAny_pure ?_)|skip
 refine wpAny_bind (wpAny_sequenceKey ht.typeIs (by decide) ?_)
 refine wpAny_bind (wpAny_callSpecial?_slot (name:=Str.ofString "__getitem__") ht.typeIs PyProof.Rows.slot_tuple_getitem
  (wpAny_call_entry PyProof.Rows.slot_tuple_getitem ht.typeIs entry_tuple_getitem ?_ (args_tuple_getitem _ _)))
 show wpAny _ _ (Builtin.Tuple.tupleItemsOf (.ref t) >>= _) _ _ s
 refine wpAny_bind (tupleItemsOf_ ht ?_)
 refine wpAny_bind (wpAny_typeOf hTs ?_)
 rw[if_pos (by decide)]
 refine wpAny_bind (sliceApplied_gen hs pl pu ?_)
 have hno:¬((((sIx items.size 0 lo:Nat):Int) == 0&&(1:Int) == 1&&(sIx items.size items.size hi-sIx items.size 0 lo) == items.size)=true):=by
  intro q
  rw[Bool.and_eq_true,Bool.and_eq_true] at q
  have q1:((sIx items.size 0 lo:Nat):Int)=0:=eq_of_beq q.1.1
  have q2:sIx items.size items.size hi-sIx items.size 0 lo=items.size:=eq_of_beq q.2
  exact hw ⟨by omega,by omega⟩
 show wpAny _ _ (if (((sIx items.size 0 lo:Nat):Int) == 0&&(1:Int) == 1&&(sIx items.size items.size hi-sIx items.size 0 lo) == items.size)=true then _ else _) _ _ s
 rw[if_neg hno,O1]
 first
  |exact wpAny_bind (m:=Builtin.Tuple.tupleExact _) (wpAny_newObj_type (wpAny_pure ⟨_,rfl,wpAny_pure h⟩) htake)
  |exact wpAny_bind (m:=Builtin.Tuple.tupleExact _) (wpAny_newObj_type (wpAny_bind (wpAny_pure (wpAny_pure ⟨_,rfl,wpAny_pure h⟩))) htake)
  |exact wpAny_bind (wpAny_bind (m:=Builtin.Tuple.tupleExact _) (wpAny_newObj_type (wpAny_pure (wpAny_pure ⟨_,rfl,wpAny_pure h⟩)) htake))
  |exact wpAny_bind (wpAny_bind (m:=Builtin.Tuple.tupleExact _) (wpAny_newObj_type (wpAny_pure ⟨_,rfl,wpAny_pure h⟩) htake))
end
end HT
namespace L2
open PySem PySem.Spec PyProof.Rows
abbrev TO:=St→Hp→(Option Int→Hp→Prop)→Prop
def PO(X:Cx)(e:Option Expr)(t:TO):Prop:=
 ∀(pins:List (Addr×Obj)) (s:Shared) (σ:St) (H:Hp) (Q:Option Int→Hp→Prop),Inv X pins σ H s→t σ H Q→
  wpAny (model X.prog X.w) X.A (evalPart e X.env) (fun u s'=>∃o H',Inv X pins σ H' s'∧IsPart u o∧Q o H') X.xe s
def Qf:TO:=fun _ H Q=>Q none H
def U0(t:TE):TO:=fun σ H Q=>t σ H fun x H1=>∃i,x=.int i∧Q (some i) H1

section
variable{X:Cx}{e:Expr}{te:TE}{lo hi:Option Expr}{tl th:TO}{pos p2:Pos}
theorem po_none:PO X none Qf:=by
 intro pins s σ H Q I h
 rw[evalPart_none]
 exact wpAny_pure ⟨none,H,I,.none,h⟩
theorem Qn(h:PE X e te):PO X (some e) (U0 te):=by
 intro pins s σ H Q I hw
 rw[evalPart_some]
 refine thn (h pins s σ H _ I hw) fun u s1 ⟨x,H1,I1,r1,q1⟩=>?_
 obtain⟨i,rfl,q⟩:=q1
 obtain⟨t,rfl⟩:=r1
 exact⟨some i,H1,I1,.int i t,q⟩

def SlR(X:Cx)(r:V→Option Int→Option Int→Hp→VK→Prop):Prop:=
 ∀(pins:List (Addr×Obj)) (s:Shared) (σ:St) (H:Hp) (x:V) (v vl vu:Value) (lo hi:Option Int) (sl:Addr) (Q:VK),Inv X pins σ H s→RelV x v→s.heap.IsSliceOf sl vl vu .none→IsPart vl lo→IsPart vu hi→r x lo hi H Q→
  ∃T id,typeLookup (.type T) "__getitem__" = pure (some (.builtin id))∧s.TypeIs v T∧wpAny (model X.prog X.w) X.A (getItem v (.ref sl)) (EP X pins σ Q) X.xe s
def tSl(r:V→Option Int→Option Int→Hp→VK→Prop)(te:TE)(tl th:TO):TE:=fun σ H Q=>te σ H fun x H1=>tl σ H1 fun l H2=>th σ H2 fun u H3=>r x l u H3 Q
theorem O3{r:V→Option Int→Option Int→Hp→VK→Prop}(hr:SlR X r)(he:PE X e te)(hl:PO X lo tl)(hu:PO X hi th):PE X (.Subscript e (.Slice lo hi none p2) pos) (tSl r te tl th):=by
 intro pins s σ H Q I h
 refine Subscript_ (thn (he pins s σ H _ I h) fun v s1 ⟨x,H1,I1,r1,q1⟩=>?_)
 refine wpAny_Slice (thn (hl pins s1 σ H1 _ I1 q1) fun vl s2 ⟨l,H2,I2,pl,q2⟩=>thn (hu pins s2 σ H2 _ I2 q2) fun vu s3 ⟨u,H3,I3,pu,q3⟩=>?_)
 rw[evalPart_none]
 refine wpAny_pure ?_
 have I4:Inv X pins σ H3 { s3 with heap:=s3.heap.push { cls:=.type "slice",data:=.fields #[vl,vu,.none] } }:=I3.kept (t':=s3.toks) fun b ob q=>Heap.get?_push_of_some _ q
 obtain⟨T,id,hT,ht,hg⟩:=hr pins { s3 with heap:=s3.heap.push { cls:=.type "slice",data:=.fields #[vl,vu,.none] } } σ H3 x v vl vu l u s3.heap.objs.size Q I4 r1 (Heap.IsSliceOf.new ..) pl pu q3
 show wpAny (model X.prog X.w) X.A (subscriptTail e (.Slice lo hi none p2) v (.ref s3.heap.objs.size)) (EP X pins σ Q) X.xe { s3 with heap:=s3.heap.push { cls:=.type "slice",data:=.fields #[vl,vu,.none] } }
 exact tail_any (ops:=[.ref s3.heap.objs.size,v]) ht hT hg (by with_unfolding_all rfl)

def Ih(xs:List V)(lo hi:Option Int):List V:=(xs.drop (HT.sIx xs.length 0 lo)).take (HT.sIx xs.length xs.length hi-HT.sIx xs.length 0 lo)
theorem El(xs:List V)(lo hi:Option Int):(Ih xs lo hi).length≤xs.length:=by
 unfold Ih
 rw[List.length_take,List.length_drop]
 omega
def rSlT(K:PySem.W.Frag):V→Option Int→Option Int→Hp→VK→Prop:=fun x lo hi H Q=>∃a xs,x=.ref a∧SqT K H a xs∧
 ¬(HT.sIx xs.length 0 lo=0∧HT.sIx xs.length xs.length hi=xs.length)∧∀p,H p=none→Q (.ref p) (upd H p (.tup (Ih xs lo hi)))
theorem Sm:SlR X (rSlT X.K):=by
 intro pins s σ H x v vl vu lo hi sl Q I rx hs pl pu h
 obtain⟨a,xs,rfl,hx,hw,q⟩:=h
 cases rx
 obtain⟨its,r,ht,hz⟩:=I.tuple hx
 have hlen:its.toArray.size=xs.length:=by rw[List.size_toArray];exact r.length.symm
 refine⟨"tuple",_,PyProof.Rows.slot_tuple_getitem.lookup,ht.typeIs,?_⟩
 refine HT.getItem_tuple_cut ht hs pl pu (by rw[hlen];exact hw) ?_ (by rw[hlen];exact hz)
 rw[hlen]
 refine⟨.ref s.heap.objs.size,_,I.laid (t':=s.toks) (o:=.tup (Ih xs lo hi)) (fun b ob q=>Heap.get?_push_of_some _ q) (Nat.le_refl _) ?_,rfl,q _ (I.hok.fresh (Nat.le_refl _))⟩
 exact⟨Nat.le_trans (El xs lo hi) hz,_,(r.drop (HT.sIx xs.length 0 lo)).take (HT.sIx xs.length xs.length hi-HT.sIx xs.length 0 lo),IsTup.new _ _⟩

def Vb(K:PySem.W.Frag):R2:=fun x y H Q=>∃a b xs ys,x=.ref a∧y=.ref b∧SqT K H a xs∧SqT K H b ys∧xs≠[]∧xs.length+ys.length≤sizeLine∧
 (ys=[]→Q (.ref a) H)∧(ys≠[]→∀p,H p=none→Q (.ref p) (upd H p (.tup (xs++ys))))
theorem Vals.nil_iff{xs:List V}{us:List Value}(r:Vals xs us):us=[]↔xs=[]:=by
 cases r with
 |nil=>simp
 |cons _ _=>simp
theorem Qu:OpR X (binaryOp .Add) (Vb X.K):=by
 intro pins s σ H x y v u Q I rx ry h
 obtain⟨a,b,xs,ys,rfl,rfl,ha,hb,hx,hz,q1,q2⟩:=h
 cases rx
 cases ry
 obtain⟨its,r1,p1,_⟩:=I.tuple ha
 obtain⟨its2,r2,p2,_⟩:=I.tuple hb
 refine HT.cat_tup p1 p2 (fun z=>hx (r1.nil_iff.mp z)) (fun z=>⟨.ref a,H,I,rfl,q1 (r2.nil_iff.mp z)⟩) (fun z=>?_) (by rw[←r1.length,←r2.length];exact hz)
 refine⟨.ref s.heap.objs.size,_,I.laid (t':=s.toks) (o:=.tup (xs++ys)) (fun b ob q=>Heap.get?_push_of_some _ q) (Nat.le_refl _) ?_,rfl,q2 (fun w=>z (r2.nil_iff.mpr w)) _ (I.hok.fresh (Nat.le_refl _))⟩
 exact⟨by rw[List.length_append];exact hz,_,r1.append r2,IsTup.new _ _⟩
end
end L2
namespace L2
open PySem PySem.Spec PyProof.Rows
def ixN(n:Nat)(i:Int):Option Nat:=if 0≤i then (if i<n then some i.toNat else none) else if -(n:Int)≤i then some (i+n).toNat else none
def atI{α:Type}(xs:List α)(i:Int):Option α:=(ixN xs.length i).bind fun j=>xs[j]?
theorem Ln{n:Nat}{i:Int}{j:Nat}(h:ixN n i=some j):seqIndex? i n=some j∧j<n∧-(n:Int)≤i∧i<n:=by
 unfold ixN at h
 by_cases h0:0≤i
 ·rw[if_pos h0] at h
  by_cases h1:i<n
  ·rw[if_pos h1] at h
   have e:i.toNat=j:=Option.some.inj h
   exact⟨by rw[seqIndex_of h0 h1,e],by omega,by omega,h1⟩
  ·rw[if_neg h1] at h;cases h
 ·rw[if_neg h0] at h
  by_cases h1 : -(n:Int)≤i
  ·rw[if_pos h1] at h
   have e:(i+n).toNat=j:=Option.some.inj h
   exact⟨by rw[seqIndex_neg (by omega) h1,e],by omega,h1,by omega⟩
  ·rw[if_neg h1] at h;cases h
theorem Hq{α:Type}{xs:List α}{i:Int}{v:α}(h:atI xs i=some v):∃j,seqIndex? i xs.length=some j∧xs[j]? = some v∧j<xs.length∧-(xs.length:Int)≤i∧i<xs.length:=by
 unfold atI at h
 cases e:ixN xs.length i with
 |none=>rw[e] at h;cases h
 |some j=>
  rw[e] at h
  obtain⟨h1,h2,h3,h4⟩:=Ln e
  exact⟨j,h1,h,h2,h3,h4⟩
theorem Ca{α:Type}{xs:List α}{j:Nat}{v:α}(h:xs[j]? = some v):atI xs (j:Int)=some v:=by
 have hj:j<xs.length:=(List.getElem?_eq_some_iff.mp h).1
 have e:ixN xs.length (j:Int)=some j:=by
  unfold ixN
  rw[if_pos (by omega),if_pos (by omega)];simp
 unfold atI;rw[e];exact h
theorem Px{α:Type}(xs:List α)(v:α):atI (xs++[v]) (-1)=some v:=by
 have hl:(xs++[v]).length=xs.length+1:=by simp
 have e:ixN (xs++[v]).length (-1)=some xs.length:=by
  unfold ixN
  rw[hl,if_neg (by decide),if_pos (by omega)]
  congr 1
  omega
 unfold atI
 rw[e]
 show(xs++[v])[xs.length]? = some v
 simp

def Lz(b:Expr):Prop:=∀o i,subscripted b false o i=operate [o,i] (getItem o i)
def IxR(X:Cx)(r:R2):Prop:=
 ∀(value slice:Expr) (pins:List (Addr×Obj)) (s:Shared) (σ:St) (H:Hp) (x y:V) (v u:Value) (Q:VK),Inv X pins σ H s→RelV x v→RelV y u→r x y H Q→
  subscripted slice false v u=operate [v,u] (getItem v u)→wpAny (model X.prog X.w) X.A (subscriptTail value slice v u) (EP X pins σ Q) X.xe s
def MtR(X:Cx)(id:String)(r:V→List V→Hp→VK→Prop):Prop:=
 ∀(pins:List (Addr×Obj)) (s:Shared) (σ:St) (H:Hp) (x:V) (xs:List V) (v:Value) (us:List Value) (Q:VK),Inv X pins σ H s→RelV x v→Vals xs us→r x xs H Q→
  wpAny (model X.prog X.w) X.A (call (.builtin id) (v::us)) (EP X pins σ Q) X.xe s
section
variable{X:Cx}{a b:Expr}{ta tb:TE}{pos:Pos}
theorem IxR.or{r r':R2}(h:IxR X r)(h':IxR X r'):IxR X (fun x y H Q=>r x y H Q∨r' x y H Q):=by
 intro value slice pins s σ H x y v u Q I rx ry q hs
 rcases q with q|q
 ·exact h value slice pins s σ H x y v u Q I rx ry q hs
 ·exact h' value slice pins s σ H x y v u Q I rx ry q hs
theorem Vg{r:R2}(hr:IxR X r)(ha:PE X a ta)(hb:PE X b tb)(hs:Lz b):PE X (.Subscript a b pos) (tOp r ta tb):=by
 intro pins s σ H Q I h
 exact Subscript_ (R9 ha hb I h fun v u s2 x y H2 I2 rx ry q=>hr a b pins s2 σ H2 x y v u Q I2 rx ry q (hs _ _))

def Uq(K:PySem.W.Frag):R2:=fun x y H Q=>∃p xs i v,x=.ref p∧y=.int i∧SqL K H p xs∧atI xs i=some v∧Q v H
def Um(K:PySem.W.Frag):R2:=fun x y H Q=>∃p xs i v,x=.ref p∧y=.int i∧SqT K H p xs∧atI xs i=some v∧Q v H
def Uo:R2:=fun x y H Q=>∃z i c,x=.str z∧y=.int i∧z.length≤sizeLine∧atI z.cps.toList i=some c∧Q (.str ⟨#[c]⟩) H
theorem ix_list:IxR X (Uq X.K):=by
 intro value slice pins s σ H x y v u Q I rx ry h hs
 obtain⟨p,xs,i,z,rfl,rfl,hq,he,q⟩:=h
 cases rx
 obtain⟨t,rfl⟩:=ry
 obtain⟨its,r,pl,hz⟩:=I.list hq
 obtain⟨j,h1,h2,h3,h4,h5⟩:=Hq he
 obtain⟨w,ew,rw'⟩:=r.get h2
 have hl:=r.length
 have hn:=D9
 have fin:EP X pins σ Q w s:=⟨z,H,I,rw',q⟩
 by_cases h0:0≤i
 ·have hj:i.toNat=j:=by
   rw[seqIndex_of h0 h5] at h1
   exact Option.some.inj h1
  exact item_listR pl.isList h0 (by omega) (by rw[hj];simpa using ew) fin hs
 ·have hj:(i+(its.toArray.size:Int)).toNat=j:=by
   rw[seqIndex_neg (by omega) h4] at h1
   rw[List.size_toArray,←hl]
   exact Option.some.inj h1
  exact subscriptTail_builtinR (x:=w) pl.isList.typeIs slot_list_getitem.lookup
   (wpAny_getItem_list_neg (Q:=fun r s'=>r=w∧EP X pins σ Q r s') pl.isList (by omega) (by rw[List.size_toArray]<;>omega) (by omega) (by rw[hj];simpa using ew) ⟨rfl,fin⟩) hs
theorem ix_tup:IxR X (Um X.K):=by
 intro value slice pins s σ H x y v u Q I rx ry h hs
 obtain⟨p,xs,i,z,rfl,rfl,hq,he,q⟩:=h
 cases rx
 obtain⟨t,rfl⟩:=ry
 obtain⟨its,r,pl,hz⟩:=I.tuple hq
 obtain⟨j,h1,h2,h3,h4,h5⟩:=Hq he
 obtain⟨w,ew,rw'⟩:=r.get h2
 have hl:=r.length
 have hn:=D9
 have fin:EP X pins σ Q w s:=⟨z,H,I,rw',q⟩
 exact subscriptTail_builtinR (x:=w) pl.typeIs slot_tuple_getitem.lookup
  (getItem_tuple (j:=j) (Q:=fun r s'=>r=w∧EP X pins σ Q r s') pl (by omega) (by omega) (by rw[List.size_toArray,←hl];exact h1) (by simpa using ew) ⟨rfl,fin⟩) hs
theorem T8:IxR X Uo:=by
 intro value slice pins s σ H x y v u Q I rx ry h hs
 obtain⟨z,i,c,rfl,rfl,hz,he,q⟩:=h
 obtain⟨t,rfl⟩:=rx
 obtain⟨t',rfl⟩:=ry
 obtain⟨j,h1,h2,h3,h4,h5⟩:=Hq he
 have hl:z.cps.toList.length=z.length:=by simp[Str.length]
 rw[hl] at h1 h4 h5
 have hn:=D9
 exact tail_any (typeIs_str s z t) slot_str_getitem.lookup (getItem_str (c:=c) (by
  have e1:decide (i < -(2 ^ 63:Int))=false:=decide_eq_false (by omega)
  have e2:decide (i ≥ 2 ^ 63)=false:=decide_eq_false (by omega)
  rw[e1,e2,Bool.or_false]) (by rw[h1];simpa using h2) ⟨.str ⟨#[c]⟩,H,I.tok _,⟨_,rfl⟩,q⟩) hs
def rIx(K:PySem.W.Frag):R2:=fun x y H Q=>Uq K x y H Q∨Um K x y H Q∨Uo x y H Q
theorem ix_seq:IxR X (rIx X.K):=ix_list.or (ix_tup.or T8)

theorem Ks(its:List Value)(n j:Nat)(u:Value):Obj.mapSeq (·.setIfInBounds j u) { cls:=.type "list",data:=.seq its.toArray n }={ cls:=.type "list",data:=.seq (its.set j u).toArray n }:=by
 simp[Obj.mapSeq]
theorem Inv.lst{pins:List (Addr×Obj)}{σ:St}{H:Hp}{s:Shared}{p:Addr}{xs:List V}(I:Inv X pins σ H s)(h:H p=some (.lst xs)) :
  ∃(its:List Value) (n:Nat),Vals xs its∧s.heap.get? p=some { cls:=.type "list",data:=.seq its.toArray n }∧xs.length≤sizeLine:=by
 obtain⟨z,its,n,r,e⟩:=I.hok p _ h
 exact⟨its,n,r,e,z⟩
theorem Inv.lstUpd{pins:List (Addr×Obj)}{σ:St}{H:Hp}{s:Shared}{p:Addr}{xs ys:List V}{its its':List Value}{n n':Nat}{f:Obj→Obj}(I:Inv X pins σ H s)(h:H p=some (.lst xs))(ho:s.heap.get? p=some { cls:=.type "list",data:=.seq its.toArray n })(hf:f { cls:=.type "list",data:=.seq its.toArray n }={ cls:=.type "list",data:=.seq its'.toArray n' })(r:Vals ys its')(hz:ys.length≤sizeLine)(t:Nat) :
  Inv X pins σ (upd H p (.lst ys)) { s with heap:=s.heap.update p f,toks:=t }:=by
 have e:(s.heap.update p f).get? p=some { cls:=.type "list",data:=.seq its'.toArray n' }:=by
  rw[Heap.get?_update_self f ho (by rw[hf]<;>rfl),hf]
 refine I.write (x:=p) (e:=p) (by rw[h];trivial) (.inl rfl) (fun b u hb q=>(Heap.get?_update_other _ _ (Ne.symm hb)).trans q) ⟨_,e⟩ ?_
 exact⟨hz,its',n',r,e⟩
def Va:V→V→V→Hp→(Hp→Prop)→Prop:=fun o i v H Q=>∃p xs k j,o=.ref p∧i=.int k∧H p=some (.lst xs)∧ixN xs.length k=some j∧Q (upd H p (.lst (xs.set j v)))
theorem set_list:PSet X Va:=by
 intro pins s σ H o i v ov iv u Q I ro ri rv h
 obtain⟨p,xs,k,j,rfl,rfl,hp,hj,q⟩:=h
 cases ro
 obtain⟨t,rfl⟩:=ri
 obtain⟨its,n,r,ho,hz⟩:=I.lst hp
 obtain⟨h1,h2,h3,h4⟩:=Ln hj
 have hl:=r.length
 have hn:=D9
 have I':Inv X pins σ (upd H p (.lst (xs.set j v))) { s with heap:=s.heap.update p (Obj.mapSeq (·.setIfInBounds j u)) }:=
  I.lstUpd hp ho (Ks its n j u) (r.set rv j) (by rw[List.length_set];exact hz) s.toks
 by_cases h0:0≤k
 ·have hk:k.toNat=j:=by
   rw[seqIndex_of h0 h4] at h1
   exact Option.some.inj h1
  exact PySem.W.ki_setAt ho h0 (by omega) (by rw[List.size_toArray,←hl];exact h4) (by rw[hk];exact⟨_,I',q⟩)
 ·have hk:(k+(its.toArray.size:Int)).toNat=j:=by
   rw[seqIndex_neg (by omega) h3] at h1
   rw[List.size_toArray,←hl]
   exact Option.some.inj h1
  exact PySem.W.ki_setBack ho (by omega) (by rw[List.size_toArray,←hl];exact h3) (by omega) (by rw[hk];exact⟨_,I',q⟩)

theorem Hs(lo hi:Option Int)(n:Nat):(sliceBounds lo hi none n).1=((HT.sIx n 0 lo:Nat):Int)∧(sliceBounds lo hi none n).2.1=((HT.sIx n n hi:Nat):Int)∧(sliceBounds lo hi none n).2.2=1:=by
 refine⟨?_,?_,rfl⟩
 ·cases lo with
  |none=>simp[sliceBounds,HT.sIx]
  |some i=>
   simp only[sliceBounds,HT.sIx,Option.getD_none,show(1:Int)>0 by decide,if_true]
   by_cases h:i<0
   ·simp only[h,if_true]<;>omega
   ·simp only[h,if_false]<;>omega
 ·cases hi with
  |none=>simp[sliceBounds,HT.sIx]
  |some i=>
   simp only[sliceBounds,HT.sIx,Option.getD_none,show(1:Int)>0 by decide,if_true]
   by_cases h:i<0
   ·simp only[h,if_true]<;>omega
   ·simp only[h,if_false]<;>omega
theorem F3(its:List Value)(lo hi:Option Int):slicePick its.toArray lo hi none=((its.drop (HT.sIx its.length 0 lo)).take (HT.sIx its.length its.length hi-HT.sIx its.length 0 lo)).toArray:=by
 obtain⟨h1,h2,h3⟩:=Hs lo hi its.toArray.size
 unfold slicePick
 rw[h1,h2,h3]
 simp only[sliceRange_one,pick_run,List.size_toArray]<;>rfl
def rSlL(K:PySem.W.Frag):V→Option Int→Option Int→Hp→VK→Prop:=fun x lo hi H Q=>∃a xs,x=.ref a∧SqL K H a xs∧∀p,H p=none→Q (.ref p) (upd H p (.lst (Ih xs lo hi)))
theorem Qh:SlR X (rSlL X.K):=by
 intro pins s σ H x v vl vu lo hi sl Q I rx hs pl pu h
 obtain⟨a,xs,rfl,hx,q⟩:=h
 cases rx
 obtain⟨its,r,ht,hz⟩:=I.list hx
 have hlen:=r.length
 refine⟨"list",_,slot_list_getitem.lookup,ht.isList.typeIs,?_⟩
 refine wpAny_getItem_list_slice ht.isList hs pl pu .none (by simp) ?_ (by rw[List.size_toArray]<;>omega)
 rw[F3,←hlen]
 refine⟨.ref s.heap.objs.size,_,I.laid (t':=s.toks) (o:=.lst (Ih xs lo hi)) (fun b ob q=>Heap.get?_push_of_some _ q) (Nat.le_refl _) ?_,rfl,q _ (I.hok.fresh (Nat.le_refl _))⟩
 exact⟨Nat.le_trans (El xs lo hi) hz,_,0,(r.drop (HT.sIx xs.length 0 lo)).take (HT.sIx xs.length xs.length hi-HT.sIx xs.length 0 lo),Heap.get?_push_size _ rfl⟩

theorem call_list_of:CallR X (.type "list") (fun xs H Q=>∃p ys,xs=[.ref p]∧(SqL X.K H p ys∨SqT X.K H p ys)∧∀l,H l=none→Q (.ref l) (upd H l (.lst ys))):=by
 intro pins s σ H xs us Q I r h
 obtain⟨p,ys,rfl,hq,q⟩:=h
 obtain⟨u,rfl,rx⟩:=Gb r
 cases rx
 have fin:∀(its:List Value),Vals ys its→ys.length≤sizeLine→∀(h':Heap) (c':Nat),(∀b o',s.heap.get? b=some o'→h'.get? b=some o')→
   h'.get? s.heap.objs.size=some { cls:=.type "list",dict:=none,data:=.seq its.toArray c',slots:=#[] }→EP X pins σ Q (.ref s.heap.objs.size) { s with heap:=h' }:=fun its r' hz h' c' kp e=>
  ⟨.ref s.heap.objs.size,_,I.laid (t':=s.toks) kp (Nat.le_refl _) (show ObjOk X.prog X.w _ h' _ (.lst ys) from⟨hz,its,c',r',e⟩),rfl,q _ (I.hok.fresh (Nat.le_refl _))⟩
 rcases hq with hq|hq
 ·obtain⟨its,r',pl,hz⟩:=I.list hq
  have hlen:=r'.length
  obtain⟨o,ho,hc,n,hd⟩:=pl.isList
  exact call_list_seq p (.inl rfl) ho hc hd (fun h' c' kp e=>fin its r' hz h' c' kp e) (by simp only[List.size_toArray]<;>omega)
 ·obtain⟨its,r',pl,hz⟩:=I.tuple hq
  have hlen:=r'.length
  obtain⟨o,ho,hc,n,hd⟩:=pl
  exact call_list_seq p (.inr rfl) ho hc hd (fun h' c' kp e=>fin its r' hz h' c' kp e) (by simp only[List.size_toArray]<;>omega)
theorem call_tuple_of:CallR X (.type "tuple") (fun xs H Q=>∃p ys,xs=[.ref p]∧((SqL X.K H p ys∧∀l,H l=none→Q (.ref l) (upd H l (.tup ys)))∨(SqT X.K H p ys∧Q (.ref p) H))):=by
 intro pins s σ H xs us Q I r h
 obtain⟨p,ys,rfl,h⟩:=h
 obtain⟨u,rfl,rx⟩:=Gb r
 cases rx
 rcases h with ⟨hq,q⟩|⟨hq,q⟩
 ·obtain⟨its,r',pl,hz⟩:=I.list hq
  have hlen:=r'.length
  refine call_tuple_list pl.isList (fun h' kp=>?_) (by simp only[List.size_toArray]<;>omega)
  have I1:Inv X pins σ H { s with heap:=h' }:=I.kept (t':=s.toks) kp
  have I2:Inv X pins σ (upd H h'.objs.size (.tup ys)) { s with heap:=h'.push { cls:=.type "tuple",data:=.seq its.toArray } }:=
   I1.laid (t':=s.toks) (fun b o e=>Heap.get?_push_of_some _ e) (Nat.le_refl _) (show ObjOk X.prog X.w _ _ _ (.tup ys) from⟨hz,its,r',IsTup.new _ _⟩)
  exact⟨.ref h'.objs.size,_,I2,rfl,q _ (I1.hok.fresh (Nat.le_refl _))⟩
 ·obtain⟨its,r',pl,hz⟩:=I.tuple hq
  exact call_tuple_same pl ⟨.ref p,H,I,rfl,q⟩

def tyV(K:PySem.W.Frag)(T:String)(x:V)(H:Hp):Prop:=match x with
 |.str _=>T = "str"
 |.int _=>T = "int"
 |.ref p=>(T = "list"∧∃xs,SqL K H p xs)∨(T = "tuple"∧∃o,K.lookup p=some o∧o.cls=.type "tuple"∧o.dict=none)∨
   (T = "dict"∧((∃kvs,H p=some (.dK kvs))∨∃kvs,H p=some (.dT kvs)))∨(T = "set"∧∃S n,H p=some (.set S n))
 |_=>False
theorem Sg{pins:List (Addr×Obj)}{σ:St}{H:Hp}{s:Shared}{T:String}{x:V}{v:Value}(I:Inv X pins σ H s)(r:RelV x v)(ty:tyV X.K T x H) :
  s.TypeIs v T∧∀a,v=.ref a→∃ob,s.heap.get? a=some ob∧ob.dict=none:=by
 cases x with
 |str z=>
  obtain⟨t,rfl⟩:=r
  cases(show T = "str" from ty)
  exact⟨typeIs_str s z t,fun _ e=>nomatch e⟩
 |int i=>
  obtain⟨t,rfl⟩:=r
  cases(show T = "int" from ty)
  exact⟨typeIs_int s i t,fun _ e=>nomatch e⟩
 |ref p=>
  cases r
  rcases ty with ⟨rfl,xs,hq⟩|⟨rfl,o,hk,hc,hd⟩|⟨rfl,hk⟩|⟨rfl,S,n,hk⟩
  ·obtain⟨its,_,pl,_⟩:=I.list hq
   refine⟨pl.isList.typeIs,fun a e=>?_⟩
   cases e
   obtain⟨o,n,e,c,hd,_⟩:=pl
   exact⟨o,e,hd⟩
  ·refine⟨⟨o,I.kIn p o hk,hc⟩,fun a e=>?_⟩
   cases e
   exact⟨o,I.kIn _ o hk,hd⟩
  ·have z:∃o,s.heap.get? p=some o∧o.ExactDict:=by
    rcases hk with ⟨kvs,hk⟩|⟨kvs,hk⟩
    ·obtain⟨_,_,_,_,o,_,_,e,ex,_⟩:=I.hok p _ hk
     exact⟨o,e,ex⟩
    ·obtain⟨_,_,_,_,o,_,_,e,ex,_⟩:=I.hok p _ hk
     exact⟨o,e,ex⟩
   obtain⟨o,e,ex⟩:=z
   refine⟨⟨o,e,ex.1⟩,fun a e2=>?_⟩
   cases e2
   exact⟨o,e,ex.2.1⟩
  ·obtain⟨o,_,_,_,e,ex,_⟩:=I.hok p _ hk
   refine⟨⟨o,e,ex.1⟩,fun a e2=>?_⟩
   cases e2
   exact⟨o,e,ex.2.1⟩
 |_=>exact False.elim ty
def tBM(K:PySem.W.Frag)(T:String)(r:V→List V→Hp→VK→Prop)(to:TE)(t:TA):TE:=fun σ H Q=>to σ H fun x H1=>tyV K T x H1∧t σ H1 fun xs H2=>r x xs H2 Q
variable{o e:Expr}{es:List Expr}{to:TE}{t:TA}{name:Str}{apos cpos:Pos}{T id:String}{r:V→List V→Hp→VK→Prop}
theorem Nl(pa:PlainAttrs T)(slot:Slot T name id)(hty:typeOf (.builtin id)=pure (.type "method_descriptor"))(hm:MtR X id r)(ho:PE X o to)(ha:PA X (e::es) t)(hbase:attributeBase o name X.env (eval o X.env)=eval o X.env:=by rfl)(hfew:((backTo cpos (starEach (e::es) X.env)).all (fun x=>!x.1)&&(backToKw cpos (keywordEach [] X.env)).all (fun x=>x.1.isSome)
   && decide ((e::es).length+([]:List Keyword).length+(if ([]:List Keyword).isEmpty then 0 else 1)<30))=true:=by rfl)(hline:(apos.endLine == cpos.line)=true:=by rfl)(hs:starEach (e::es) X.env=(false,eval e X.env)::starEach es X.env:=by rfl)(hplain:(backTo cpos (starEach es X.env)).any (·.1)=false:=by rfl) :
  PE X (.Call (.Attribute o name apos) (e::es) [] cpos) (tBM X.K T r to t):=by
 intro pins s σ H Q I h
 refine wpAny_Call_method_late hbase hfew hline rfl (thn (ho pins s σ H _ I h) fun v s1 ⟨x,H1,I1,r1,ty,q1⟩=>?_)
 obtain⟨h1,h2⟩:=Sg I1 r1 ty
 refine⟨T,id,pa,slot,hty,h1,h2,?_⟩
 have hA:=ha cpos pins s1 σ H1 _ I1 q1
 rw[hs] at hA ⊢
 refine Calls.callWith_builtin (by show(false||(backTo cpos (starEach es X.env)).any (·.1))=false;rw[hplain]<;>rfl) (Calls.evalArgs_plain ?_)
 exact thn hA fun us s2 ⟨vs,H2,I2,r2,q2⟩=>hm pins s2 σ H2 x vs v us Q I2 r1 r2 q2
end
end L2
namespace L2
open PySem PySem.Spec PyProof.Rows
def MtM(X:Cx)(id:String)(r:V→List V→Hp→VK→Prop):Prop:=
 ∀(pins:List (Addr×Obj)) (s:Shared) (σ:St) (H:Hp) (x:V) (xs:List V) (v:Value) (us:List Value) (Q:VK),Inv X pins σ H s→RelV x v→Vals xs us→r x xs H Q→
  wpAny (model X.prog X.w) X.A (call (.builtin id) (v::us)) (EP X pins σ Q) X.xe s

theorem Vals.one:∀{x:V} {us:List Value},Vals [x] us→∃u,us=[u]∧RelV x u
 |_,_,.cons r .nil=>⟨_,rfl,r⟩
theorem Vals.rep{xs:List V}{us:List Value}(h:Vals xs us):∀k:Nat,Vals (List.replicate k xs).flatten (List.replicate k us).flatten
 |0=>.nil
 |k+1=>by
  rw[List.replicate_succ,List.replicate_succ,List.flatten_cons,List.flatten_cons]
  exact Vals.append h (Vals.rep h k)
theorem C9(its:List Value):∀(k:Nat) (acc:List Value),
  List.foldl (fun x1 x2=>x1++x2) acc.toArray (List.replicate k its.toArray)=(acc++(List.replicate k its).flatten).toArray
 |0,acc=>by simp
 |k+1,acc=>by
  have e:acc.toArray++its.toArray=(acc++its).toArray:=by simp
  have e2:(acc++its)++(List.replicate k its).flatten=acc++(List.replicate (k+1) its).flatten:=by
   rw[List.replicate_succ,List.flatten_cons,List.append_assoc]
  rw[←e2,←C9 its k (acc++its),←e,List.replicate_succ,List.foldl_cons]

section
variable{X:Cx}{pins:List (Addr×Obj)}{σ:St}{H:Hp}{s:Shared}{l b:Addr}{xs ys zs:List V}
theorem Inv.lset{its its':List Value}{n:Nat}{f:Array Value→Array Value}{t':Nat}(I:Inv X pins σ H s)(hH:H l=some (.lst xs))(e:s.heap.get? l=some { cls:=.type "list",data:=.seq its.toArray n })(hf:f its.toArray=its'.toArray)(hv:Vals ys its')(hz:ys.length≤sizeLine) :
  Inv X pins σ (upd H l (.lst ys)) { s with heap:=s.heap.update l (Obj.mapSeq f),toks:=t' }:=by
 have q:=PySem.IsL.update e f
 rw[hf] at q
 refine I.write (x:=l) (e:=l) (by rw[hH];exact trivial) (.inl rfl) (fun b' u hb hu=>(Heap.get?_update_other s.heap (Obj.mapSeq f) (Ne.symm hb)).trans hu) ⟨_,q⟩ ?_
 exact⟨hz,its',_,hv,q⟩
theorem Inv.lnew{its:List Value}{t':Nat}(I:Inv X pins σ H s)(hv:Vals ys its)(hz:ys.length≤sizeLine) :
  Inv X pins σ (upd H s.heap.objs.size (.lst ys)) { s with heap:=s.heap.push { cls:=.type "list",data:=.seq its.toArray },toks:=t' }:=
 I.laid (fun _ _ q=>Heap.get?_push_of_some _ q) (Nat.le_refl _) ⟨hz,its,0,hv,Heap.get?_push_size _ rfl⟩
theorem Inv.fresh(I:Inv X pins σ H s):H s.heap.objs.size=none:=I.hok.fresh (Nat.le_refl _)
theorem Inv.lstM(I:Inv X pins σ H s)(hH:H l=some (.lst xs)):xs.length≤sizeLine∧∃(its:List Value) (n:Nat),Vals xs its∧xs.length=its.length∧s.heap.get? l=some { cls:=.type "list",data:=.seq its.toArray n }:=by
 obtain⟨z,its,n,r,e⟩:=I.hok l _ hH
 exact⟨z,its,n,r,r.length,e⟩

theorem Iw{n:Nat}(h:n≤sizeLine):Builtin.List.listTooLong n=false:=by
 unfold Builtin.List.listTooLong
 exact decide_eq_false (by omega)
end
section
variable{X:Cx}
def Qj:V→List V→Hp→VK→Prop:=fun x vs H Q=>∃l xs y,x=.ref l∧vs=[y]∧H l=some (.lst xs)∧xs.length<sizeLine∧Q .non (upd H l (.lst (xs++[y])))
theorem Ec:MtM X "list.append" Qj:=by
 intro pins s σ H x vs v us Q I rx rv h
 obtain⟨l,xs,y,rfl,rfl,hH,hz,q⟩:=h
 cases rx
 obtain⟨u,rfl,ru⟩:=rv.one
 obtain⟨z,its,n,r,hl,e⟩:=I.lstM hH
 refine call_meets F.slot_list_append ⟨_,e,rfl⟩ F.entry_list_append (F.args_list_append_2 _ _) (PySem.list_append l its.toArray n u (by rw[List.size_toArray];omega)) ⟨e,?_⟩
 refine⟨.non,_,I.lset (its':=its++[u]) hH e (by simp) (r.append (.cons ru .nil)) ?_,rfl,q⟩
 rw[List.length_append,List.length_singleton]
 omega

def Qi:V→List V→Hp→VK→Prop:=fun x vs H Q=>∃l b xs zs,x=.ref l∧vs=[.ref b]∧H l=some (.lst xs)∧H b=some (.lst zs)∧xs.length+zs.length≤sizeLine∧Q .non (upd H l (.lst (xs++zs)))
theorem Uk:MtM X "list.extend" Qi:=by
 intro pins s σ H x vs v us Q I rx rv h
 obtain⟨l,b,xs,zs,rfl,rfl,hH,hB,hz,q⟩:=h
 cases rx
 obtain⟨u,rfl,ru⟩:=rv.one
 cases ru
 obtain⟨z,its,n,r,hl,e⟩:=I.lstM hH
 obtain⟨z2,its2,n2,r2,hl2,e2⟩:=I.lstM hB
 have hsz:its.toArray.size+its2.toArray.size≤sizeLine:=by rw[List.size_toArray,List.size_toArray];omega
 have hlong:¬(!its.toArray.isEmpty&&Builtin.List.listTooLong (its.toArray.size+its2.toArray.size))=true:=by
  rw[Iw hsz,Bool.and_false]
  exact Bool.false_ne_true
 refine call_meets F.slot_list_extend ⟨_,e,rfl⟩ F.entry_list_extend (F.args_list_extend_2 _ _)
  (AutoSeq1.list_extend_list_list_0 l its.toArray n b its2.toArray n2 hlong (by rw[List.size_toArray];omega) (by omega)) ⟨e,e2,?_⟩
 refine⟨.non,_,I.lset (its':=its++its2) hH e (by simp) (r.append r2) ?_,rfl,q⟩
 rw[List.length_append]
 omega

def rCat:R2:=fun x y H Q=>∃l b xs zs,x=.ref l∧y=.ref b∧H l=some (.lst xs)∧H b=some (.lst zs)∧xs.length+zs.length≤sizeLine∧∀p,H p=none→Q (.ref p) (upd H p (.lst (xs++zs)))
theorem Tp:OpR X (binaryOp .Add) rCat:=by
 intro pins s σ H x y v u Q I rx ry h
 obtain⟨l,b,xs,zs,rfl,rfl,hH,hB,hz,q⟩:=h
 cases rx
 cases ry
 obtain⟨z,its,n,r,hl,e⟩:=I.lstM hH
 obtain⟨z2,its2,n2,r2,hl2,e2⟩:=I.lstM hB
 refine PySem.P.add_list e e2 ?_ (by rw[List.size_toArray,List.size_toArray];omega)
 have ea:its.toArray++its2.toArray=(its++its2).toArray:=by simp
 rw[ea]
 exact⟨.ref _,_,I.lnew (t':=s.toks) (r.append r2) (by rw[List.length_append];omega),rfl,q _ I.fresh⟩
def rRep:R2:=fun x y H Q=>∃l k xs,x=.ref l∧y=.int k∧H l=some (.lst xs)∧-(2 ^ 63)≤k∧k<2 ^ 63∧xs.length*k.toNat≤sizeLine∧
 ∀p,H p=none→Q (.ref p) (upd H p (.lst (List.replicate k.toNat xs).flatten))
theorem Hm{α:Type}(xs:List α)(k:Nat):(List.replicate k xs).flatten.length=k*xs.length:=by
 induction k with
 |zero=>simp
 |succ k ih=>rw[List.replicate_succ,List.flatten_cons,List.length_append,ih,Nat.succ_mul,Nat.add_comm]
theorem Tj:OpR X (binaryOp .Mult) rRep:=by
 intro pins s σ H x y v u Q I rx ry h
 obtain⟨l,k,xs,rfl,rfl,hH,h1,h2,hz,q⟩:=h
 cases rx
 obtain⟨t,rfl⟩:=ry
 obtain⟨z,its,n,r,hl,e⟩:=I.lstM hH
 have hlen:its.toArray.size*k.toNat≤sizeLine:=by rw[List.size_toArray,←hl];exact hz
 have hcap:¬its.toArray.size*k.toNat>(2 ^ 63-1) / 8:=by
  have:(sizeLine:Nat)≤(2 ^ 63-1) / 8:=by decide
  omega
 have hfit:¬(!Builtin.List.listFitsIndex k)=true:=by
  rw[fitsIndex_both h1 h2]
  exact Bool.false_ne_true
 have hlong:¬Builtin.List.listTooLong (its.toArray.size*k.toNat)=true:=by
  rw[Iw hlen]
  exact Bool.false_ne_true
 have hnew:List.foldl (fun x1 x2=>x1++x2) #[] (List.replicate (if its.toArray.isEmpty=true then 0 else k.toNat) its.toArray)=(List.replicate k.toNat its).flatten.toArray:=by
  have f0:∀m:Nat,List.foldl (fun x1 x2=>x1++x2) #[] (List.replicate m its.toArray)=(List.replicate m its).flatten.toArray:=fun m=>by
   have:=C9 its m []
   rw[List.nil_append] at this
   exact this
  rw[f0]
  cases its with
  |nil=>simp
  |cons a r'=>rw[if_neg (by simp)]
 refine wpAny_binaryOp_repeat_ref (T:="list") (U:="int") (by decide) ⟨_,e,rfl⟩ (fun s'=>typeIs_int s' k t) noFill_list_mul F.fills_int_mul F.slot_int_rmul repeat_list F.slot_int_index.lookup
  (call_meets F.slot_int_rmul (typeIs_int s k t) F.entry_int_rmul (F.args_int_rmul_2 _ _) (int___rmul___int_list k t l its.toArray n)
   ⟨e,rfl,⟨_,e,rfl⟩,call_meets F.slot_list_mul ⟨_,e,rfl⟩ F.entry_list_mul (F.args_list_mul_2 _ _) (AutoListH.list___mul___list_int_3 l its.toArray n k t hfit hcap hlong) ⟨e,?_⟩⟩)
 rw[hnew]
 exact⟨.ref _,_,I.lnew (t':=s.toks) (r.rep k.toNat) (by rw[Hm,Nat.mul_comm];exact hz),rfl,q _ I.fresh⟩

end
section
variable{prog:Program}{w:World}{A:Around}{E:Value→Shared→Prop}{s:Shared}
end
section
variable{X:Cx}
end
end L2
namespace L2
open PySem PySem.Spec PyProof.Rows
section
variable{κ:Type}[DecidableEq κ]
def P3(kvs:List (κ×V))(k:κ):Option V:=(kvs.find? fun kv=>decide (kv.1=k)).map (·.2)
def F2(kvs:List (κ×V))(k:κ)(v:V):List (κ×V):=
 if (kvs.any fun kv=>decide (kv.1=k))=true then kvs.map (fun kv=>if kv.1=k then (kv.1,v) else kv) else kvs++[(k,v)]
theorem Jq(kvs:List (κ×V))(k:κ)(v:V):(F2 kvs k v).length≤kvs.length+1:=by
 unfold F2
 split
 ·rw[List.length_map];omega
 ·rw[List.length_append,List.length_cons,List.length_nil];omega
theorem KV.any{kvs:List (κ×V)}{vs:List (κ×Value)}(r:KV kvs vs)(k:κ):(kvs.any fun kv=>decide (kv.1=k))=vs.any fun kv=>decide (kv.1=k):=by
 unfold KV at r
 induction r with
 |nil=>rfl
 |cons h t ih=>rw[List.any_cons,List.any_cons,ih,h.1]
theorem KV.repl{kvs:List (κ×V)}{vs:List (κ×Value)}(r:KV kvs vs)(k:κ){y:V}{u:Value}(ry:RelV y u) :
  KV (kvs.map fun kv=>if kv.1=k then (kv.1,y) else kv) (vs.map fun kv=>if kv.1=k then (kv.1,u) else kv):=by
 unfold KV at r ⊢
 induction r with
 |nil=>exact .nil
 |@cons p q ps qs h t ih=>
  rw[List.map_cons,List.map_cons]
  refine .cons ?_ ih
  obtain⟨h1,h2⟩:=h
  by_cases e:p.1=k
  ·rw[if_pos e,if_pos (h1.symm.trans e)];exact⟨h1,ry⟩
  ·rw[if_neg e,if_neg (fun z=>e (h1.trans z))];exact⟨h1,h2⟩
theorem KV.put{kvs:List (κ×V)}{vs:List (κ×Value)}(r:KV kvs vs)(k:κ){y:V}{u:Value}(ry:RelV y u):KV (F2 kvs k y) (stored vs k u):=by
 unfold F2 stored
 rw[r.any k]
 by_cases e:(vs.any fun kv=>decide (kv.1=k))=true
 ·rw[if_pos e,if_pos e];exact r.repl k ry
 ·rw[if_neg e,if_neg e];exact Paired.snoc r ⟨rfl,ry⟩
theorem KV.length{kvs:List (κ×V)}{vs:List (κ×Value)}(r:KV kvs vs):kvs.length=vs.length:=Paired.length r
end
theorem Ru{P:Program}{w:World}{k:Key}{u:Value}(r:RelV (kV k) u):(Bc P w).is k u=true:=by
 cases k with
 |inl i=>obtain⟨t,e⟩:=(show ∃t,u=Value.int i t from r);subst e;exact Jp P w i t
 |inr x=>obtain⟨t,e⟩:=(show ∃t,u=Value.str x t from r);subst e;exact Jo P w x t
section
variable{P:Program}{w:World}{H:Hp}{h:Heap}{a:Addr}
theorem U9{u:HO}(ok:HOk P w H h)(e:Rd H a u):ObjOk P w H h a u:=e.ok ok
theorem Vs{kvs:List (Key×V)}(ok:HOk P w H h)(e:Rd H a (.dK kvs)):kvs.length≤sizeLine∧(a == sysModules)=false∧∃vs,KV kvs vs∧h.DictOf (Bc P w) a vs:=
 show ObjOk P w H h a (.dK kvs) from U9 ok e
theorem Ry{kvs:List (Key×V)}(ok:HOk P w H h)(e:H a=some (.dK kvs)):kvs.length≤sizeLine∧(a == sysModules)=false∧∃vs,KV kvs vs∧h.DictOf (Bc P w) a vs:=Vs ok (.inl e)
end
def DGet(H:Hp)(a:Addr)(y:V)(r:Option V):Prop:=
 (∃kvs k,Rd H a (.dK kvs)∧y=kV k∧r=P3 kvs k)∨∃kvs k b,Rd H a (.dT kvs)∧y=.ref b∧H b=some (.tup (k.map kV))∧r=P3 kvs k
def DPut(H:Hp)(a:Addr)(y v:V)(H':Hp):Prop:=
 (∃kvs k,H a=some (.dK kvs)∧y=kV k∧kvs.length<sizeLine∧H'=upd H a (.dK (F2 kvs k v)))∨
 ∃kvs k b,H a=some (.dT kvs)∧y=.ref b∧H b=some (.tup (k.map kV))∧kvs.length<sizeLine∧H'=upd H a (.dT (F2 kvs k v))
theorem DGet.k{H:Hp}{a:Addr}{kvs:List (Key×V)}{k:Key}(e:H a=some (.dK kvs)):DGet H a (kV k) (P3 kvs k):=.inl ⟨kvs,k,.inl e,rfl,rfl⟩
theorem DGet.t{H:Hp}{a b:Addr}{kvs:List (List Key×V)}{k:List Key}(e:H a=some (.dT kvs))(eb:H b=some (.tup (k.map kV))):DGet H a (.ref b) (P3 kvs k):=.inr ⟨kvs,k,b,.inl e,rfl,eb,rfl⟩
theorem DPut.k{H:Hp}{a:Addr}{kvs:List (Key×V)}{k:Key}{v:V}(e:H a=some (.dK kvs))(hl:kvs.length<sizeLine):DPut H a (kV k) v (upd H a (.dK (F2 kvs k v))):=.inl ⟨kvs,k,e,rfl,hl,rfl⟩
theorem DPut.t{H:Hp}{a b:Addr}{kvs:List (List Key×V)}{k:List Key}{v:V}(e:H a=some (.dT kvs))(eb:H b=some (.tup (k.map kV)))(hl:kvs.length<sizeLine) :
  DPut H a (.ref b) v (upd H a (.dT (F2 kvs k v))):=.inr ⟨kvs,k,b,e,rfl,eb,hl,rfl⟩


section
variable{X:Cx}{pins:List (Addr×Obj)}{σ:St}{H:Hp}{s:Shared}{a:Addr}{y v:V}{u r:Value}{o:Option V}{A:Around}{E:Value→Shared→Prop}
theorem Inv.big(I:Inv X pins σ H s):sysModules<s.heap.objs.size:=by
 have h:mainGlobals<s.heap.objs.size:=(I.mod.glob.keeps I.bk).lt
 exact Nat.lt_trans (by decide) h

theorem Rg{h':Heap}{t':Nat}{ob:HO}(I:Inv X pins σ H s)(mu:Mut (H a))(hs:Heap.SameBut a s.heap h')(he:∃q,h'.get? a=some q)(new:ObjOk X.prog X.w (upd H a ob) h' a ob) :
  Inv X pins σ (upd H a ob) { s with heap:=h',toks:=t' }:=
 I.write (x:=a) (e:=a) mu (.inl rfl) (fun b q hb z=>(hs.2 b hb).trans z) he new
theorem Uc{P:Program}{w:World}{H':Hp}{h':Heap}{kvs:List (Key×V)}{vs:List (Key×Value)}(z:kvs.length≤sizeLine)(hd:(a == sysModules)=false)(rel:KV kvs vs)(dd:h'.DictOf (Bc P w) a vs) :
  ObjOk P w H' h' a (.dK kvs):=⟨z,hd,vs,rel,dd⟩
end
section
variable{X:Cx}{pins:List (Addr×Obj)}{σ:St}{H:Hp}{s:Shared}{a:Addr}{kvs:List (Key×V)}{k:Key}{u:Value}{A:Around}{E:Value→Shared→Prop}
end
section
variable{X:Cx}{o i e value:Expr}{pos pos' tpos:Pos}{td ty tv:TE}
end
theorem Jf{P:Program}{w:World}{H:Hp}(h:Heap)(hb:sysModules<h.objs.size):ObjOk P w H (h.push { cls:=.type "dict",data:=.dict #[] }) h.objs.size (.dK []):=
 ⟨Nat.zero_le _,beq_eq_false_iff_ne.mpr (Ne.symm (Nat.ne_of_lt hb)),[],.nil,Heap.DictOf.new h⟩
def Sk:TE:=fun _ H Q=>∀p,H p=none→Q (.ref p) (upd H p (.dK []))
section
variable{X:Cx}{pos:Pos}
theorem pe_dnewK:PE X (.Dict [] [] pos) Sk:=fun pins s σ H Q I h=>
 wpAny_Dict_empty ⟨.ref s.heap.objs.size,_,I.laid (a:=s.heap.objs.size) (o:=.dK []) (t':=s.toks) (fun _ _ q=>Heap.get?_push_of_some _ q) (Nat.le_refl _) (Jf s.heap I.big),rfl,h _ (I.hok.fresh (Nat.le_refl _))⟩
end
section
variable{X:Cx}{pins:List (Addr×Obj)}{σ:St}{H:Hp}{s:Shared}{a:Addr}{y d:V}{u r:Value}{o:Option V}{A:Around}{E:Value→Shared→Prop}
end
section
variable{X:Cx}{o e f:Expr}{apos cpos:Pos}{td ty tx:TE}
end
section
variable{X:Cx}{pins:List (Addr×Obj)}{σ:St}{H:Hp}{s:Shared}{a:Addr}{kvs:List (Key×V)}{A:Around}{E:Value→Shared→Prop}
end
section
variable{X:Cx}{pins:List (Addr×Obj)}{σ:St}{H:Hp}{s:Shared}{a:Addr}{y:V}{u:Value}{A:Around}{E:Value→Shared→Prop}
end
end L2
namespace Att
open PySem PySem.W PySem.Calls PyProof.Rows
theorem Er{P:Params}{h:Heap}:∀(ns:List Int) (vs:List Value),WellAll P h vs (ns.map WData.int)→IntsAre vs ns:=by
 intro ns
 induction ns with
 |nil=>
  intro vs w
  rw[List.map_nil] at w
  cases w
  exact .nil
 |cons n ns ih=>
  intro vs w
  rw[List.map_cons] at w
  cases w with
  |cons a b=>
   cases a
   exact .cons _ _ (ih _ b)

theorem L9{l:OpenLaw}{n:Nat}(hn:l.most=some n){P:Params}{h:Heap}{args:List WData}{vals:List Value}(hpre:l.row.toRowW.claim.pre args=true)(hwl:WellAll P h vals args) :
  ∃a vs ns,vals=[Value.ref a]∧args=[WData.list (ns.map WData.int)]∧h.get? a=some { cls:=.type "list",data:=.seq vs.toArray }∧IntsAre vs ns∧ns.length≤n:=by
 have hsh:WShape.hasAll [] args [.list .int]=true:=(pre_splitW hpre).1
 have hc:l.pre.holds [] { args:=args }=true:=(pre_splitW hpre).2
 obtain⟨d,r,rfl,h1,h2⟩:=hasAllW_cons hsh
 obtain rfl:=hasAllW_nil h2
 obtain⟨xs,rfl,h3⟩:=hasW_list h1
 obtain⟨ns,rfl⟩:=items_int h3
 have hlen:ns.length≤n:=by
  unfold OpenLaw.pre at hc
  have h4:(WTm.not (.lt (.lit (.int (n:Int))) (.len (.arg 0)))).holds [] { args:=[.list (ns.map .int)] }=true:=by
   have h4:=(holds_andW hc).1
   rw[hn] at h4
   exact h4
  have h5:=condW_of h4 (w_not (w_lt w_lit (w_len_list (w_arg rfl))))
  rw[List.length_map] at h5
  refine Nat.le_of_not_lt fun q=>?_
  have q':(n:Int)<((ns.length:Nat):Int):=by omega
  first
   |(rw[decide_eq_true q'] at h5;exact absurd h5 (by decide))
   |(simp at h5;omega)
 cases hwl with
 |cons w1 w2=>
  cases w2
  cases w1 with
  |list ho hall=>exact⟨_,_,ns,rfl,rfl,ho,Er ns _ hall,hlen⟩

theorem Mc(l:OpenLaw)(args:List WData):l.row.toRowW.claim.post args (.bool true) args=true:=
 postW_of (r:=l.row.toRowW) (X:=(true == true))
  (show WShape.has [] (.bool true) .bool=true by first|rfl|decide|simp[WShape.has,WShape.arms,WShape.armsAll])
  (show(WTm.eq .res (.lit (.bool true))).value [] { args:=args,res:=some (.bool true),after:=args }=some (.bool (true == true)) from w_eq_bool (w_res rfl) w_lit) rfl

theorem attach_call{l:OpenLaw}{n:Nat}{q:Program}{loose:List Str}{XP:(Str→Option Value)→Heap→Prop}{YP:World→Heap→Prop}{d:DefRec}(hn:l.most=some n)(hdf:d.params.defaults=[])(call:∀(w:World) (s₀ s₁:Shared) (mg mb:Str→Option Value) (fa:Addr) (o:Obj) (pm cd doc:Value) (a:Addr) (vs:List Value) (ns:List Int),
   Ground q loose [] XP w s₀ mg mb s₁.heap→YP w s₁.heap→
   s₁.heap.get? fa=some o→o.data=.func (docDef d.name d.params d.body d.scope pm cd doc)→s₁.heap.CodeRec cd d.name→mg d.name=some (.ref fa)→
   s₁.heap.get? a=some { cls:=.type "list",data:=.seq vs.toArray }→IntsAre vs ns→ns.length≤n→s₁.gens=#[]→
   codeAny (model l.prog w) callerA (.call (.ref fa) ⟨[.ref a],[]⟩) (fun r s'=>r=.ok (.ret (.bool true))∧OldK s₁.heap s'.heap∧s'.os=s₁.os∧AllBare s'.gens) s₁) :
  WalkO q loose XP YP l.row.toRowW d [] (fun f vs=>PySem.call f vs):=by
 intro w s₀ s₁ mg mb G Y fa o pm cd doc dV kV ho hd hcd hD hmg hg args vals as hpre hlay hrd hwl hlo
 obtain rfl:dV=.none:=Dflts.none hD hdf
 obtain rfl:kV=.none:=Dflts.noKw hD
 obtain⟨a,vs,ns,rfl,rfl,hobj,hints,hlen⟩:=L9 hn hpre hwl
 refine enter_call (codeAny_mono (call w s₀ s₁ mg mb fa o pm cd doc a vs ns G Y ho (fd_plain hd) hcd hmg hobj hints hlen hg) fun r s' hq=>?_)
 obtain⟨rfl,h2,h3,h4⟩:=hq
 exact⟨.inl ⟨.bool true,.bool true,[],rfl,fun _=>rfl,.bool true,Mc l _,fun _=>⟨List.Pairwise.nil,fun _ hm=>(nomatch hm)⟩⟩,h2,h3,h4⟩

section
variable{prog:Program}{w:World}{A:Around}{E:Value→Shared→Prop}{s:Shared}{K:Frag}
end
end Att
namespace L2
open PySem PySem.Spec PyProof.Rows
theorem vals_ints:∀{vs:List Value} {ns:List Int},IntsAre vs ns→Vals (ns.map V.int) vs
 |_,_,.nil=>.nil
 |_,_,.cons n t h=>.cons ⟨t,rfl⟩ (vals_ints h)

end L2
namespace L2
open PySem PySem.Spec PyProof.Rows
abbrev KOf{K:W.Frag}{h:Heap}(_:K.In h):PySem.W.Frag:=K

end L2
namespace L2
open PySem PySem.Spec PyProof.Rows
def C8(s:Stmt):Arguments:=match s with
 |.FunctionDef _ a _ _ _ _ _ _ _ _=>a
 |_=>{ posonlyargs:=[],args:=[],vararg:=none,kwonlyargs:=[],kw_defaults:=[],kwarg:=none,defaults:=[] }
def Bl(s:Stmt):List Stmt:=match s with
 |.FunctionDef _ _ b _ _ _ _ _ _ _=>b
 |_=>[]
def defScope(s:Stmt):Scope:=match s with
 |.FunctionDef _ _ _ _ _ _ sc _ _ _=>sc
 |_=>{ kind:=.function,names:=[],isGenerator:=false,isCoroutine:=false }

abbrev CX0:CXT:=fun _ _ _ _ _ _=>False
abbrev E0:XK:=fun _ _ _=>False
structure Fun(K:PySem.W.Frag)(x qual:Str)(st:Stmt)(f:Addr)(fd:FuncData):Prop where
 ex:∃(oc:Value) (od:Option Addr) (kV doc pm:Value) (an:Option Addr) (cdv ct:Value) (osl:Array (Option Value)),
  fd=PySem.W.fnOf x qual (C8 st) (Bl st) (defScope st) .none kV doc pm an cdv ct∧K.lookup f=some ⟨oc,od,.func fd,osl⟩∧PySem.W.codeIn K cdv qual=true
 kp:PySem.W.keepIn K (.ref f)=true
section
variable{P:Program}{w:World}{K:W.Frag}{mg:Str→Option Value}{base:Heap}
theorem Fun.ok{x qual:Str}{st:Stmt}{f:Addr}{fd:FuncData}{N ps:List Str}{k:Nat}{sp:Sp}(F:Fun K x qual st f fd)(S:FnScope N ps (defScope st))(len:∀vs H Q E,sp vs H Q E→vs.length=ps.length)(hbody:∀(cdv:Value) (A:Around) (outer:List Env) (s:Shared) (H:Hp) (vs:List V) (Q:VK) (E:XK),Room k (A.deeper (envOfC qual (defScope st) s.heap.objs.size f cdv))→sp vs H Q E→
   ∃t,PSs (Bz CX0 P w K mg base N qual (defScope st) f cdv A outer s H E).nox (Bl st) t∧t { nx:=fun _ H'=>Q .non H',rt:=Q } (B9 N vs) H):FnOk P w K mg base CX0 (k+1) f fd ps sp:=by
 obtain⟨oc,od,kV,doc,pm,an,cdv,ct,osl,rfl,lk,hcd⟩:=F.ex
 refine Np lk hcd S len fun A outer s H vs Q E hr hsp=>?_
 obtain⟨t,h,q⟩:=hbody cdv A outer s H vs Q E hr hsp
 exact⟨t,h.nox,q⟩
theorem Fun.binds{x qual:Str}{st:Stmt}{f:Addr}{fd:FuncData}{ps:List Str}(F:Fun K x qual st f fd)(h:∀(kV doc pm:Value) (an:Option Addr) (cdv ct:Value) (us:List Value),us.length=ps.length→bindArgs (PySem.W.fnOf x qual (C8 st) (Bl st) (defScope st) .none kV doc pm an cdv ct) ⟨us,[]⟩=pure (ps.zip us)):Binds K fd ps []:=by
 obtain⟨oc,od,kV,doc,pm,an,cdv,ct,osl,rfl,lk,hcd⟩:=F.ex
 exact .all (h kV doc pm an cdv ct)
theorem Oa{x qual:Str}{st:Stmt}{f:Addr}{oc:Value}{od an:Option Addr}{osl:Array (Option Value)}{kV doc pm cdv ct:Value}(l:K.lookup f=some ⟨oc,od,.func (PySem.W.fnOf x qual (C8 st) (Bl st) (defScope st) .none kV doc pm an cdv ct),osl⟩)(c:PySem.W.codeIn K cdv qual=true)(k:PySem.W.keepIn K (.ref f)=true):Fun K x qual st f (PySem.W.fnOf x qual (C8 st) (Bl st) (defScope st) .none kV doc pm an cdv ct):=⟨⟨oc,od,kV,doc,pm,an,cdv,ct,osl,rfl,l,c⟩,k⟩
end
theorem L8{n:Nat}(h:n≤1000):n<sizeLine:=Nat.lt_of_le_of_lt h (by decide)

section
variable{X:Cx}
end
def Same(H H':Hp):Prop:=∀b o,H b=some o→H' b=some o
theorem Same.trans{H H1 H2:Hp}(a:Same H H1)(b:Same H1 H2):Same H H2:=fun c o h=>b c o (a c o h)
theorem Same.free{H H':Hp}(e:Same H H'){l:Addr}(h:H' l=Option.none):H l=Option.none:=by
 cases q:H l with
 |none=>rfl
 |some o=>
  rw[e l o q] at h
  cases h
section
variable{X:Cx}
end
section
variable{κ:Type}[DecidableEq κ]
end
end L2
namespace D3
open PySem PySem.Spec
open PyProof.Rows hiding St
open L2 hiding St
inductive D where
 |non|bl (b:Bool)|int (i:Int)|str (x:Str)|tup (ds:List D)|ref (a:Addr)|ty (n:String)|lint (ns:List Int)
 deriving Inhabited

def RdI(K:PySem.W.Frag)(H:Hp)(a:Addr)(xs:List V):Prop:=(∃o,H a=some (.frz o (.lst xs)))∨
 ∃(o:Obj) (its:Array Value) (n:Nat),K.lookup a=some o∧o.cls=.type "list"∧o.dict=none∧o.data=.seq its n∧its.size≤sizeLine∧Vals xs its.toList
theorem RdI.sq{K:W.Frag}{H:Hp}{a:Addr}{xs:List V}(h:RdI K H a xs):SqL K H a xs:=h.elim (fun⟨o,e⟩=>.inl (.inr ⟨o,e⟩)) .inr
mutual
inductive DV (K:PySem.W.Frag) (H:Hp):D→V→Prop where
 |non:DV K H .non .non
 |bl (b:Bool):DV K H (.bl b) (.bl b)
 |int (i:Int):DV K H (.int i) (.int i)
 |str (x:Str):DV K H (.str x) (.str x)
 |ref (a:Addr):DV K H (.ref a) (.ref a)
 |ty (n:String):DV K H (.ty n) (.ty n)
 |lint {ns:List Int} {a:Addr} (e:RdI K H a (ns.map V.int)):DV K H (.lint ns) (.ref a)
 |tup {ds:List D} {a:Addr} {xs:List V} (e:H a=some (.tup xs)) (r:DVs K H ds xs):DV K H (.tup ds) (.ref a)
inductive DVs (K:PySem.W.Frag) (H:Hp):List D→List V→Prop where
 |nil:DVs K H [] []
 |cons {d:D} {v:V} {ds:List D} {vs:List V} (h:DV K H d v) (t:DVs K H ds vs):DVs K H (d::ds) (v::vs)
end
structure Ext(H H':Hp):Prop where
 tup:∀b xs,H b=some (.tup xs)→H' b=some (.tup xs)
 frz:∀b o u,H b=some (.frz o u)→H' b=some (.frz o u)
theorem Ext.refl(H:Hp):Ext H H:=⟨fun _ _ h=>h,fun _ _ _ h=>h⟩
theorem Ext.trans{H H1 H2:Hp}(a:Ext H H1)(b:Ext H1 H2):Ext H H2:=⟨fun c xs h=>b.tup c xs (a.tup c xs h),fun c o u h=>b.frz c o u (a.frz c o u h)⟩
theorem Ext.fresh{H:Hp}{p:Addr}{o:HO}(h:H p=none):Ext H (upd H p o):=⟨fun b xs e=>by
 rw[Ac (Ai e h)];exact e,fun b ob u e=>by rw[Ac (Ai e h)];exact e⟩
theorem Ext.write{H:Hp}{p:Addr}{o u:HO}(h:H p=some u)(n:∀xs,u≠.tup xs)(m:∀ob w,u≠.frz ob w):Ext H (upd H p o):=⟨fun b xs e=>by
 rw[Ac (Ge e h fun z=>n xs z.symm)];exact e,fun b ob w e=>by rw[Ac (Ge e h fun z=>m ob w z.symm)];exact e⟩
theorem RdI.ext{K:W.Frag}{H H':Hp}{a:Addr}{xs:List V}(h:RdI K H a xs)(x:Ext H H'):RdI K H' a xs:=h.elim (fun⟨o,e⟩=>.inl ⟨o,x.frz _ _ _ e⟩) .inr
section
variable{K:W.Frag}
mutual
theorem DV.ext{H H':Hp}(x:Ext H H'):∀{d:D} {v:V},DV K H d v→DV K H' d v
 |_,_,.non=>.non
 |_,_,.bl b=>.bl b
 |_,_,.int i=>.int i
 |_,_,.str s=>.str s
 |_,_,.ref a=>.ref a
 |_,_,.ty n=>.ty n
 |_,_,.lint e=>.lint (e.ext x)
 |_,_,.tup e r=>.tup (x.tup _ _ e) (DVs.ext x r)
theorem DVs.ext{H H':Hp}(x:Ext H H'):∀{ds:List D} {vs:List V},DVs K H ds vs→DVs K H' ds vs
 |_,_,.nil=>.nil
 |_,_,.cons h t=>.cons (DV.ext x h) (DVs.ext x t)
end
theorem DVs.length{H:Hp}:∀{ds:List D} {vs:List V},DVs K H ds vs→ds.length=vs.length
 |_,_,.nil=>rfl
 |_,_,.cons _ t=>congrArg (· + 1) t.length
theorem DVs.get{H:Hp}:∀{ds:List D} {vs:List V} {i:Nat} {d:D},DVs K H ds vs→ds[i]? = some d→∃v,vs[i]? = some v∧DV K H d v
 |_,_,_,_,.nil,e=>by simp at e
 |_,_,0,_,.cons h _,e=>by simp at e;subst e;exact⟨_,rfl,h⟩
 |_,_,i+1,d,.cons _ t,e=>by
  obtain⟨v,h1,h2⟩:=DVs.get (i:=i) (d:=d) t (by simpa using e)
  exact⟨v,by simpa using h1,h2⟩
theorem DVs.get'{H:Hp}:∀{ds:List D} {vs:List V} {i:Nat} {v:V},DVs K H ds vs→vs[i]? = some v→∃d,ds[i]? = some d∧DV K H d v
 |_,_,_,_,.nil,e=>by simp at e
 |_,_,0,_,.cons h _,e=>by simp at e;subst e;exact⟨_,rfl,h⟩
 |_,_,i+1,d,.cons _ t,e=>by
  obtain⟨v,h1,h2⟩:=DVs.get' (i:=i) (v:=d) t (by simpa using e)
  exact⟨v,by simpa using h1,h2⟩
theorem DVs.append{H:Hp}:∀{ds es:List D} {vs ws:List V},DVs K H ds vs→DVs K H es ws→DVs K H (ds++es) (vs++ws)
 |_,_,_,_,.nil,s=>s
 |_,_,_,_,.cons h t,s=>.cons h (t.append s)
theorem DVs.set{H:Hp}{d:D}{v:V}(r:DV K H d v):∀{ds:List D} {vs:List V} (i:Nat),DVs K H ds vs→DVs K H (ds.set i d) (vs.set i v)
 |_,_,_,.nil=>.nil
 |_,_,0,.cons _ t=>.cons r t
 |_,_,i+1,.cons h t=>.cons h (DVs.set r i t)
theorem DVs.take{H:Hp}:∀{ds:List D} {vs:List V} (n:Nat),DVs K H ds vs→DVs K H (ds.take n) (vs.take n)
 |_,_,0,_=>.nil
 |_,_,_+1,.nil=>.nil
 |_,_,n+1,.cons h t=>.cons h (t.take n)
theorem DVs.drop{H:Hp}:∀{ds:List D} {vs:List V} (n:Nat),DVs K H ds vs→DVs K H (ds.drop n) (vs.drop n)
 |_,_,0,r=>r
 |_,_,_+1,.nil=>.nil
 |_,_,n+1,.cons _ t=>t.drop n
theorem DVs.ints{H:Hp}:∀{ns:List Int},DVs K H (ns.map D.int) (ns.map V.int)
 |[]=>.nil
 |_::_=>.cons (.int _) DVs.ints
theorem DVs.one{H:Hp}{d:D}{vs:List V}(r:DVs K H [d] vs):∃v,vs=[v]∧DV K H d v:=by
 cases r with|cons h t=>cases t;exact⟨_,rfl,h⟩
theorem DVs.two{H:Hp}{d e:D}{vs:List V}(r:DVs K H [d,e] vs):∃v w,vs=[v,w]∧DV K H d v∧DV K H e w:=by
 cases r with|cons h t=>cases t with|cons h' t'=>cases t';exact⟨_,_,rfl,h,h'⟩

end
inductive GO where
 |lst (ds:List D)
 |dct (kvs:List (List Key×D))
 |dkk (kvs:List (Key×D))
 /-- an instance of the class at C,its attributes -/
 |ins (C:Addr) (fs:List (Str×D))
 /-- the codes that were made within a def;q: how they are called -/
 |tbl (q:Str)
 /-- a thing that never changes,of which ok holds (a function,an exception) -/
 |any (ok:Hp→Addr→Prop)
abbrev Gp:=Addr→Option GO
def Ab(G:Gp)(a:Addr)(o:GO):Gp:=fun b=>if b=a then some o else G b
theorem Aa{G:Gp}{a:Addr}{o:GO}:Ab G a o a=some o:=if_pos rfl
theorem As{G:Gp}{a b:Addr}{o:GO}(h:b≠a):Ab G a o b=G b:=if_neg h
theorem Bm{G:Gp}{a:Addr}{o u:GO}:Ab (Ab G a o) a u=Ab G a u:=by
 funext b;unfold Ab;split<;>rfl
theorem L4{G:Gp}{a:Addr}{o:GO}(h:G a=some o):Ab G a o=G:=by
 funext b;unfold Ab
 by_cases h1:b=a
 ·subst h1;rw[if_pos rfl,h]
 ·rw[if_neg h1]
theorem gne{G:Gp}{a b:Addr}{o:GO}(h:G a=some o)(h':G b=none):a≠b:=by
 intro e;subst e;rw[h] at h';cases h'

def CodeIs(o:Obj)(q:Str):Prop:=∃vs t,o.data=.fields vs∧vs[1]? = some (.str q t)
def GOk(K:PySem.W.Frag)(H:Hp)(a:Addr):GO→Prop
 |.lst ds=>∃xs,H a=some (.lst xs)∧DVs K H ds xs
 |.dct kvs=>∃ks,H a=some (.dT ks)∧Paired (fun(p:List Key×D) (q:List Key×V)=>p.1=q.1∧DV K H p.2 q.2) kvs ks
 |.dkk kvs=>∃ks,H a=some (.dK ks)∧Paired (fun(p:Key×D) (q:Key×V)=>p.1=q.1∧DV K H p.2 q.2) kvs ks
 |.ins C fs=>∃dx ks,H a=some (.ins C dx ks)∧Paired (fun(p:Str×D) (q:Str×V)=>p.1=q.1∧DV K H p.2 q.2) fs ks
 |.tbl q=>∃ps,H a=some (.tbl ps)∧TriplesOk ps.toList∧∀pos cv,codeAmong pos ps.toList=some cv→∃c o u,cv=.ref c∧H c=some (.frz o u)∧CodeIs o q
 |.any ok=>(∃o u,H a=some (.frz o u))∧∀H',Ext H H'→ok H' a
def RelG(K:PySem.W.Frag)(H:Hp)(G:Gp):Prop:=∀a o,G a=some o→GOk K H a o

theorem GOk.upd{K:W.Frag}{H:Hp}{a p:Addr}{o:GO}{u:HO}(h:GOk K H a o)(x:Ext H (L2.upd H p u))(n:H p=none∨a≠p):GOk K (L2.upd H p u) a o:=by
 have ne:∀u,H a=some u→a≠p:=fun u e=>n.elim (fun z=>Ai e z) id
 cases o with
 |lst ds=>obtain⟨xs,e,r⟩:=h;exact⟨xs,by rw[Ac (ne _ e)];exact e,r.ext x⟩
 |dct kvs=>obtain⟨ks,e,r⟩:=h;exact⟨ks,by rw[Ac (ne _ e)];exact e,L2.Paired.mapP r fun _ _ z=>⟨z.1,z.2.ext x⟩⟩
 |dkk kvs=>obtain⟨ks,e,r⟩:=h;exact⟨ks,by rw[Ac (ne _ e)];exact e,L2.Paired.mapP r fun _ _ z=>⟨z.1,z.2.ext x⟩⟩
 |ins C fs=>obtain⟨dx,ks,e,r⟩:=h;exact⟨dx,ks,by rw[Ac (ne _ e)];exact e,L2.Paired.mapP r fun _ _ z=>⟨z.1,z.2.ext x⟩⟩
 |tbl q=>obtain⟨ps,e,t,r⟩:=h;exact⟨ps,by rw[Ac (ne _ e)];exact e,t,fun pos cv h1=>let ⟨c,o,u,a1,a2,a3⟩:=r pos cv h1;⟨c,o,u,a1,x.frz _ _ _ a2,a3⟩⟩
 |any ok=>obtain⟨⟨o,u,e⟩,r⟩:=h;exact⟨⟨o,u,x.frz _ _ _ e⟩,fun H' y=>r H' (x.trans y)⟩
theorem RelG.free{K:W.Frag}{H:Hp}{G:Gp}(r:RelG K H G){p:Addr}(h:H p=none):G p=none:=by
 cases q:G p with
 |none=>rfl
 |some o=>
  have z:=r p o q
  cases o with
  |lst ds=>obtain⟨_,e,_⟩:=z;rw[h] at e;cases e
  |dct ds=>obtain⟨_,e,_⟩:=z;rw[h] at e;cases e
  |dkk ds=>obtain⟨_,e,_⟩:=z;rw[h] at e;cases e
  |ins C fs=>obtain⟨_,_,e,_⟩:=z;rw[h] at e;cases e
  |tbl q=>obtain⟨_,e,_⟩:=z;rw[h] at e;cases e
  |any ok=>obtain⟨⟨_,_,e⟩,_⟩:=z;rw[h] at e;cases e
theorem RelG.tup{K:W.Frag}{H:Hp}{G:Gp}(r:RelG K H G){p:Addr}{u:HO}(h:H p=none):RelG K (upd H p u) G:=fun a o e=>(r a o e).upd (Ext.fresh h) (.inl h)
theorem RelG.ext'{K:W.Frag}{H:Hp}{G G':Gp}(r:RelG K H G)(s:∀a o,G' a=some o→G a=some o):RelG K H G':=fun a o e=>r a o (s a o e)

abbrev DSt:=List (Option D)
abbrev St:=L2.St
def RelS(K:PySem.W.Frag)(H:Hp)(σD:DSt)(σ:St):Prop:=σD.length=σ.length∧∀(i:Nat) d,σD[i]? = some (some d)→∃v,σ[i]? = some (some v)∧DV K H d v
theorem RelS.ext{K:W.Frag}{H H':Hp}{σD:DSt}{σ:St}(r:RelS K H σD σ)(x:Ext H H'):RelS K H' σD σ:=⟨r.1,fun i d e=>let ⟨v,h1,h2⟩:=r.2 i d e;⟨v,h1,h2.ext x⟩⟩
theorem RelS.set{K:W.Frag}{H:Hp}{σD:DSt}{σ:St}(r:RelS K H σD σ){d:D}{v:V}(h:DV K H d v)(i:Nat):RelS K H (σD.set i (some d)) (σ.set i (some v)):=by
 refine⟨by rw[List.length_set,List.length_set];exact r.1,fun j e q=>?_⟩
 by_cases hj:i=j
 ·subst hj
  rw[List.getElem?_set] at q ⊢
  rw[if_pos rfl] at q ⊢
  have hl:=r.1
  split at q
  ·rename_i hi
   cases q
   exact⟨v,by rw[if_pos (by omega)],h⟩
  ·cases q
 ·rw[List.getElem?_set_ne hj] at q ⊢
  exact r.2 j e q

abbrev DK:=D→Gp→Prop
abbrev DTE:=DSt→Gp→DK→Prop
abbrev DTT:=DSt→Gp→(Bool→Gp→Prop)→Prop
abbrev DTA:=DSt→Gp→(List D→Gp→Prop)→Prop
structure DEnds where
 nx:DSt→Gp→Prop
 rt:DK
 bk:DSt→Gp→Prop:=fun _ _=>False
 ct:DSt→Gp→Prop:=fun _ _=>False
abbrev DTS:=DEnds→DSt→Gp→Prop

def Fwd(K:PySem.W.Frag)(H:Hp)(G':Gp)(Q:Hp→Prop):Prop:=∀H',Ext H H'→RelG K H' G'→Q H'
theorem Fwd.go{K:W.Frag}{H H1:Hp}{G':Gp}{Q:Hp→Prop}(f:Fwd K H G' Q)(x:Ext H H1):Fwd K H1 G' Q:=fun H' y r=>f H' (x.trans y) r

def Bx(K:PySem.W.Frag)(t:DTE):TE:=fun σ H Q=>∃σD G Q',RelS K H σD σ∧RelG K H G∧t σD G Q'∧∀d G',Q' d G'→Fwd K H G' fun H'=>∀v,DV K H' d v→Q v H'
def Ei(K:PySem.W.Frag)(t:DTT):TT:=fun σ H Q=>∃σD G Q',RelS K H σD σ∧RelG K H G∧t σD G Q'∧∀b G',Q' b G'→Fwd K H G' fun H'=>Q b H'
def Rt(K:PySem.W.Frag)(t:DTA):TA:=fun σ H Q=>∃σD G Q',RelS K H σD σ∧RelG K H G∧t σD G Q'∧∀ds G',Q' ds G'→Fwd K H G' fun H'=>∀vs,DVs K H' ds vs→Q vs H'
structure DEnds.Reach(K:PySem.W.Frag)(H:Hp)(D:DEnds)(E:Ends):Prop where
 nx:∀σD G',D.nx σD G'→Fwd K H G' fun H'=>∀σ,RelS K H' σD σ→E.nx σ H'
 rt:∀d G',D.rt d G'→Fwd K H G' fun H'=>∀v,DV K H' d v→E.rt v H'
 bk:∀σD G',D.bk σD G'→Fwd K H G' fun H'=>∀σ,RelS K H' σD σ→E.bk σ H'
 ct:∀σD G',D.ct σD G'→Fwd K H G' fun H'=>∀σ,RelS K H' σD σ→E.ct σ H'
theorem DEnds.Reach.go{K:W.Frag}{H H1:Hp}{D:DEnds}{E:Ends}(r:D.Reach K H E)(x:Ext H H1):D.Reach K H1 E:=
 ⟨fun σ G h=>(r.nx σ G h).go x,fun d G h=>(r.rt d G h).go x,fun σ G h=>(r.bk σ G h).go x,fun σ G h=>(r.ct σ G h).go x⟩
def E8(K:PySem.W.Frag)(t:DTS):TS:=fun E σ H=>∃σD G D,RelS K H σD σ∧RelG K H G∧t D σD G∧D.Reach K H E

def QE(X:Cx)(e:Expr)(t:DTE):Prop:=PE X e (Bx X.K t)
def QT(X:Cx)(e:Expr)(t:DTT):Prop:=PT X e (Ei X.K t)
def QW(X:Cx)(e:Expr)(t:DTT):Prop:=PW X e (Ei X.K t)
def QA(X:Cx)(es:List Expr)(t:DTA):Prop:=PA X es (Rt X.K t)
def QS(X:Cx)(s:Stmt)(t:DTS):Prop:=PS X s (E8 X.K t)
def QSs(X:Cx)(s:List Stmt)(t:DTS):Prop:=PSs X s (E8 X.K t)

theorem _root_.L2.PE.imp{X:Cx}{e:Expr}{t t':TE}(h:PE X e t)(f:∀σ H Q,t' σ H Q→t σ H Q):PE X e t':=fun pins s σ H Q I q=>h pins s σ H Q I (f σ H Q q)
theorem _root_.L2.PT.imp{X:Cx}{e:Expr}{t t':TT}(h:PT X e t)(f:∀σ H Q,t' σ H Q→t σ H Q):PT X e t':=fun pins s σ H Q I q=>h pins s σ H Q I (f σ H Q q)
theorem _root_.L2.PW.imp{X:Cx}{e:Expr}{t t':TT}(h:PW X e t)(f:∀σ H Q,t' σ H Q→t σ H Q):PW X e t':=fun w pins s σ H Q I q=>h w pins s σ H Q I (f σ H Q q)
theorem _root_.L2.PA.imp{X:Cx}{e:List Expr}{t t':TA}(h:PA X e t)(f:∀σ H Q,t' σ H Q→t σ H Q):PA X e t':=fun p pins s σ H Q I q=>h p pins s σ H Q I (f σ H Q q)
theorem _root_.L2.PS.imp{X:Cx}{e:Stmt}{t t':TS}(h:PS X e t)(f:∀D σ H,t' D σ H→t D σ H):PS X e t':=fun pins s σ H D I q=>h pins s σ H D I (f D σ H q)
theorem _root_.L2.PSs.imp{X:Cx}{e:List Stmt}{t t':TS}(h:PSs X e t)(f:∀D σ H,t' D σ H→t D σ H):PSs X e t':=fun pins s σ H D I q=>h pins s σ H D I (f D σ H q)

section
variable{X:Cx}{a b c e:Expr}{ta tb tc te:DTE}{pos:Pos}
def Ap(i:Nat):DTE:=fun σ G Q=>∃d,σ[i]? = some (some d)∧Q d G
def nC(d:D):DTE:=fun _ G Q=>Q d G
theorem Nh{i:Nat}{x:Str}(hN:X.N[i]? = some x:=by rfl)(hv:Vis X.env.scope x:=by first|exact Or.inl rfl|exact Or.inr (Or.inl rfl)|exact Or.inr (Or.inr rfl))(hd:(x == ("__debug__" : Str))=false:=by decide)(hcd:(x == ("__classdict__" : Str))=false:=by decide):QE X (.Name x pos) (Ap i):=(Kc hN hv hd hcd).imp fun σ H Q ⟨σD,G,Q',rs,rg,⟨d,e,q⟩,cl⟩=>by
 obtain⟨v,e1,r⟩:=rs.2 i d e
 exact⟨v,e1,cl d G q H (Ext.refl H) rg v r⟩
theorem E4{v:V}{d:D}(h:PE X e (tC v))(r:∀H,DV X.K H d v):QE X e (nC d):=h.imp fun σ H Q ⟨σD,G,Q',rs,rg,q,cl⟩=>cl d G q H (Ext.refl H) rg v (r H)
theorem q_int{i j pos}:QE X (.Constant (.int i) j pos) (nC (.int i)):=E4 Tg fun _=>.int i
theorem q_bl{b j pos}:QE X (.Constant (.bool b) j pos) (nC (.bl b)):=E4 Vh fun _=>.bl b
theorem q_non{j pos}:QE X (.Constant .none j pos) (nC .non):=E4 Te fun _=>.non
theorem q_str{x j pos}:QE X (.Constant (.str x) j pos) (nC (.str x)):=E4 N0 fun _=>.str x
theorem Sy{x:Str}{i:Int}{t:Tok}(hm:X.mg x=some (.int i t))(hg:Gl X x:=by rfl)(hd:(x == ("__debug__" : Str))=false:=by decide):QE X (.Name x pos) (nC (.int i)):=E4 (v:=.int i) (Lh hg hm ⟨t,rfl⟩ hd) fun _=>.int i
theorem q_globty{x:Str}{n:String}(hm:X.mg x=none)(hv:bootBuiltins x=some (.type n))(hg:Gl X x:=by rfl)(hn:x≠"__name__":=by decide)(hd:(x == ("__debug__" : Str))=false:=by decide):QE X (.Name x pos) (nC (.ty n)):=
 E4 (v:=.ty n) (Qr hg hm hv rfl hn hd) fun _=>.ty n

abbrev DR2:=D→D→Gp→DK→Prop
def Il(K:PySem.W.Frag)(r:DR2):R2:=fun x y H Q=>∃dx dy G Q',DV K H dx x∧DV K H dy y∧RelG K H G∧r dx dy G Q'∧∀d G',Q' d G'→Fwd K H G' fun H'=>∀v,DV K H' d v→Q v H'
def QOp(X:Cx)(f:Value→Value→Sem Value)(r:DR2):Prop:=OpR X f (Il X.K r)
theorem _root_.L2.OpR.imp{f:Value→Value→Sem Value}{r r':R2}(h:OpR X f r)(g:∀x y H Q,r' x y H Q→r x y H Q):OpR X f r':=fun pins s σ H x y v u Q I rx ry q=>h pins s σ H x y v u Q I rx ry (g x y H Q q)
def nOp(r:DR2)(ta tb:DTE):DTE:=fun σ G Q=>ta σ G fun x G1=>tb σ G1 fun y G2=>r x y G2 Q
theorem Ev{K:W.Frag}{r:DR2}{σ:St}{H:Hp}{Q:VK}(h:Bx K (nOp r ta tb) σ H Q):tOp (Il K r) (Bx K ta) (Bx K tb) σ H Q:=by
 obtain⟨σD,G,Q',rs,rg,h,cl⟩:=h
 refine⟨σD,G,_,rs,rg,h,fun x G1 h1 H1 x1 rg1 v1 d1=>?_⟩
 refine⟨σD,G1,_,rs.ext x1,rg1,h1,fun y G2 h2 H2 x2 rg2 v2 d2=>?_⟩
 exact⟨x,y,G2,Q',d1.ext x2,d2,rg2,h2,fun d G' q=>(cl d G' q).go (x1.trans x2)⟩
theorem q_op{op:Operator}{r:DR2}(ho:QOp X (binaryOp op) r)(ha:QE X a ta)(hb:QE X b tb):QE X (.BinOp a op b pos) (nOp r ta tb):=(Vf ho ha hb).imp fun _ _ _ h=>Ev h
def dI(C:Int→Int→Prop)(g:Int→Int→D):DR2:=fun x y G Q=>∃i,x=.int i∧∃j,y=.int j∧C i j∧Q (g i j) G
def dI0(g:Int→Int→D):DR2:=fun x y G Q=>∃i,x=.int i∧∃j,y=.int j∧Q (g i j) G
theorem Nj{f:Value→Value→Sem Value}{C:Int→Int→Prop}{g:Int→Int→V}{g':Int→Int→D}(h:OpR X f (rI C g))(e:∀H i j,DV X.K H (g' i j) (g i j)):QOp X f (dI C g'):=L2.OpR.imp h fun x y H Q ⟨dx,dy,G,Q',hx,hy,rg,⟨i,ei,j,ej,c,q⟩,cl⟩=>by
 subst ei ej
 cases hx;cases hy
 exact⟨i,j,rfl,rfl,c,cl _ G q H (Ext.refl H) rg _ (e H i j)⟩
theorem J9{f:Value→Value→Sem Value}{g:Int→Int→V}{g':Int→Int→D}(h:OpR X f (rI0 g))(e:∀H i j,DV X.K H (g' i j) (g i j)):QOp X f (dI0 g'):=L2.OpR.imp h fun x y H Q ⟨dx,dy,G,Q',hx,hy,rg,⟨i,ei,j,ej,q⟩,cl⟩=>by
 subst ei ej
 cases hx;cases hy
 exact⟨i,j,rfl,rfl,cl _ G q H (Ext.refl H) rg _ (e H i j)⟩
theorem K7:QOp X (binaryOp .Sub) (dI0 fun i j=>.int (i-j)):=J9 Ti fun _ _ _=>.int _
theorem Dm:QOp X (binaryOp .Mult) (dI CMul fun i j=>.int (i*j)):=Nj Tl fun _ _ _=>.int _
theorem N3:QOp X (binaryOp .FloorDiv) (dI J1 fun i j=>.int (i / j)):=Nj Qt fun _ _ _=>.int _
theorem Dn:QOp X (binaryOp .Mod) (dI (fun _ j=>0<j) fun i j=>.int (i % j)):=Nj To fun _ _ _=>.int _
theorem P6:QOp X (compareOp .Lt) (dI0 fun i j=>.bl (decide (i<j))):=J9 Vj fun _ _ _=>.bl _
theorem o_le:QOp X (compareOp .LtE) (dI0 fun i j=>.bl (decide (i≤j))):=J9 Vk fun _ _ _=>.bl _
end
section
variable{K:W.Frag}
theorem RelG.lst{H:Hp}{G:Gp}(r:RelG K H G){p:Addr}{ds:List D}{xs:List V}(hp:H p=none)(rv:DVs K H ds xs):RelG K (upd H p (.lst xs)) (Ab G p (.lst ds)):=fun a o e=>by
 by_cases h:a=p
 ·subst h
  rw[Aa] at e;cases e
  exact⟨xs,Ad,rv.ext (Ext.fresh hp)⟩
 ·rw[As h] at e
  exact(r a o e).upd (Ext.fresh hp) (.inl hp)
theorem C6{H:Hp}{p:Addr}{xs:List V}{o:HO}(h:H p=some (.lst xs)):Ext H (upd H p o):=Ext.write h (fun _ z=>nomatch z) fun _ _ z=>nomatch z
theorem RelG.lstw{H:Hp}{G:Gp}(r:RelG K H G){p:Addr}{ds:List D}{xs ys:List V}(hp:H p=some (.lst ys))(rv:DVs K H ds xs):RelG K (upd H p (.lst xs)) (Ab G p (.lst ds)):=fun a o e=>by
 by_cases h:a=p
 ·subst h
  rw[Aa] at e;cases e
  exact⟨xs,Ad,rv.ext (C6 hp)⟩
 ·rw[As h] at e
  exact(r a o e).upd (C6 hp) (.inr h)
end
section
variable{X:Cx}{a b c e:Expr}{ta tb tc te:DTE}{pos:Pos}
def Bg(t:DTE):DTT:=fun σ G Q=>t σ G fun x G'=>∃k,x=.bl k∧Q k G'
theorem Gm{K:W.Frag}{t:DTE}{σ:St}{H:Hp}{Q:Bool→Hp→Prop}(h:Ei K (Bg t) σ H Q):Bx K t σ H fun x H'=>∃k,x=.bl k∧Q k H':=by
 obtain⟨σD,G,Q',rs,rg,h,cl⟩:=h
 refine⟨σD,G,_,rs,rg,h,fun d G' ⟨k,ek,q⟩ H' x r v dv=>?_⟩
 subst ek;cases dv
 exact⟨k,rfl,cl k G' q H' x r⟩
theorem Nk{op:CmpOp}{r:DR2}(ho:QOp X (compareOp op) r)(ha:QE X a ta)(hb:QE X b tb)(hm:behindInMarks op b=false):QE X (.Compare a [op] [b] pos) (nOp r ta tb):=(Qp ho ha hb hm).imp fun _ _ _ h=>Ev h
theorem qt_cmp{op:CmpOp}{r:DR2}(ho:QOp X (compareOp op) r)(ha:QE X a ta)(hb:QE X b tb)(hm:behindInMarks op b=false):QT X (.Compare a [op] [b] pos) (Bg (nOp r ta tb)):=
 (Qm ho ha hb hm).imp fun _ _ _ h=>Ev (Gm h)
def Cc(r r':DR2)(ta tb tc:DTE):DTE:=fun σ G Q=>ta σ G fun x G1=>tb σ G1 fun y G2=>r x y G2 fun z G3=>∃k,z=.bl k∧
 (if k=true then tc σ G3 fun w' G4=>r' y w' G4 Q else Q (.bl false) G3)
theorem Fw{K:W.Frag}{r r':DR2}{σ:St}{H:Hp}{Q:VK}(h:Bx K (Cc r r' ta tb tc) σ H Q):J2 (Il K r) (Il K r') (Bx K ta) (Bx K tb) (Bx K tc) σ H Q:=by
 obtain⟨σD,G,Q',rs,rg,h,cl⟩:=h
 refine⟨σD,G,_,rs,rg,h,fun x G1 h1 H1 x1 rg1 v1 d1=>?_⟩
 refine⟨σD,G1,_,rs.ext x1,rg1,h1,fun y G2 h2 H2 x2 rg2 v2 d2=>?_⟩
 refine⟨x,y,G2,_,d1.ext x2,d2,rg2,h2,fun z G3 h3 H3 x3 rg3 v3 d3=>?_⟩
 obtain⟨k,ek,h3⟩:=h3
 subst ek;cases d3
 refine⟨k,rfl,?_⟩
 cases k with
 |true=>
  rw[if_pos rfl] at h3 ⊢
  refine⟨σD,G3,_,rs.ext (x1.trans (x2.trans x3)),rg3,h3,fun w4 G4 h4 H4 x4 rg4 v4 d4=>?_⟩
  exact⟨y,w4,G4,Q',d2.ext (x3.trans x4),d4,rg4,h4,fun d G' q=>(cl d G' q).go (x1.trans (x2.trans (x3.trans x4)))⟩
 |false=>
  rw[if_neg Bool.false_ne_true] at h3 ⊢
  exact cl _ G3 h3 H3 (x1.trans (x2.trans x3)) rg3 _ (.bl false)
theorem Lf{op op':CmpOp}{r r':DR2}(ho:QOp X (compareOp op) r)(ho':QOp X (compareOp op') r')(ha:QE X a ta)(hb:QE X b tb)(hc:QE X c tc)(hm:lastMarks [op,op'] [b,c]=false:=by with_unfolding_all rfl):QE X (.Compare a [op,op'] [b,c] pos) (Cc r r' ta tb tc):=(O5 ho ho' ha hb hc hm).imp fun _ _ _ h=>Fw h
theorem qt_chain{op op':CmpOp}{r r':DR2}(ho:QOp X (compareOp op) r)(ho':QOp X (compareOp op') r')(ha:QE X a ta)(hb:QE X b tb)(hc:QE X c tc)(hm:lastMarks [op,op'] [b,c]=false:=by with_unfolding_all rfl):QT X (.Compare a [op,op'] [b,c] pos) (Bg (Cc r r' ta tb tc)):=(Oy ho ho' ha hb hc hm).imp fun _ _ _ h=>Fw (Gm h)

def eqS:D→D→Option Bool
 |.int i,.int j=>some (decide (i=j))
 |.bl i,.bl j=>some (decide (i=j))
 |.str i,.str j=>some (decide (i=j))
 |.non,.non=>some true
 |.non,.int _=>some false|.int _,.non=>some false|.non,.bl _=>some false|.bl _,.non=>some false|.non,.str _=>some false|.str _,.non=>some false
 |.int _,.str _=>some false|.str _,.int _=>some false|.bl _,.str _=>some false|.str _,.bl _=>some false
 |_,_=>none
theorem Je{H:Hp}{K:W.Frag}{x y:D}{v u:V}{k:Bool}(h:eqS x y=some k)(hx:DV K H x v)(hy:DV K H y u):R5 v u=true∧decide (v=u)=k:=by
 cases hx<;>cases hy<;>simp only[eqS,Option.some.injEq,reduceCtorEq] at h<;>subst h<;>refine⟨rfl,?_⟩<;>simp
def dEq:DR2:=fun x y G Q=>∃k,eqS x y=some k∧Q (.bl k) G
def dNe:DR2:=fun x y G Q=>∃k,eqS x y=some k∧Q (.bl (!k)) G
theorem Gw:QOp X (compareOp .Eq) dEq:=L2.OpR.imp Vl fun x y H Q ⟨dx,dy,G,Q',hx,hy,rg,⟨k,ek,q⟩,cl⟩=>by
 obtain⟨h1,h2⟩:=Je ek hx hy
 refine⟨h1,?_⟩
 rw[h2]
 exact cl _ G q H (Ext.refl H) rg _ (.bl k)
theorem o_ne:QOp X (compareOp .NotEq) dNe:=L2.OpR.imp Vi fun x y H Q ⟨dx,dy,G,Q',hx,hy,rg,⟨k,ek,q⟩,cl⟩=>by
 obtain⟨h1,h2⟩:=Je ek hx hy
 refine⟨h1,?_⟩
 rw[h2]
 exact cl _ G q H (Ext.refl H) rg _ (.bl (!k))
variable{t u:DTT}{rest:List Expr}
def Uw(t u:DTT):DTT:=fun σ G Q=>t σ G fun c G1=>if c=true then u σ G1 Q else Q false G1
def nOr(t u:DTT):DTT:=fun σ G Q=>t σ G fun c G1=>if c=true then Q true G1 else u σ G1 Q
def Df(t:DTT):DTT:=fun σ G Q=>t σ G fun c G1=>Q (!c) G1
theorem qw_and1(ha:QT X a t):QW X (.BoolOp .And [a] pos) t:=Ql ha
theorem qw_or1(ha:QT X a t):QW X (.BoolOp .Or [a] pos) t:=S1 ha
theorem qw_and(ha:QT X a t)(hb:QW X (.BoolOp .And (b::rest) pos) u):QW X (.BoolOp .And (a::b::rest) pos) (Uw t u):=(S2 ha hb).imp fun σ H Q ⟨σD,G,Q',rs,rg,h,cl⟩=>by
 refine⟨σD,G,_,rs,rg,h,fun k G1 h1 H1 x1 rg1=>?_⟩
 cases k with
 |true=>rw[if_pos rfl] at h1 ⊢;exact⟨σD,G1,Q',rs.ext x1,rg1,h1,fun b G' q=>(cl b G' q).go x1⟩
 |false=>rw[if_neg Bool.false_ne_true] at h1 ⊢;exact cl _ G1 h1 H1 x1 rg1
theorem qw_or(ha:QT X a t)(hb:QW X (.BoolOp .Or (b::rest) pos) u):QW X (.BoolOp .Or (a::b::rest) pos) (nOr t u):=(Vd ha hb).imp fun σ H Q ⟨σD,G,Q',rs,rg,h,cl⟩=>by
 refine⟨σD,G,_,rs,rg,h,fun k G1 h1 H1 x1 rg1=>?_⟩
 cases k with
 |true=>rw[if_pos rfl] at h1 ⊢;exact cl _ G1 h1 H1 x1 rg1
 |false=>rw[if_neg Bool.false_ne_true] at h1 ⊢;exact⟨σD,G1,Q',rs.ext x1,rg1,h1,fun b G' q=>(cl b G' q).go x1⟩
theorem qt_of(h:QW X e t):QT X e t:=h.pt
theorem qt_not(ha:QT X a t):QT X (.UnaryOp .Not a pos) (Df t):=(S3 ha).imp fun σ H Q ⟨σD,G,Q',rs,rg,h,cl⟩=>
 ⟨σD,G,_,rs,rg,h,fun k G1 h1 H1 x1 rg1=>cl _ G1 h1 H1 x1 rg1⟩
def K9(ta tb:DTE):DTE:=fun σ G Q=>ta σ G fun x G1=>∃c,x=.bl c∧if c=true then tb σ G1 Q else Q (.bl false) G1
def Nn(ta:DTE):DTE:=fun σ G Q=>ta σ G fun x G1=>∃c,x=.bl c∧Q (.bl (!c)) G1
theorem Ni{op}(h:QE X a ta):QE X (.BoolOp op [a] pos) ta:=Tc h
theorem q_and(ha:QE X a ta)(hb:QE X (.BoolOp .And (b::rest) pos) tb):QE X (.BoolOp .And (a::b::rest) pos) (K9 ta tb):=(Th ha hb).imp fun σ H Q ⟨σD,G,Q',rs,rg,h,cl⟩=>by
 refine⟨σD,G,_,rs,rg,h,fun d G1 ⟨k,ek,h1⟩ H1 x1 rg1 v dv=>?_⟩
 subst ek;cases dv
 refine⟨k,rfl,?_⟩
 cases k with
 |true=>rw[if_pos rfl] at h1 ⊢;exact⟨σD,G1,Q',rs.ext x1,rg1,h1,fun b G' q=>(cl b G' q).go x1⟩
 |false=>rw[if_neg Bool.false_ne_true] at h1 ⊢;exact cl _ G1 h1 H1 x1 rg1 _ (.bl false)
theorem q_not(ha:QE X a ta):QE X (.UnaryOp .Not a pos) (Nn ta):=(Td ha).imp fun σ H Q ⟨σD,G,Q',rs,rg,h,cl⟩=>by
 refine⟨σD,G,_,rs,rg,h,fun d G1 ⟨k,ek,h1⟩ H1 x1 rg1 v dv=>?_⟩
 subst ek;cases dv
 exact⟨k,rfl,cl _ G1 h1 H1 x1 rg1 _ (.bl _)⟩
def P4(G:Gp):D→Option Bool
 |.non=>some false
 |.bl b=>some b
 |.int i=>some (i != 0)
 |.str y=>if y.length≤sizeLine then some ((y.length:Int) != 0) else none
 |.tup ds=>some (!ds.isEmpty)
 |.lint ns=>some (!ns.isEmpty)
 |.ref a=>match G a with
  |some (.lst ds)=>some (!ds.isEmpty)
  |some (.dkk kvs)=>some (!kvs.isEmpty)
  |_=>none
 |_=>none
theorem isE{K:W.Frag}{H:Hp}{ds:List D}{vs:List V}(r:DVs K H ds vs):ds.isEmpty=vs.isEmpty:=by cases r<;>rfl
theorem Qe{K:W.Frag}{H:Hp}{G:Gp}{d:D}{v:V}{k:Bool}(rg:RelG K H G)(h:P4 G d=some k)(r:DV K H d v):Sb K v H k:=by
 cases r with
 |non=>cases h;rfl
 |bl b=>cases h;rfl
 |int i=>cases h;rfl
 |str y=>
  simp only[P4] at h
  split at h
  ·rename_i hy;cases h;exact⟨hy,rfl⟩
  ·cases h
 |tup e r=>
  cases h
  exact .inr (.inl ⟨_,.inl (.inl e),by rw[isE r]⟩)
 |@lint ns a e=>
  cases h
  exact .inl ⟨_,e.sq,by cases ns<;>rfl⟩
 |ref a=>
  simp only[P4] at h
  split at h
  ·rename_i ds q
   obtain⟨xs,e,r⟩:=rg a _ q
   cases h
   exact .inl ⟨xs,.inl (.inl e),by rw[isE r]⟩
  ·rename_i kvs q
   obtain⟨xs,e,r⟩:=rg a _ q
   cases h
   exact .inr (.inr ⟨xs,e,by cases r<;>rfl⟩)
  ·cases h
 |ty n=>cases h
def De(t:DTE):DTT:=fun σ G Q=>t σ G fun x G'=>∃k,P4 G' x=some k∧Q k G'
theorem qt_tru(ha:QE X a ta)(he:∀whole,isTrue a X.env whole=(do let v ←whole;standAt a.pos;holding [v] (truthy v)):=by intro _;rfl):QT X a (De ta):=(Ox ha he).imp fun σ H Q ⟨σD,G,Q',rs,rg,h,cl⟩=>by
 refine⟨σD,G,_,rs,rg,h,fun d G1 ⟨k,ek,h1⟩ H1 x1 rg1 v dv=>?_⟩
 exact⟨k,Qe rg1 ek dv,cl _ G1 h1 H1 x1 rg1⟩

variable{es:List Expr}{tA:DTA}
def Ao:DTA:=fun _ G Q=>Q [] G
def Ah(ta:DTE)(tr:DTA):DTA:=fun σ G Q=>ta σ G fun x G1=>tr σ G1 fun xs G2=>Q (x::xs) G2
theorem qa_nil:QA X [] Ao:=pa_nil.imp fun σ H Q ⟨σD,G,Q',rs,rg,h,cl⟩=>cl _ G h H (Ext.refl H) rg _ .nil
theorem Et(ha:QE X e te)(hr:QA X es tA)(hs:starEach (e::es) X.env=(false,eval e X.env)::starEach es X.env:=by rfl):QA X (e::es) (Ah te tA):=(Hj ha hr hs).imp fun σ H Q ⟨σD,G,Q',rs,rg,h,cl⟩=>by
 refine⟨σD,G,_,rs,rg,h,fun x G1 h1 H1 x1 rg1 v1 d1=>?_⟩
 refine⟨σD,G1,_,rs.ext x1,rg1,h1,fun ys G2 h2 H2 x2 rg2 v2 d2=>?_⟩
 exact cl _ G2 h2 H2 (x1.trans x2) rg2 _ (.cons (d1.ext x2) d2)
def Gx(t:DTA):DTE:=fun σ G Q=>t σ G fun xs G1=>xs.length≤sizeLine∧Q (.tup xs) G1
def Eo(t:DTA):DTE:=fun σ G Q=>t σ G fun xs G1=>xs.length≤sizeLine∧∀p,G1 p=none→Q (.ref p) (Ab G1 p (.lst xs))
theorem q_tup{x1}(h:QA X es tA):QE X (.Tuple es x1 pos) (Gx tA):=(Tb h).imp fun σ H Q ⟨σD,G,Q',rs,rg,h,cl⟩=>by
 refine⟨σD,G,_,rs,rg,h,fun ds G1 ⟨hl,q⟩ H1 x1 rg1 vs dv=>⟨by rw[←dv.length];exact hl,fun p hp=>?_⟩⟩
 exact cl _ G1 q _ (x1.trans (Ext.fresh hp)) (rg1.tup hp) _ (.tup Ad (dv.ext (Ext.fresh hp)))
theorem q_lst(h:QA X es tA):QE X (.List es pos) (Eo tA):=(Tf h).imp fun σ H Q ⟨σD,G,Q',rs,rg,h,cl⟩=>by
 refine⟨σD,G,_,rs,rg,h,fun ds G1 ⟨hl,q⟩ H1 x1 rg1 vs dv=>⟨by rw[←dv.length];exact hl,fun p hp=>?_⟩⟩
 exact cl _ _ (q p (rg1.free hp)) _ (x1.trans (Ext.fresh hp)) (rg1.lst hp dv) _ (.ref p)

def Ej(G:Gp)(x:D)(i:Int):Option D:=match x with
 |.tup ds=>atI ds i
 |.lint ns=>atI (ns.map D.int) i
 |.ref a=>match G a with
  |some (.lst ds)=>atI ds i
  |_=>none
 |_=>none
theorem Hr{K:W.Frag}{H:Hp}{ds:List D}{vs:List V}{i:Int}{d:D}(r:DVs K H ds vs)(h:atI ds i=some d):∃v,atI vs i=some v∧DV K H d v:=by
 unfold atI at h ⊢
 rw[←r.length]
 cases e:ixN ds.length i with
 |none=>rw[e] at h;cases h
 |some j=>rw[e] at h;exact r.get h
def dIx:DR2:=fun x y G Q=>∃i,y=.int i∧∃d,Ej G x i=some d∧Q d G
theorem _root_.L2.IxR.imp{r r':R2}(h:IxR X r)(g:∀x y H Q,r' x y H Q→r x y H Q):IxR X r':=fun va sl pins s σ H x y v u Q I rx ry q hs=>h va sl pins s σ H x y v u Q I rx ry (g x y H Q q) hs
theorem o_ix:IxR X (Il X.K dIx):=ix_seq.imp fun x y H Q ⟨dx,dy,G,Q',hx,hy,rg,⟨i,ei,d,ed,q⟩,cl⟩=>by
 subst ei;cases hy
 cases hx with
 |@tup ds a xs e r=>
  obtain⟨v,ev,dv⟩:=Hr r (show atI ds i=some d from ed)
  exact .inr (.inl ⟨a,xs,i,v,rfl,rfl,.inl (.inl e),ev,cl _ G q H (Ext.refl H) rg _ dv⟩)
 |@lint ns a e=>
  obtain⟨v,ev,dv⟩:=Hr (K:=X.K) (H:=H) DVs.ints (show atI (ns.map D.int) i=some d from ed)
  exact .inl ⟨a,_,i,v,rfl,rfl,e.sq,ev,cl _ G q H (Ext.refl H) rg _ dv⟩
 |ref a=>
  simp only[Ej] at ed
  split at ed
  ·rename_i ds g
   obtain⟨xs,e,r⟩:=rg a _ g
   obtain⟨v,ev,dv⟩:=Hr r ed
   exact .inl ⟨a,xs,i,v,rfl,rfl,.inl (.inl e),ev,cl _ G q H (Ext.refl H) rg _ dv⟩
  ·cases ed
 |_=>cases ed
theorem q_ix(ha:QE X a ta)(hb:QE X b tb)(hs:Lz b:=by intro _ _;rfl):QE X (.Subscript a b pos) (nOp dIx ta tb):=(Vg o_ix ha hb hs).imp fun _ _ _ h=>Ev h
end
section
variable{X:Cx}{a b c e:Expr}{ta tb tc te:DTE}{pos:Pos}{st:Stmt}{rest body orelse:List Stmt}{t u:DTS}
def A8:DTS:=fun D σ G=>D.nx σ G
def Bk(t u:DTS):DTS:=fun D σ G=>t { D with nx:=u D } σ G
theorem qss_nil:QSs X [] A8:=pss_nil.imp fun E σ H ⟨σD,G,D,rs,rg,h,cl⟩=>cl.nx σD G h H (Ext.refl H) rg σ rs
theorem Pf{K:W.Frag}{E:Ends}{σ:St}{H:Hp}(h:E8 K (Bk t u) E σ H):Ul (E8 K t) (E8 K u) E σ H:=by
 obtain⟨σD,G,D,rs,rg,h,cl⟩:=h
 refine⟨σD,G,_,rs,rg,h,⟨fun σ1 G1 h1 H1 x1 rg1 σ' rs1=>⟨σ1,G1,D,rs1,rg1,h1,cl.go x1⟩,cl.rt,cl.bk,cl.ct⟩⟩
theorem qss_cons(h1:QS X st t)(h2:QSs X rest u):QSs X (st::rest) (Bk t u):=(Ir h1 h2).imp fun _ _ _ h=>Pf h
theorem qss_one(h1:QS X st t):QSs X [st] t:=Hi h1
def E7(te:DTE):DTS:=fun D σ G=>te σ G fun _ G1=>D.nx σ G1
theorem Bv(he:QE X e te)(hs:swapsWith e none pos.line X.env=pure false:=by rfl):QS X (.Expr e pos) (E7 te):=(Lg he hs).imp fun E σ H ⟨σD,G,D,rs,rg,h,cl⟩=>
 ⟨σD,G,_,rs,rg,h,fun d G1 h1 H1 x1 rg1 v dv=>cl.nx σD G1 h1 H1 x1 rg1 σ (rs.ext x1)⟩
def A9(te:DTE):DTS:=fun D σ G=>te σ G D.rt
theorem qs_ret(he:QE X e te):QS X (.Return (some e) pos) (A9 te):=(Ny he).imp fun E σ H ⟨σD,G,D,rs,rg,h,cl⟩=>⟨σD,G,_,rs,rg,h,cl.rt⟩
def Cb(c:DTT)(t u:DTS):DTS:=fun D σ G=>c σ G fun b G1=>if b=true then t D σ G1 else u D σ G1
theorem qs_if{tc:DTT}(hc:QT X c tc)(ha:QSs X body t)(hb:QSs X orelse u):QS X (.If c body orelse pos) (Cb tc t u):=(Rp hc ha hb).imp fun E σ H ⟨σD,G,D,rs,rg,h,cl⟩=>by
 refine⟨σD,G,_,rs,rg,h,fun k G1 h1 H1 x1 rg1=>?_⟩
 cases k with
 |true=>rw[if_pos rfl] at h1 ⊢;exact⟨σD,G1,D,rs.ext x1,rg1,h1,cl.go x1⟩
 |false=>rw[if_neg Bool.false_ne_true] at h1 ⊢;exact⟨σD,G1,D,rs.ext x1,rg1,h1,cl.go x1⟩
def Tx:DTS:=fun _ _ _=>False
abbrev DTG:=D→DSt→Gp→(DSt→Gp→Prop)→Prop
abbrev Ij:=List D→DSt→Gp→(DSt→Gp→Prop)→Prop
def E9(K:PySem.W.Frag)(t:DTG):TG:=fun v σ H Q=>∃d σD G Q',DV K H d v∧RelS K H σD σ∧RelG K H G∧t d σD G Q'∧∀σD' G',Q' σD' G'→Fwd K H G' fun H'=>∀σ',RelS K H' σD' σ'→Q σ' H'
def T2(K:PySem.W.Frag)(t:Ij):TGs:=fun vs σ H Q=>∃ds σD G Q',DVs K H ds vs∧RelS K H σD σ∧RelG K H G∧t ds σD G Q'∧∀σD' G',Q' σD' G'→Fwd K H G' fun H'=>∀σ',RelS K H' σD' σ'→Q σ' H'
def QG(X:Cx)(e:Expr)(g:DTG):Prop:=PG X e (E9 X.K g)
def QGs(X:Cx)(es:List Expr)(g:Ij):Prop:=PGs X es (T2 X.K g)
theorem _root_.L2.PG.imp{X:Cx}{e:Expr}{t t':TG}(h:PG X e t)(f:∀v σ H Q,t' v σ H Q→t v σ H Q):PG X e t':=fun pins s σ H v u Q I r q=>h pins s σ H v u Q I r (f v σ H Q q)
theorem _root_.L2.PGs.imp{X:Cx}{e:List Expr}{t t':TGs}(h:PGs X e t)(f:∀v σ H Q,t' v σ H Q→t v σ H Q):PGs X e t':=fun pins s σ H v u Q I r q=>h pins s σ H v u Q I r (f v σ H Q q)
def A2(i:Nat):DTG:=fun d σ G Q=>Q (σ.set i (some d)) G
theorem qg_name{i:Nat}{x:Str}(hN:X.N.Nodup)(hi:X.N[i]? = some x:=by rfl)(hx:Loc X.env.scope x:=by first|exact Or.inl rfl|exact Or.inr rfl)(hf:X.fn x=true∨X.env.scope.names.lookup x=some .local:=by first|exact .inl rfl|exact .inr rfl|assumption):QG X (.Name x pos) (A2 i):=
 (Qo hN hi hx hf).imp fun v σ H Q ⟨d,σD,G,Q',dv,rs,rg,h,cl⟩=>cl _ G h H (Ext.refl H) rg _ (rs.set dv i)
def P8:Ij:=fun ds σ G Q=>ds=[]∧Q σ G
def La(t:DTG)(u:Ij):Ij:=fun ds σ G Q=>∃v r,ds=v::r∧t v σ G fun σ' G'=>u r σ' G' Q
theorem Hh:QGs X [] P8:=pgs_nil.imp fun v σ H Q ⟨d,σD,G,Q',dv,rs,rg,⟨e,h⟩,cl⟩=>by
 subst e;cases dv
 exact⟨rfl,cl _ G h H (Ext.refl H) rg _ rs⟩
theorem Ce{es:List Expr}{t:DTG}{u:Ij}(h1:QG X e t)(h2:QGs X es u)(hs:(assignEach (e::es) X.env).map (·.2)=assign e X.env::(assignEach es X.env).map (·.2):=by rfl):QGs X (e::es) (La t u):=(O2 h1 h2 hs).imp fun v σ H Q ⟨d,σD,G,Q',dv,rs,rg,⟨d1,r,e,h⟩,cl⟩=>by
 subst e
 cases dv with
 |@cons _ v1 _ vs h1 t1=>
  refine⟨v1,vs,rfl,d1,σD,G,_,h1,rs,rg,h,fun σ1 G1 q1 H1 x1 rg1 σ' rs1=>?_⟩
  exact⟨r,σ1,G1,Q',t1.ext x1,rs1,rg1,q1,fun σ2 G2 q=>(cl σ2 G2 q).go x1⟩
def P7(n:Nat)(t:Ij):DTG:=fun d σ G Q=>∃ds,d=.tup ds∧ds.length=n∧t ds σ G Q
theorem J7{es:List Expr}{k:Nat}{t:Ij}{n:Nat}(hc:X.calm=true)(h:QGs X es t)(hn:(assignEach es X.env).length=n:=by rfl)(hst:(assignEach es X.env).findIdx? (·.1)=none:=by rfl):QG X (.Tuple es k pos) (P7 n t):=(S8 hc h hn hst).imp fun v σ H Q ⟨d,σD,G,Q',dv,rs,rg,⟨ds,e,hl,h⟩,cl⟩=>by
 subst e
 cases dv with
 |@tup _ a xs e r=>exact⟨a,xs,rfl,.inl (.inl e),by rw[←r.length];exact hl,ds,σD,G,Q',r,rs,rg,h,cl⟩
abbrev Io:=D→D→D→Gp→(Gp→Prop)→Prop
def Q5(K:PySem.W.Frag)(t:Io):Nf:=fun o i v H Q=>∃d1 d2 d3 G Q',DV K H d1 o∧DV K H d2 i∧DV K H d3 v∧RelG K H G∧t d1 d2 d3 G Q'∧∀G',Q' G'→Fwd K H G' Q
def Uz(X:Cx)(t:Io):Prop:=PSet X (Q5 X.K t)
theorem _root_.L2.PSet.imp{X:Cx}{t t':Nf}(h:PSet X t)(f:∀o i v H Q,t' o i v H Q→t o i v H Q):PSet X t':=fun pins s σ H o i v ov iv u Q I r1 r2 r3 q=>h pins s σ H o i v ov iv u Q I r1 r2 r3 (f o i v H Q q)
def Nq:Io:=fun o i v G Q=>∃p,o=.ref p∧∃k,i=.int k∧∃ds,G p=some (.lst ds)∧∃j,ixN ds.length k=some j∧Q (Ab G p (.lst (ds.set j v)))
theorem J6:Uz X Nq:=set_list.imp fun o i v H Q ⟨d1,d2,d3,G,Q',h1,h2,h3,rg,⟨p,e1,k,e2,ds,eg,j,ej,q⟩,cl⟩=>by
 subst e1 e2
 cases h1;cases h2
 obtain⟨xs,ex,r⟩:=rg p _ eg
 exact⟨p,xs,k,j,rfl,rfl,ex,by rw[←r.length];exact ej,cl _ q _ (C6 ex) (rg.lstw ex (r.set h3 j))⟩
def R8(to ti:DTE)(t:Io):DTG:=fun v σ G Q=>to σ G fun o G1=>ti σ G1 fun i G2=>t o i v G2 fun G3=>Q σ G3
theorem J8{o i:Expr}{to ti:DTE}{t:Io}(ho:QE X o to)(hi:QE X i ti)(hs:Uz X t)(ha:∀v,assign (.Subscript o i pos) X.env v=(do
   let ov ←holding [v] (eval o X.env)
   let iv ←holding [v,ov] (eval i X.env)
   standAt pos
   holding [v,ov,iv] (setItem ov iv v)
   release [v,ov,iv] []):=by intro _;rfl):QG X (.Subscript o i pos) (R8 to ti t):=(S9 ho hi hs ha).imp fun v σ H Q ⟨d,σD,G,Q',dv,rs,rg,h,cl⟩=>by
 refine⟨σD,G,_,rs,rg,h,fun x G1 h1 H1 x1 rg1 v1 d1=>?_⟩
 refine⟨σD,G1,_,rs.ext x1,rg1,h1,fun y G2 h2 H2 x2 rg2 v2 d2=>?_⟩
 exact⟨x,y,d,G2,_,d1.ext x2,d2,dv.ext (x1.trans x2),rg2,h2,fun G3 q H3 x3 rg3=>cl σD G3 q H3 (x1.trans (x2.trans x3)) rg3 σ (rs.ext (x1.trans (x2.trans x3)))⟩
def Cr(te:DTE)(g:DTG):DTS:=fun D σ G=>te σ G fun x G1=>g x σ G1 D.nx
theorem Pg{K:W.Frag}{g:DTG}{E:Ends}{σ:St}{H:Hp}(h:E8 K (Cr te g) E σ H):R4 (Bx K te) (E9 K g) E σ H:=by
 obtain⟨σD,G,D,rs,rg,h,cl⟩:=h
 refine⟨σD,G,_,rs,rg,h,fun d G1 h1 H1 x1 rg1 v dv=>?_⟩
 exact⟨d,σD,G1,_,dv,rs.ext x1,rg1,h1,fun σ2 G2 q=>(cl.go x1).nx σ2 G2 q⟩
theorem D8{tg:Expr}{g:DTG}(he:QE X e te)(hg:QG X tg g)(hs:swapsWithSole [tg] e pos.line X.env=pure false:=by rfl)(hw:swappedStores [tg] e X.env=pure none:=by rfl)(h1:(assignEach [tg] X.env).map (·.2)=[assign tg X.env]:=by rfl):QS X (.Assign [tg] e pos) (Cr te g):=(S7 he hg hs hw h1).imp fun _ _ _ h=>Pg h
theorem qs_set{i:Nat}{x:Str}{pos':Pos}(hN:X.N.Nodup)(he:QE X e te)(hi:X.N[i]? = some x:=by rfl)(hx:Loc X.env.scope x:=by first|exact Or.inl rfl|exact Or.inr rfl)(hs:swapsWith e (some (.Name x pos')) pos.line X.env=pure false:=by rfl)(hf:X.fn x=true∨X.env.scope.names.lookup x=some .local:=by first|exact .inl rfl|exact .inr rfl|assumption) :
  QS X (.Assign [.Name x pos'] e pos) (Cr te (A2 i)):=(S5 hN hi hx he hs hf).imp fun E σ H ⟨σD,G,D,rs,rg,h,cl⟩=>
 ⟨σD,G,_,rs,rg,h,fun d G1 h1 H1 x1 rg1 v dv=>cl.nx _ G1 h1 H1 x1 rg1 _ ((rs.ext x1).set dv i)⟩
def L0(i j:Nat)(ta:DTA):DTS:=fun D σ G=>ta σ G fun vs G1=>∃v w,vs=[v,w]∧D.nx ((σ.set i (some v)).set j (some w)) G1
theorem qs_par{i j:Nat}{x y:Str}{tA:DTA}{px py pt:Pos}{kt k2 pt2}(hc:X.calm=true)(hN:X.N.Nodup)(ha:QA X [a,b] tA)(hi:X.N[i]? = some x:=by rfl)(hj:X.N[j]? = some y:=by rfl)(hij:i≠j:=by decide)(hx:X.env.scope.names.lookup x=some .local:=by rfl)(hy:X.env.scope.names.lookup y=some .local:=by rfl)(hw:swappedStores [.Tuple [.Name x px,.Name y py] kt pt] (.Tuple [a,b] k2 pt2) X.env=pure (some [x,y]):=by rfl)(hs:swapsWithSole [.Tuple [.Name x px,.Name y py] kt pt] (.Tuple [a,b] k2 pt2) pos.line X.env=pure false:=by rfl) :
  QS X (.Assign [.Tuple [.Name x px,.Name y py] kt pt] (.Tuple [a,b] k2 pt2) pos) (L0 i j tA):=(S6 hc hN hi hj hij hx hy ha hw hs).imp fun E σ H ⟨σD,G,D,rs,rg,h,cl⟩=>by
 refine⟨σD,G,_,rs,rg,h,fun ds G1 ⟨d1,d2,e,h1⟩ H1 x1 rg1 vs dv=>?_⟩
 subst e
 obtain⟨v,w,rfl,r1,r2⟩:=dv.two
 exact⟨v,w,rfl,cl.nx _ G1 h1 H1 x1 rg1 _ (((rs.ext x1).set r1 i).set r2 j)⟩
def Sub(G G':Gp):Prop:=∀a o,G a=some o→G' a=some o
theorem Sub.refl(G:Gp):Sub G G:=fun _ _ h=>h
theorem Sub.trans{G G1 G2:Gp}(a:Sub G G1)(b:Sub G1 G2):Sub G G2:=fun c o h=>b c o (a c o h)
theorem Sub.new{G:Gp}{p:Addr}{o:GO}(h:G p=none):Sub G (Ab G p o):=fun a u e=>by rw[As (gne e h)];exact e
theorem Sub.upd{G G':Gp}(s:Sub G G')(a:Addr)(o:GO):Sub (Ab G a o) (Ab G' a o):=fun b u e=>by
 by_cases h:b=a
 ·subst h;rw[Aa] at e ⊢;exact e
 ·rw[As h] at e ⊢;exact s b u e
theorem Sub.none{G G':Gp}(s:Sub G G'){p:Addr}(h:G' p=Option.none):G p=Option.none:=by
 cases e:G p with
 |none=>rfl
 |some o=>rw[s p o e] at h;cases h
theorem Sub.skip{G G':Gp}(s:Sub G G'){p:Addr}{o:GO}(h:G' p=Option.none):Sub G (Ab G' p o):=s.trans (Sub.new h)
def Fs(P:DSt→Gp→Prop)(σ:DSt)(G:Gp):Prop:=∃G',Sub G' G∧P σ G'
theorem Fs.of{P:DSt→Gp→Prop}{σ:DSt}{G:Gp}(h:P σ G):Fs P σ G:=⟨G,Sub.refl G,h⟩
def Az(G:Gp):D→Option (List D)
 |.tup ds=>some ds
 |.lint ns=>some (ns.map .int)
 |.ref a=>match G a with
  |some (.lst ds)=>some ds
  |_=>none
 |_=>none
def iSeq(K:PySem.W.Frag)(tl:TE):TI:=fun σ H R=>tl σ H fun x H1=>∃a,x=.ref a∧(((∃xs,SqL K H1 a xs)∧R (Itl K a) H1)∨((∃xs,SqT K H1 a xs)∧R (Itt K a) H1))
theorem Kb{tg l:Expr}{tl:TE}(hl:PE X l tl):PI X tg l (iSeq X.K tl):=by
 intro pins s σ H R I h
 refine thn (hl pins s σ H _ I h) fun v s1 ⟨x,H1,I1,r1,q1⟩=>?_
 obtain⟨a,e,q1⟩:=q1
 subst e
 cases r1
 have fin:∀(b:Addr),b∈[s1.heap.objs.size]→Dg X pins H1 b:=fun b hb=>by
  have e:b=s1.heap.objs.size:=by simpa using hb
  subst e
  exact I1.fpOk (Nat.le_refl _) (I1.hok.fresh (Nat.le_refl _))
 rcases q1 with ⟨⟨xs,hq⟩,q⟩|⟨⟨xs,hq⟩,q⟩
 ·obtain⟨its,rv,p,hz⟩:=I1.list hq
  refine wpAny_pyIter_list p.isList ?_
  exact⟨s1.heap.objs.size,[s1.heap.objs.size],_,_,H1,rfl,I1.kept (t':=s1.toks) fun b o e=>Heap.get?_push_of_some _ e,L5 a _,⟨_,Heap.get?_push_size _ rfl,rfl,rfl⟩,fin,q⟩
 ·obtain⟨its,rv,p,hz⟩:=I1.tuple hq
  refine wpAny_pyIter_tuple (show s1.heap.IsTuple a its.toArray from p) ?_
  exact⟨s1.heap.objs.size,[s1.heap.objs.size],_,_,H1,rfl,I1.kept (t':=s1.toks) fun b o e=>Heap.get?_push_of_some _ e,Ki a _,⟨_,Heap.get?_push_size _ rfl,rfl,rfl⟩,fin,q⟩
structure Items(K:PySem.W.Frag)(J:It)(G:Gp)(H:Hp)(ds:List D):Prop where
 go:∀i,i<ds.length→J.go i H
 yl:∀i x H',i<ds.length→J.yld i H x H'→H'=H∧∃d,ds[i]? = some d∧DV K H d x
 st:J.stop ds.length H
theorem Gn{K:W.Frag}{H:Hp}{G:Gp}{a:Addr}{ds:List D}{xs:List V}(e:SqL K H a xs)(r:DVs K H ds xs):Items K (Itl K a) G H ds:=by
 refine⟨fun i hi=>?_,fun i x H' hi y=>?_,⟨xs,e,by rw[←r.length];exact Nat.le_refl _⟩⟩
 ·rw[r.length] at hi
  exact⟨xs,xs[i],e,by simp[hi]⟩
 ·obtain⟨e1,e2⟩:=y
  exact⟨e1,r.get' (e2 xs e)⟩
theorem Ms{K:W.Frag}{H:Hp}{G:Gp}{a:Addr}{ds:List D}{xs:List V}(e:H a=some (.tup xs))(r:DVs K H ds xs):Items K (Itt K a) G H ds:=by
 refine⟨fun i hi=>?_,fun i x H' hi y=>?_,⟨xs,.inl (.inl e),by rw[←r.length];exact Nat.le_refl _⟩⟩
 ·rw[r.length] at hi
  exact⟨xs,xs[i],.inl (.inl e),by simp[hi]⟩
 ·obtain⟨e1,e2⟩:=y
  exact⟨e1,r.get' (e2 xs (.inl (.inl e)))⟩
end
section
variable{X:Cx}{a b c e:Expr}{ta tb tc te:DTE}{pos:Pos}{st:Stmt}{rest body orelse:List Stmt}{t u:DTS}
def jOf(K:PySem.W.Frag)(d:D)(a:Addr):It:=match d with
 |.tup _=>Itt K a
 |_=>Itl K a
theorem Dx{K:W.Frag}{H:Hp}{G:Gp}{d:D}{ds:List D}{a:Addr}(rg:RelG K H G)(h:Az G d=some ds)(dv:DV K H d (.ref a)):Items K (jOf K d a) G H ds:=by
 cases dv with
 |tup e r=>cases h;exact Ms e r
 |lint e=>cases h;exact Gn e.sq DVs.ints
 |ref=>
  simp only[Az] at h
  split at h
  ·rename_i ds' q
   cases h
   obtain⟨xs,e,r⟩:=rg a _ q
   exact Gn (.inl (.inl e)) r
  ·cases h
theorem Fo{K:W.Frag}{H:Hp}{G:Gp}{d:D}{ds:List D}{v:V}(h:Az G d=some ds)(dv:DV K H d v):∃a,v=.ref a:=by
 cases dv<;>first|exact⟨_,rfl⟩|cases h
def Ng(ds:List D)(same:Gp→Prop)(g:DTG)(tb:DTS)(D:DEnds)(σ:DSt)(G:Gp):Prop:=∃P:Nat→DSt→Gp→Prop,P 0 σ G∧(∀i σ G,i≤ds.length→P i σ G→same G)∧
 (∀i x σ G,ds[i]? = some x→P i σ G→g x σ G fun σ2 G2=>tb { D with nx:=Fs (P (i+1)),ct:=Fs (P (i+1)),bk:=D.nx } σ2 G2)∧∀σ G,P ds.length σ G→D.nx σ G
theorem Gk{K:W.Frag}{J:It}{ds:List D}{same:Gp→Prop}{g:DTG}{tb:DTS}{D:DEnds}{E:Ends}{σD:DSt}{σ:St}{G:Gp}{H:Hp}(rs:RelS K H σD σ)(rg:RelG K H G)(cl:D.Reach K H E)(hJ:∀H' G',Ext H H'→RelG K H' G'→same G'→Items K J G' H' ds)(h:Ng ds same g tb D σD G) :
  ∃W:Nat→Nat→St→Hp→Prop,(∃m,W 0 m σ H)∧∀i m σ H,W i m σ H→
   (J.stop i H∧E.nx σ H)∨(J.go i H∧∃N:St→Hp→Prop,(∀σ' H',N σ' H'→∃m',m'<m∧W (i+1) m' σ' H')∧∀x H',J.yld i H x H'→E9 K g x σ H' fun σ2 H2=>E8 K tb { E with nx:=N,ct:=N,bk:=E.nx } σ2 H2):=by
 obtain⟨P,p0,keep,step,fin⟩:=h
 refine⟨fun i m σ' H'=>m=ds.length-i∧i≤ds.length∧∃σD' G',RelS K H' σD' σ'∧RelG K H' G'∧Ext H H'∧P i σD' G',⟨ds.length,rfl,Nat.zero_le _,σD,G,rs,rg,Ext.refl H,p0⟩,?_⟩
 rintro i m σ1 H1 ⟨rfl,hi,σD1,G1,rs1,rg1,x1,p1⟩
 have I:=hJ H1 G1 x1 rg1 (keep i σD1 G1 hi p1)
 by_cases hlt:i<ds.length
 ·refine .inr ⟨I.go i hlt,fun σ' H'=>∃σD' G',RelS K H' σD' σ'∧RelG K H' G'∧Ext H H'∧P (i+1) σD' G',fun σ' H' ⟨s2,G2,r1,r2,r3,p⟩=>⟨ds.length-(i+1),by omega,rfl,hlt,s2,G2,r1,r2,r3,p⟩,fun x H' y=>?_⟩
  obtain⟨e,d,ed,dv⟩:=I.yl i x H' hlt y
  subst e
  refine⟨d,σD1,G1,_,dv,rs1,rg1,step i d σD1 G1 ed p1,fun σ2 G2 h2 H2 x2 rg2 σ' rs2=>?_⟩
  have xx:=x1.trans x2
  exact⟨σ2,G2,_,rs2,rg2,h2,⟨fun s3 G3 ⟨G4,sb,n⟩ H3 x3 rg3 σ3 rs3=>⟨s3,G4,rs3,rg3.ext' sb,xx.trans x3,n⟩,(cl.go xx).rt,(cl.go xx).nx,fun s3 G3 ⟨G4,sb,n⟩ H3 x3 rg3 σ3 rs3=>⟨s3,G4,rs3,rg3.ext' sb,xx.trans x3,n⟩⟩⟩
 ·have e:i=ds.length:=by omega
  subst e
  exact .inl ⟨I.st,cl.nx _ G1 (fin σD1 G1 p1) H1 x1 rg1 _ rs1⟩
def L1(te:DTE)(g:DTG)(tb:DTS):DTS:=fun D σ G=>te σ G fun d G1=>∃ds,Az G1 d=some ds∧Ng ds (fun G'=>Az G' d=some ds) g tb D σ G1
theorem qs_for{tg iter:Expr}{g:DTG}{tb:DTS}(hp:PassesOwn (model X.prog X.w) X.A X.env X.xe)(hc:X.calm=true)(hi:QE X iter te)(hg:QG X tg g)(hb:QSs X body tb)(hs:∀x,foldedSetIterable iter X.env x=pure x:=by intro _;rfl):QS X (.For tg iter body [] pos) (L1 te g tb):=(Nz hp hc (Kb hi) hg hb hs).imp fun E σ H ⟨σD,G,D,rs,rg,h,cl⟩=>by
 refine⟨σD,G,_,rs,rg,h,fun d G1 ⟨ds,ei,L⟩ H1 x1 rg1 v dv=>?_⟩
 obtain⟨a,rfl⟩:=Fo ei dv
 refine⟨a,rfl,?_⟩
 have lp:=Gk (J:=jOf X.K d a) (rs.ext x1) rg1 (cl.go x1) (fun H' G' x' rg' s'=>Dx rg' s' (dv.ext x')) L
 have I0:=Dx rg1 ei dv
 cases dv with
 |tup e r=>exact .inr ⟨⟨_,.inl (.inl e)⟩,lp⟩
 |lint e=>exact .inl ⟨⟨_,e.sq⟩,lp⟩
 |ref=>
  simp only[Az] at ei
  split at ei
  ·rename_i ds' q
   obtain⟨xs,e,r⟩:=rg1 a _ q
   exact .inl ⟨⟨_,.inl (.inl e)⟩,lp⟩
  ·cases ei
def Jy(n:Nat):List D:=(List.range n).map fun i=>D.int (i:Nat)
theorem Bb(n:Nat):(Jy n).length=n:=by simp[Jy]
theorem Fl{n i:Nat}(h:i<n):(Jy n)[i]? = some (.int (i:Nat)):=by simp[Jy,h]
def E6(tA:DTA)(g:DTG)(tb:DTS):DTS:=fun D σ G=>tA σ G fun ds G1=>∃j,ds=[.int j]∧(-(2 ^ 62)≤j∧j<2 ^ 62)∧Ng (Jy j.toNat) (fun _=>True) g tb D σ G1
theorem qs_forR{tg:Expr}{g:DTG}{tb:DTS}{tA:DTA}{p p2:Pos}(hp:PassesOwn (model X.prog X.w) X.A X.env X.xe)(hc:X.calm=true)(hm:X.mg "range" = none)(ha:QA X [a] tA)(hg:QG X tg g)(hb:QSs X body tb)(hgl:Gl X "range":=by rfl)(hst:starEach [a] X.env=[(false,eval a X.env)]:=by rfl)(hs:∀x,foldedSetIterable (.Call (.Name "range" p) [a] [] p2) X.env x=pure x:=by intro _;rfl) :
  QS X (.For tg (.Call (.Name "range" p) [a] [] p2) body [] pos) (E6 tA g tb):=(Nz hp hc (Gi hgl hm ha hst) hg hb hs).imp fun E σ H ⟨σD,G,D,rs,rg,h,cl⟩=>by
 refine⟨σD,G,_,rs,rg,h,fun ds G1 ⟨j,ej,⟨j1,j2⟩,L⟩ H1 x1 rg1 vs dv=>?_⟩
 subst ej
 obtain⟨v,rfl,r⟩:=dv.one
 cases r
 refine⟨j,rfl,j1,j2,Gk (J:=Itr 0 j.toNat) (rs.ext x1) rg1 (cl.go x1) (fun H' G' x' rg' _=>?_) L⟩
 refine⟨fun i hi=>by rw[Bb] at hi;exact hi,fun i x H2 hi y=>?_,by show j.toNat≤_;rw[Bb];exact Nat.le_refl _⟩
 rw[Bb] at hi
 obtain⟨e1,e2⟩:=y
 refine⟨e1,_,Fl hi,?_⟩
 rw[e2,Int.zero_add]
 exact .int _

abbrev DX:=Value→Gp→Prop
abbrev DSp:=List D→Gp→DK→DX→Prop
def Cq(K:PySem.W.Frag)(E:DX):XK:=fun c _ H'=>∃G',RelG K H' G'∧E c G'
def Ag(K:PySem.W.Frag)(sp:DSp):Sp:=fun vs H Q E=>∃ds G Q' E',DVs K H ds vs∧RelG K H G∧sp ds G Q' E'∧(∀d G',Q' d G'→Fwd K H G' fun H'=>∀v,DV K H' d v→Q v H')∧∀c G',E' c G'→Fwd K H G' fun H'=>∀ad,E c ad H'
structure Def(P:Program)(w:World)(K:PySem.W.Frag)(mg:Str→Option Value)(base:Heap)(CX:CXT)(k:Nat)(x:Str)(ps:List Str)(sp:DSp):Prop where
 ex:∃f fd,FnOk P w K mg base CX k f fd ps (Ag K sp)∧mg x=some (.ref f)∧PySem.W.keepIn K (.ref f)=true∧Binds K fd ps []
def Ar(sp:DSp)(E:DX)(t:DTA):DTE:=fun σ G Q=>t σ G fun ds G1=>sp ds G1 Q E
abbrev noX:DX:=fun _ _=>False
theorem q_call{CX:CXT}{k:Nat}{x:Str}{ps:List Str}{sp:DSp}{E:DX}{es:List Expr}{p:Pos}{tA:DTA}(F:Def X.prog X.w X.K X.mg X.base CX k x ps sp)(hr:Room k X.A)(hx:Cd CX X (Cq X.K E))(ha:QA X (e::es) tA)(hg:Gl X x:=by rfl)(hdb:(x == ("__debug__" : Str))=false:=by decide)(he:starEach (e::es) X.env=(false,eval e X.env)::starEach es X.env:=by rfl)(hpl:(backTo pos (starEach es X.env)).any (·.1)=false:=by rfl) :
  QE X (.Call (.Name x p) (e::es) [] pos) (Ar sp E tA):=by
 obtain⟨f,fd,F,hm,hk,hb⟩:=F.ex
 refine(Qq (ds:=[]) (dvs:=[]) F hr hg hm hk hb .nil hx ha hdb he hpl).imp fun σ H Q ⟨σD,G,Q',rs,rg,h,cl⟩=>?_
 refine⟨σD,G,_,rs,rg,h,fun ds G1 h1 H1 x1 rg1 vs dv=>?_⟩
 show Ag X.K sp (vs++[]) H1 Q (Cq X.K E)
 rw[List.append_nil]
 exact⟨ds,G1,Q',E,dv,rg1,h1,fun d G' q=>(cl d G' q).go x1,fun c G' q H2 x2 rg2 ad=>⟨G',rg2,q⟩⟩
theorem passN{E:DX}:Cd CX0 X (Cq X.K E):=fun _ _ _ _ _ _ _ h=>h.elim

def Ak(N:List Str)(ds:List D):DSt:=ds.map some++List.replicate (N.length-ds.length) none
def Fq(Q:DK)(d:D)(G:Gp):Prop:=∃G',Sub G' G∧Q d G'
theorem Fq.of{Q:DK}{d:D}{G:Gp}(h:Q d G):Fq Q d G:=⟨G,Sub.refl G,h⟩
theorem Ea{K:W.Frag}{H:Hp}{N:List Str}{ds:List D}{vs:List V}(r:DVs K H ds vs):RelS K H (Ak N ds) (L2.B9 N vs):=by
 have hl:=r.length
 refine⟨by simp[Ak,L2.B9,hl],fun i d e=>?_⟩
 unfold Ak at e
 unfold L2.B9
 by_cases hi:i<ds.length
 ·rw[List.getElem?_append_left (by simpa using hi),List.getElem?_map] at e
  rw[List.getElem?_append_left (by simpa[←hl] using hi),List.getElem?_map]
  cases q:ds[i]? with
  |none=>rw[q] at e;cases e
  |some d'=>
   rw[q] at e;cases e
   obtain⟨v,ev,dv⟩:=r.get q
   exact⟨v,by rw[ev];rfl,dv⟩
 ·rw[List.getElem?_append_right (by simpa using hi),List.getElem?_replicate] at e
  split at e<;>cases e
section
variable{P:Program}{w:World}{K:W.Frag}{mg:Str→Option Value}{base:Heap}
theorem okD{x qual:Str}{st:Stmt}{f:Addr}{fd:FuncData}{N ps:List Str}{k:Nat}{sp:DSp}(F:Fun K x qual st f fd)(S:FnScope N ps (defScope st))(len:∀ds G Q E,sp ds G Q E→ds.length=ps.length)(hbody:∀(cdv:Value) (A:Around) (outer:List Env) (s:Shared) (H:Hp) (XE:XK) (ds:List D) (G:Gp) (Q:DK) (E:DX),Room k (A.deeper (envOfC qual (defScope st) s.heap.objs.size f cdv))→sp ds G Q E→
   ∃t,QSs (Bz CX0 P w K mg base N qual (defScope st) f cdv A outer s H XE).nox (Bl st) t∧t { nx:=fun _ G'=>Fq Q .non G',rt:=Fq Q } (Ak N ds) G):FnOk P w K mg base CX0 (k+1) f fd ps (Ag K sp):=by
 refine F.ok S (fun vs H Q E ⟨ds,G,Q',E',dv,rg,h,_⟩=>by rw[←dv.length];exact len ds G Q' E' h) fun cdv A outer s H vs Q E hr ⟨ds,G,Q',E',dv,rg,h,cl,_⟩=>?_
 obtain⟨t,ht,hq⟩:=hbody cdv A outer s H E ds G Q' E' hr h
 refine⟨_,ht,Ak N ds,G,_,Ea dv,rg,hq,⟨fun σD G1 ⟨G2,sb,q⟩ H1 x1 rg1 σ rs=>cl _ G2 q H1 x1 (rg1.ext' sb) _ .non,fun d G1 ⟨G2,sb,q⟩ H1 x1 rg1 v dv=>cl _ G2 q H1 x1 (rg1.ext' sb) _ dv,fun _ _ z=>z.elim,fun _ _ z=>z.elim⟩⟩
end
abbrev DRC:=List D→Gp→DK→Prop
def Rs(K:PySem.W.Frag)(r:DRC):List V→Hp→VK→Prop:=fun xs H Q=>∃ds G Q',DVs K H ds xs∧RelG K H G∧r ds G Q'∧∀d G',Q' d G'→Fwd K H G' fun H'=>∀v,DV K H' d v→Q v H'
def QC(X:Cx)(f:Value)(r:DRC):Prop:=CallR X f (Rs X.K r)
theorem _root_.L2.CallR.imp{f:Value}{r r':List V→Hp→VK→Prop}(h:CallR X f r)(g:∀xs H Q,r' xs H Q→r xs H Q):CallR X f r':=fun pins s σ H xs us Q I rx q=>h pins s σ H xs us Q I rx (g xs H Q q)
def nCB(r:DRC)(t:DTA):DTE:=fun σ G Q=>t σ G fun vs G1=>r vs G1 Q
theorem Lk{K:W.Frag}{r:DRC}{tA:DTA}{σ:St}{H:Hp}{Q:VK}(h:Bx K (nCB r tA) σ H Q):tCB (Rs K r) (Rt K tA) σ H Q:=by
 obtain⟨σD,G,Q',rs,rg,h,cl⟩:=h
 exact⟨σD,G,_,rs,rg,h,fun ds G1 h1 H1 x1 rg1 vs dv=>⟨ds,G1,Q',dv,rg1,h1,fun d G' q=>(cl d G' q).go x1⟩⟩
theorem q_callB{x:Str}{id:String}{r:DRC}{es:List Expr}{p:Pos}{tA:DTA}(hc:QC X (.builtin id) r)(hm:X.mg x=none)(hv:bootBuiltins x=some (.builtin id))(ha:QA X (e::es) tA)(hg:Gl X x:=by rfl)(hn:x≠"__name__":=by decide)(hdb:(x == ("__debug__" : Str))=false:=by decide)(he:starEach (e::es) X.env=(false,eval e X.env)::starEach es X.env:=by rfl)(hpl:(backTo pos (starEach es X.env)).any (·.1)=false:=by rfl):QE X (.Call (.Name x p) (e::es) [] pos) (nCB r tA):=(O7 hc hg hm hv ha hn hdb he hpl).imp fun _ _ _ h=>Lk h
theorem Fm{x:Str}{T:String}{r:DRC}{es:List Expr}{p:Pos}{tA:DTA}(hc:QC X (.type T) r)(hm:X.mg x=none)(hv:bootBuiltins x=some (.type T))(ha:QA X (e::es) tA)(hg:Gl X x:=by rfl)(hn:x≠"__name__":=by decide)(hdb:(x == ("__debug__" : Str))=false:=by decide)(he:starEach (e::es) X.env=(false,eval e X.env)::starEach es X.env:=by rfl)(hpl:(backTo pos (starEach es X.env)).any (·.1)=false:=by rfl):QE X (.Call (.Name x p) (e::es) [] pos) (nCB r tA):=(Me hc hg hm hv ha hn hdb he hpl).imp fun _ _ _ h=>Lk h
theorem R0:QC X (.builtin "abs") (fun ds G Q=>∃i,ds=[.int i]∧Q (.int (if i<0 then -i else i)) G):=call_abs.imp fun xs H Q ⟨ds,G,Q',dv,rg,⟨i,e,q⟩,cl⟩=>by
 subst e
 obtain⟨v,rfl,r⟩:=dv.one
 cases r
 exact⟨i,rfl,cl _ G q H (Ext.refl H) rg _ (.int _)⟩
theorem Oh(hc:X.calm=true):QC X (.builtin "max") (fun ds G Q=>∃i j,ds=[.int i,.int j]∧Q (.int (if j>i then j else i)) G):=(M0 hc).imp fun xs H Q ⟨ds,G,Q',dv,rg,⟨i,j,e,q⟩,cl⟩=>by
 subst e
 obtain⟨v,w,rfl,r,r'⟩:=dv.two
 cases r;cases r'
 exact⟨i,j,rfl,cl _ G q H (Ext.refl H) rg _ (.int _)⟩
theorem Uf(hc:X.calm=true):QC X (.builtin "min") (fun ds G Q=>∃i j,ds=[.int i,.int j]∧Q (.int (if j<i then j else i)) G):=(Mz hc).imp fun xs H Q ⟨ds,G,Q',dv,rg,⟨i,j,e,q⟩,cl⟩=>by
 subst e
 obtain⟨v,w,rfl,r,r'⟩:=dv.two
 cases r;cases r'
 exact⟨i,j,rfl,cl _ G q H (Ext.refl H) rg _ (.int _)⟩
theorem Pr:QC X (.builtin "divmod") (fun ds G Q=>∃i j,ds=[.int i,.int j]∧J1 i j∧Q (.tup [.int (i / j),.int (i % j)]) G):=call_divmod.imp fun xs H Q ⟨ds,G,Q',dv,rg,⟨i,j,e,hc,q⟩,cl⟩=>by
 subst e
 obtain⟨v,w,rfl,r,r'⟩:=dv.two
 cases r;cases r'
 refine⟨i,j,rfl,hc,fun p hp=>?_⟩
 exact cl _ G q _ (Ext.fresh hp) (rg.tup hp) _ (.tup Ad (.cons (.int _) (.cons (.int _) .nil)))
def Nd(G:Gp):D→Option Nat
 |.tup ds=>some ds.length
 |.lint ns=>some ns.length
 |.str y=>if y.length≤sizeLine then some y.length else none
 |.ref a=>match G a with
  |some (.lst ds)=>some ds.length
  |_=>none
 |_=>none
theorem c_len:QC X (.builtin "len") (fun ds G Q=>∃d,ds=[d]∧∃n,Nd G d=some n∧Q (.int (n:Nat)) G):=call_len.imp fun xs H Q ⟨ds,G,Q',dv,rg,⟨d,e,n,en,q⟩,cl⟩=>by
 subst e
 obtain⟨v,rfl,r⟩:=dv.one
 refine⟨v,n,rfl,?_,cl _ G q H (Ext.refl H) rg _ (.int _)⟩
 cases r with
 |tup e r=>cases en;exact .inr ⟨_,.inl (.inl e),r.length⟩
 |@lint ns a e=>cases en;exact .inl ⟨_,e.sq,by simp⟩
 |str y=>
  simp only[Nd] at en
  split at en
  ·rename_i hy;cases en;exact⟨hy,rfl⟩
  ·cases en
 |ref a=>
  simp only[Nd] at en
  split at en
  ·rename_i ds g
   cases en
   obtain⟨xs,e,r⟩:=rg a _ g
   exact .inl ⟨xs,.inl (.inl e),r.length⟩
  ·cases en
 |_=>cases en
theorem Ly:QC X (.type "tuple") (fun ds G Q=>∃d,ds=[d]∧∃es,Az G d=some es∧Q (.tup es) G):=call_tuple_of.imp fun xs H Q ⟨ds,G,Q',dv,rg,⟨d,e,es,en,q⟩,cl⟩=>by
 subst e
 obtain⟨v,rfl,r⟩:=dv.one
 cases r with
 |tup e r=>cases en;exact⟨_,_,rfl,.inr ⟨.inl (.inl e),cl _ G q H (Ext.refl H) rg _ (.tup e r)⟩⟩
 |@lint ns a e=>cases en;exact⟨_,_,rfl,.inl ⟨e.sq,fun p hp=>cl _ G q _ (Ext.fresh hp) (rg.tup hp) _ (.tup Ad DVs.ints)⟩⟩
 |ref a=>
  simp only[Az] at en
  split at en
  ·rename_i ds g
   cases en
   obtain⟨xs,e,r⟩:=rg a _ g
   exact⟨a,xs,rfl,.inl ⟨.inl (.inl e),fun p hp=>cl _ G q _ (Ext.fresh hp) (rg.tup hp) _ (.tup Ad (r.ext (Ext.fresh hp)))⟩⟩
  ·cases en
 |_=>cases en
theorem Ug:QC X (.type "list") (fun ds G Q=>∃d,ds=[d]∧∃es,Az G d=some es∧∀p,G p=none→Q (.ref p) (Ab G p (.lst es))):=call_list_of.imp fun xs H Q ⟨ds,G,Q',dv,rg,⟨d,e,es,en,q⟩,cl⟩=>by
 subst e
 obtain⟨v,rfl,r⟩:=dv.one
 cases r with
 |tup e r=>cases en;exact⟨_,_,rfl,.inr (.inl (.inl e)),fun p hp=>cl _ _ (q p (rg.free hp)) _ (Ext.fresh hp) (rg.lst hp r) _ (.ref p)⟩
 |@lint ns a e=>cases en;exact⟨_,_,rfl,.inl e.sq,fun p hp=>cl _ _ (q p (rg.free hp)) _ (Ext.fresh hp) (rg.lst hp DVs.ints) _ (.ref p)⟩
 |ref a=>
  simp only[Az] at en
  split at en
  ·rename_i ds g
   cases en
   obtain⟨xs,e,r⟩:=rg a _ g
   exact⟨a,xs,rfl,.inl (.inl (.inl e)),fun p hp=>cl _ _ (q p (rg.free hp)) _ (Ext.fresh hp) (rg.lst hp r) _ (.ref p)⟩
  ·cases en
 |_=>cases en
def Nc(to:DTE)(ta:DTE):DTE:=fun σ G Q=>to σ G fun x G1=>∃p,x=.ref p∧(∃ds,G1 p=some (.lst ds))∧ta σ G1 fun y G2=>∃ds,G2 p=some (.lst ds)∧ds.length<sizeLine∧Q .non (Ab G2 p (.lst (ds++[y])))
theorem K6{o:Expr}{to:DTE}{apos cpos:Pos}(ho:QE X o to)(ha:QE X e ta)(hbase:attributeBase o "append" X.env (eval o X.env)=eval o X.env:=by rfl)(hfew:((backTo cpos (starEach [e] X.env)).all (fun x=>!x.1)&&(backToKw cpos (keywordEach [] X.env)).all (fun x=>x.1.isSome)
   && decide (([e]:List Expr).length+([]:List Keyword).length+(if ([]:List Keyword).isEmpty then 0 else 1)<30))=true:=by rfl)(hline:(apos.endLine == cpos.line)=true:=by rfl)(hs:starEach [e] X.env=(false,eval e X.env)::starEach [] X.env:=by rfl)(hplain:(backTo cpos (starEach [] X.env)).any (·.1)=false:=by rfl) :
  QE X (.Call (.Attribute o "append" apos) [e] [] cpos) (Nc to ta):=
 (Nl PySem.F.plainAttrs_list PySem.F.slot_list_append PySem.F.type_list_append Ec ho (Et ha qa_nil hs) hbase hfew hline hs hplain).imp fun σ H Q ⟨σD,G,Q',rs,rg,h,cl⟩=>by
 refine⟨σD,G,_,rs,rg,h,fun d G1 ⟨p,ep,⟨ds,eg⟩,h1⟩ H1 x1 rg1 v dv=>?_⟩
 subst ep;cases dv
 obtain⟨xs,ex,r⟩:=rg1 p _ eg
 refine⟨.inl ⟨rfl,xs,.inl (.inl ex)⟩,σD,G1,fun ds' G2=>∃y,ds'=[y]∧∃ds,G2 p=some (.lst ds)∧ds.length<sizeLine∧Q' .non (Ab G2 p (.lst (ds++[y]))),rs.ext x1,rg1,?_,?_⟩
 ·show ta σD G1 fun x G1=>Ao σD G1 fun xs G2=>_
  exact cast (by congr 1;funext y G2;simp[Ao]) h1
 ·rintro ds' G2 ⟨y,rfl,ds2,eg2,hl,q⟩ H2 x2 rg2 vs dvs
  obtain⟨v,rfl,dv⟩:=dvs.one
  obtain⟨xs2,ex2,r2⟩:=rg2 p _ eg2
  exact⟨p,xs2,v,rfl,rfl,ex2,by rw[←r2.length];exact hl,cl _ _ q _ ((x1.trans x2).trans (C6 ex2)) (rg2.lstw ex2 (r2.append (.cons dv .nil))) _ .non⟩
end
theorem Bu{n:Nat}{g:DTG}{tb:DTS}{D:DEnds}{σ:DSt}{G:Gp}(P:Nat→DSt→Gp→Prop)(h0:P 0 σ G)(hs:∀i σ G,i<n→P i σ G→g (.int (i:Nat)) σ G fun σ2 G2=>tb { D with nx:=Fs (P (i+1)),ct:=Fs (P (i+1)),bk:=D.nx } σ2 G2)(hd:∀σ G,P n σ G→D.nx σ G):Ng (Jy n) (fun _=>True) g tb D σ G:=by
 refine⟨P,h0,fun _ _ _ _ _=>trivial,fun i x σ G hx p=>?_,fun σ G p=>hd σ G (by rw[Bb] at p;exact p)⟩
 have hi:i<n:=by
  have:=(List.getElem?_eq_some_iff.mp hx).1
  rw[Bb] at this;exact this
 rw[Fl hi] at hx
 cases hx
 exact hs i σ G hi p
theorem q_globx{X:Cx}{x:Str}{i:Int}{pos:Pos}(hm:∃t,X.mg x=some (.int i t))(hg:Gl X x:=by rfl)(hd:(x == ("__debug__" : Str))=false:=by decide):QE X (.Name x pos) (nC (.int i)):=
 let ⟨_,h⟩:=hm;Sy h hg hd
theorem it0{P:Prop}[Decidable P]{A B:Prop}(h:P)(a:A):if P then A else B:=by rw[if_pos h];exact a
theorem it1{P:Prop}[Decidable P]{A B:Prop}(h:¬P)(b:B):if P then A else B:=by rw[if_neg h];exact b
theorem exI{p:Int→Prop}{j:Int}:(∃i,D.int j=D.int i∧p i)↔p j:=⟨fun⟨i,e,h⟩=>by cases e;exact h,fun h=>⟨j,rfl,h⟩⟩
theorem exB{p:Bool→Prop}{j:Bool}:(∃i,D.bl j=D.bl i∧p i)↔p j:=⟨fun⟨i,e,h⟩=>by cases e;exact h,fun h=>⟨j,rfl,h⟩⟩
theorem exR{p:Addr→Prop}{j:Addr}:(∃i,D.ref j=D.ref i∧p i)↔p j:=⟨fun⟨i,e,h⟩=>by cases e;exact h,fun h=>⟨j,rfl,h⟩⟩
theorem exT{p:List D→Prop}{j:List D}:(∃i,D.tup j=D.tup i∧p i)↔p j:=⟨fun⟨i,e,h⟩=>by cases e;exact h,fun h=>⟨j,rfl,h⟩⟩
theorem exS{α:Type}{p:α→Prop}{j:α}:(∃i,some j=some i∧p i)↔p j:=⟨fun⟨i,e,h⟩=>by cases e;exact h,fun h=>⟨j,rfl,h⟩⟩
theorem exSS{α:Type}{p:α→Prop}{j:α}:(∃i,some (some j)=some (some i)∧p i)↔p j:=⟨fun⟨i,e,h⟩=>by cases e;exact h,fun h=>⟨j,rfl,h⟩⟩
theorem ex1{p:D→Prop}{j:D}:(∃i,[j]=[i]∧p i)↔p j:=⟨fun⟨i,e,h⟩=>by cases e;exact h,fun h=>⟨j,rfl,h⟩⟩
theorem ex1I{p:Int→Prop}{j:Int}:(∃i,[D.int j]=[D.int i]∧p i)↔p j:=⟨fun⟨i,e,h⟩=>by cases e;exact h,fun h=>⟨j,rfl,h⟩⟩
theorem ex2{p:D→D→Prop}{j k:D}:(∃x y,[j,k]=[x,y]∧p x y)↔p j k:=⟨fun⟨_,_,e,h⟩=>by cases e;exact h,fun h=>⟨j,k,rfl,h⟩⟩
theorem ex2I{p:Int→Int→Prop}{j k:Int}:(∃x y,[D.int j,D.int k]=[D.int x,D.int y]∧p x y)↔p j k:=⟨fun⟨_,_,e,h⟩=>by cases e;exact h,fun h=>⟨j,k,rfl,h⟩⟩
theorem Cj{ds:List D}{same:Gp→Prop}{g:DTG}{tb:DTS}{D:DEnds}{σ:DSt}{G:Gp}(P:Nat→DSt→Gp→Prop)(h0:P 0 σ G)(hk:∀i σ G,i≤ds.length→P i σ G→same G)(hs:∀i x σ G,ds[i]? = some x→P i σ G→g x σ G fun σ2 G2=>tb { D with nx:=Fs (P (i+1)),ct:=Fs (P (i+1)),bk:=D.nx } σ2 G2)(hd:∀σ G,P ds.length σ G→D.nx σ G):Ng ds same g tb D σ G:=⟨P,h0,hk,hs,hd⟩
theorem exCons{p:D→List D→Prop}{j:D}{r:List D}:(∃x y,j::r=x::y∧p x y)↔p j r:=⟨fun⟨_,_,e,h⟩=>by cases e;exact h,fun h=>⟨j,r,rfl,h⟩⟩
theorem Jz{α:Type}{x:α}{r:List α}:atI (x::r) 0=some x:=Ca (j:=0) rfl
theorem atI1{α:Type}{x y:α}{r:List α}:atI (x::y::r) 1=some y:=Ca (j:=1) rfl
theorem Ch{G:Gp}{ds:List D}{i:Int}:Ej G (.tup ds) i=atI ds i:=rfl
theorem Mt{G:Gp}{ns:List Int}{i:Int}:Ej G (.lint ns) i=atI (ns.map D.int) i:=rfl
theorem B6{G:Gp}{a:Addr}{ds:List D}{i:Int}(h:G a=some (.lst ds)):Ej G (.ref a) i=atI ds i:=by simp only[Ej,h]
theorem Ew{G:Gp}{ds:List D}:Nd G (.tup ds)=some ds.length:=rfl
theorem Iz{G:Gp}{ns:List Int}:Nd G (.lint ns)=some ns.length:=rfl
theorem Av{G:Gp}{a:Addr}{ds:List D}(h:G a=some (.lst ds)):Az G (.ref a)=some ds:=by simp only[Az,h]
theorem Pi{G:Gp}{ds:List D}:Az G (.tup ds)=some ds:=rfl
theorem ix0{n:Nat}:ixN (n+1) 0=some 0:=by unfold ixN;rw[if_pos (by omega),if_pos (by omega)];rfl
theorem ix1{n:Nat}:ixN (n+2) 1=some 1:=by unfold ixN;rw[if_pos (by omega),if_pos (by omega)];rfl
def R7(c:DTT)(t u:DTS):DTS:=fun D σ G=>∃M:DSt→Gp→Prop,(c σ G fun b G1=>if b=true then t { D with nx:=Fs M } σ G1 else u { D with nx:=Fs M } σ G1)∧∀σ' G',M σ' G'→D.nx σ' G'
theorem Nw{X:Cx}{c:Expr}{body orelse:List Stmt}{pos:Pos}{tc:DTT}{t u:DTS}(hc:QT X c tc)(ha:QSs X body t)(hb:QSs X orelse u):QS X (.If c body orelse pos) (R7 tc t u):=(Rp hc ha hb).imp fun E σ H ⟨σD,G,D,rs,rg,⟨M,h,hM⟩,cl⟩=>by
 refine⟨σD,G,_,rs,rg,h,fun k G1 h1 H1 x1 rg1=>?_⟩
 have cl':DEnds.Reach X.K H1 { D with nx:=Fs M } E:=⟨fun s2 G2 ⟨G3,sb,m⟩ H2 x2 rg2=>(cl.go x1).nx s2 G3 (hM s2 G3 m) H2 x2 (rg2.ext' sb),(cl.go x1).rt,(cl.go x1).bk,(cl.go x1).ct⟩
 dsimp only at h1 ⊢
 cases k with
 |true=>rw[if_pos rfl] at h1 ⊢;exact⟨σD,G1,_,rs.ext x1,rg1,h1,cl'⟩
 |false=>rw[if_neg Bool.false_ne_true] at h1 ⊢;exact⟨σD,G1,_,rs.ext x1,rg1,h1,cl'⟩
theorem Oj{α:Type}{xs:List α}{k:Nat}{x:α}(h:xs[k]? = some x):atI xs (k:Int)=some x:=Ca h
theorem szl{n:Nat}(h:n≤1000):n≤sizeLine:=Nat.le_of_lt (L8 h)
theorem sz2:2≤sizeLine:=szl (by decide)
theorem N7{G:Gp}{a:Addr}{o:GO}(h:G a=some o):∃G0,G=Ab G0 a o:=⟨G,(L4 h).symm⟩
def Nb(T:List Str)(σ:St):St:=List.replicate T.length none++σ

def Kg(ifs:List Expr)(env:Env):Sem Bool:=forIn ifs true fun c r=>if r=true then do let ok ←isTrue c env (eval c env);pure (ForInStep.yield ok) else pure (ForInStep.yield r)
def PF(X:Cx)(ifs:List Expr)(t:TT):Prop:=
 ∀(pins:List (Addr×Obj)) (s:Shared) (σ:St) (H:Hp) (Q:Bool→Hp→Prop),Inv X pins σ H s→t σ H Q→wpAny (model X.prog X.w) X.A (Kg ifs X.env) (TP X pins σ Q) X.xe s
theorem Ta{X:Cx}:PF X [] (fun _ H Q=>Q true H):=fun pins s σ H Q I h=>by
 unfold Kg
 rw[List.forIn_nil]
 exact wpAny_pure ⟨H,I,h⟩
def Bh(cells:List (Str×Addr)):List (Str×NameKind)→List (Str×Addr)→List (Str×Addr)
 |[],cs=>cs
 |(n,k)::r,cs=>if (k == .free)=true then match cells.lookup n with
   |some c=>Bh cells r ((n,c)::cs)
   |none=>Bh cells r cs
  else Bh cells r cs
theorem Ri{env:Env}:∀(names:List (Str×NameKind)) (cs:List (Str×Addr)),(names.all fun y=>!(y.2 == .free)||(env.cells.lookup y.1).isSome)=true→
  (forIn names cs fun(x:Str×NameKind) (r:List (Str×Addr))=>(if (x.2 == NameKind.free)=true then do let __do_lift ←cellOf env x.1;pure (ForInStep.yield ((x.1,__do_lift)::r)) else pure (ForInStep.yield r):Sem (ForInStep (List (Str×Addr)))))=pure (Bh env.cells names cs):=by
 intro names
 induction names with
 |nil=>intro cs _;rw[List.forIn_nil];rfl
 |cons y r ih=>
  intro cs h
  obtain⟨n,k⟩:=y
  rw[List.all_cons,Bool.and_eq_true] at h
  rw[List.forIn_cons]
  by_cases hk:(k == NameKind.free)=true
  ·have hs:(env.cells.lookup n).isSome=true:=by
    have h1:=h.1
    simp only[hk,Bool.not_true,Bool.false_or] at h1
    exact h1
   obtain⟨c,hc⟩:=Option.isSome_iff_exists.mp hs
   simp only[hk,if_true,Bh,hc,cellOf]
   exact ih _ h.2
  ·simp only[hk,Bh]
   exact ih _ h.2
theorem Da{cells:List (Str×Addr)}:∀(names:List (Str×NameKind)) (cs:List (Str×Addr)),(∀x c,cs.lookup x=some c→cells.lookup x=some c)→∀x c,(Bh cells names cs).lookup x=some c→cells.lookup x=some c
 |[],cs,h,x,c,e=>h x c e
 |(n,k)::r,cs,h,x,c,e=>by
  unfold Bh at e
  split at e
  ·split at e
   ·rename_i c' hc
    refine Da r _ (fun y d z=>?_) x c e
    by_cases hy:y=n
    ·subst hy
     rw[List.lookup_cons_self] at z
     cases z
     exact hc
    ·rw[List.lookup_cons,beq_false_of_ne hy] at z
     exact h y d z
   ·exact Da r _ h x c e
  ·exact Da r _ h x c e
theorem Ee{cells:List (Str×Addr)}:∀(names:List (Str×NameKind)) (cs:List (Str×Addr)) (x:Str),(names.all fun y=>!(y.2 == .free)||(cells.lookup y.1).isSome)=true→((x,NameKind.free)∈names∨∃c,cs.lookup x=some c)→∃c,(Bh cells names cs).lookup x=some c
 |[],cs,x,_,h=>h.elim (fun z=>nomatch z) id
 |(n,k)::r,cs,x,ha,h=>by
  rw[List.all_cons,Bool.and_eq_true] at ha
  unfold Bh
  by_cases hk:(k == NameKind.free)=true
  ·have hs:(cells.lookup n).isSome=true:=by
    have h1:=ha.1
    simp only[hk,Bool.not_true,Bool.false_or] at h1
    exact h1
   obtain⟨c,hc⟩:=Option.isSome_iff_exists.mp hs
   rw[if_pos hk,hc]
   refine Ee r _ x ha.2 ?_
   by_cases hx:x=n
   ·subst hx;exact .inr ⟨c,List.lookup_cons_self⟩
   ·rcases h with h|⟨d,h⟩
    ·rcases List.mem_cons.mp h with z|z
     ·cases z;exact absurd rfl hx
     ·exact .inl z
    ·exact .inr ⟨d,by rw[List.lookup_cons,beq_false_of_ne hx];exact h⟩
  ·rw[if_neg hk]
   refine Ee r _ x ha.2 (h.imp (fun z=>?_) id)
   rcases List.mem_cons.mp z with z|z
   ·cases z;exact absurd rfl hk
   ·exact z
def Fg(P:Gp→Prop)(G:Gp):Prop:=∃G',Sub G' G∧P G'
theorem Fg.of{P:Gp→Prop}{G:Gp}(h:P G):Fg P G:=⟨G,Sub.refl G,h⟩
def Vw(n:Nat)(σ σ2:DSt):Prop:=∃pre,pre.length=n∧σ2=pre++σ
def Ip(n:Nat)(p:Addr)(ds:List D)(same:Gp→Prop)(g:DTG)(tf:DTT)(te:DTE)(σ:DSt)(G:Gp)(Q:DK):Prop:=∃P:Nat→List D→Gp→Prop,P 0 [] G∧(∀i ys G,i≤ds.length→P i ys G→same G∧G p=some (.lst ys))∧
 (∀i x ys G,ds[i]? = some x→P i ys G→g x (List.replicate n none++σ) G fun σ2 G2=>Vw n σ σ2∧tf σ2 G2 fun b G3=>if b=true then te σ2 G3 fun y G4=>G4 p=some (.lst ys)∧ys.length<sizeLine∧Fg (P (i+1) (ys++[y])) (Ab G4 p (.lst (ys++[y]))) else Fg (P (i+1) ys) G3)∧
 ∀ys G,P ds.length ys G→Q (.ref p) G
theorem Qs{K:W.Frag}{H:Hp}{σD:DSt}{σ:St}(n:Nat)(r:RelS K H σD σ):RelS K H (List.replicate n none++σD) (List.replicate n none++σ):=by
 refine⟨by simp[r.1],fun i d e=>?_⟩
 by_cases hi:i<n
 ·rw[List.getElem?_append_left (by simpa using hi),List.getElem?_replicate,if_pos hi] at e
  cases e
 ·rw[List.getElem?_append_right (by simpa using hi)] at e ⊢
  simp only[List.length_replicate] at e ⊢
  exact r.2 _ d e
section
variable{X:Cx}{elt iter:Expr}{x:Str}{px:Pos}{ifs:List Expr}{scope:Scope}{pos:Pos}{ti te:DTE}{tf:DTT}{T:List Str}
def QF(X:Cx)(ifs:List Expr)(t:DTT):Prop:=PF X ifs (Ei X.K t)
def E5:DTT:=fun _ G Q=>Q true G
theorem qf_nil:QF X [] E5:=fun pins s σ H Q I ⟨σD,G,Q',rs,rg,h,cl⟩=>Ta pins s σ H Q I (cl _ G h H (Ext.refl H) rg)
end
def Ay(G:Gp):D→Option String
 |.non=>some "NoneType"
 |.bl _=>some "bool"
 |.int _=>some "int"
 |.str _=>some "str"
 |.tup _=>some "tuple"
 |.ref a=>match G a with
  |some (.lst _)=>some "list"
  |some (.dct _)=>some "dict"
  |some (.dkk _)=>some "dict"
  |_=>none
 |_=>none
theorem Sf{G:Gp}{i:Int}:Ay G (.int i)=some "int":=rfl
theorem Se{G:Gp}{i:List D}:Ay G (.tup i)=some "tuple":=rfl
def pyIs(t c:String):Bool:=t == c||(t == "bool" && c == "int")
def Rv(t c:String):Option Bool:=if (Value.type t == Value.type c)=true then some true else if PySem.W.kitMeta c=true then (fastBuiltinMro t).map (·.contains (.type c)) else none
theorem T3(K:PySem.W.Frag)(t c:String):PySem.W.kitOne K (.type t) (.type c)=Rv t c:=rfl
abbrev tNames:List String:=["NoneType", "bool", "int", "str", "tuple", "list", "dict"]
abbrev cNames:List String:=["int", "bool", "tuple", "list", "str", "dict"]
theorem Pj:(tNames.all fun t=>cNames.all fun c=>Rv t c == some (pyIs t c))=true:=by decide +kernel
theorem Fv{G:Gp}{d:D}{t:String}(h:Ay G d=some t):t∈tNames:=by
 cases d<;>simp only[Ay] at h<;>first
  |(cases h;decide)
  |(split at h<;>first|(cases h;decide)|cases h)
  |cases h
theorem Qd{K:W.Frag}{H:Hp}{G:Gp}{d:D}{v:V}{t:String}(rg:RelG K H G)(h:Ay G d=some t)(dv:DV K H d v):TyOf K H v (.type t):=by
 cases dv with
 |non=>cases h;exact .non
 |bl b=>cases h;exact .bl b
 |int i=>cases h;exact .int i
 |str x=>cases h;exact .str x
 |tup e r=>cases h;exact .tup e
 |ty n=>cases h
 |lint e=>cases h
 |ref a=>
  simp only[Ay] at h
  split at h
  ·rename_i ds q;cases h;obtain⟨xs,e,_⟩:=rg a _ q;exact .lst e
  ·rename_i ds q;cases h;obtain⟨xs,e,_⟩:=rg a _ q;exact .dT e
  ·rename_i ds q;cases h;obtain⟨xs,e,_⟩:=rg a _ q;exact .dK e
  ·cases h
theorem Og:("int"∈cNames)=True:=by decide
theorem Ey:("bool"∈cNames)=True:=by decide
theorem B7:("tuple"∈cNames)=True:=by decide
def Kn(G:Gp)(d:D):Prop:=∃t,Ay G d=some t
def KnT(G:Gp):Nat→D→Prop
 |0,d=>Kn G d
 |n+1,d=>Kn G d∧∀ds,d=.tup ds→∀x∈ds,KnT G n x
theorem KnT.kn{G:Gp}:∀{n:Nat} {d:D},KnT G n d→Kn G d
 |0,_,h=>h
 |_+1,_,h=>h.1
theorem Kn.new{G:Gp}{d:D}(h:Kn G d){p:Addr}{o:GO}(hp:G p=none):Kn (Ab G p o) d:=by
 obtain⟨t,h⟩:=h
 refine⟨t,?_⟩
 cases d<;>first|exact h|skip
 rename_i a
 simp only[Ay] at h ⊢
 by_cases e:a=p
 ·subst e;rw[hp] at h;cases h
 ·rw[As e];exact h
theorem KnT.new{G:Gp}{p:Addr}{o:GO}(hp:G p=none):∀{n:Nat} {d:D},KnT G n d→KnT (Ab G p o) n d
 |0,_,h=>Kn.new h hp
 |_+1,_,h=>⟨Kn.new h.1 hp,fun ds e x hx=>KnT.new hp (h.2 ds e x hx)⟩
theorem Fc{G:Gp}{d:D}(h:Ay G d=some "tuple"):∃ds,d=.tup ds:=by
 cases d<;>simp only[Ay] at h<;>first|exact⟨_,rfl⟩|(exact absurd (Option.some.inj h) (by decide))|(split at h<;>first|(exact absurd (Option.some.inj h) (by decide))|cases h)|cases h
section
variable{X:Cx}
theorem c_isinst:QC X (.builtin "isinstance") (fun ds G Q=>∃x c,ds=[x,.ty c]∧c∈cNames∧∃t,Ay G x=some t∧Q (.bl (pyIs t c)) G):=by
 intro pins s σ H xs us Q I r ⟨ds,G,Q',dv,rg,⟨x,c,e,hc,t,ht,q⟩,cl⟩
 subst e
 obtain⟨v,w,rfl,d1,d2⟩:=dv.two
 cases d2
 obtain⟨u1,u2,rfl,r1,r2⟩:=Ga r
 cases r2
 have hk:PySem.W.kitOne X.K (.type t) (.type c)=some (pyIs t c):=by
  rw[T3]
  have h1:=List.all_eq_true.mp Pj t (Fv ht)
  have h2:=List.all_eq_true.mp h1 c hc
  exact beq_iff_eq.mp h2
 refine Mu I r1 (Qd rg ht d1) hk fun tk=>?_
 exact⟨.bl (pyIs t c),H,I.tok _,rfl,cl _ G q H (Ext.refl H) rg _ (.bl _)⟩

theorem M1(hc:X.calm=true):CallR X (.builtin "all") (fun xs H Q=>∃(a:Addr) (bs:List Bool),xs=[.ref a]∧SqL X.K H a (bs.map V.bl)∧Q (.bl (bs.all id)) H):=by
 intro pins s σ H xs us Q I r h
 obtain⟨a,bs,rfl,hq,q⟩:=h
 obtain⟨u,rfl,ru⟩:=Gb r
 cases ru
 obtain⟨its,rv,p,hz⟩:=I.list hq
 refine call_all_walk ?_
 refine wpAny_pyIter_list p.isList ?_
 have hlt:a<s.heap.objs.size:=by obtain⟨_,_,e,_⟩:=p;exact Heap.lt_size e
 refine⟨s.heap.objs.size,_,_,_,_,_,fun i=>(bs[i]?).getD true,rfl,Walks.list (A:=X.A.in1) (I.ok.hd hc) _ _ (Nat.ne_of_lt hlt) its.toArray,⟨⟨_,Heap.get?_push_size _ rfl,rfl,rfl⟩,p.isList.push _⟩,?_,?_⟩
 ·intro i v s' Q' E' hP hQ
  have hv:its[i]? = some v:=by simpa using hP
  have hb:∃b,bs[i]? = some b∧v=Value.bool b:=by
   have key:∀(bs:List Bool) (its:List Value),Vals (bs.map V.bl) its→∀(i:Nat) (v:Value),its[i]? = some v→∃b,bs[i]? = some b∧v=Value.bool b:=by
    intro bs
    induction bs with
    |nil=>intro its r i v e;cases r;simp at e
    |cons b bs ih=>
     intro its r i v e
     rw[List.map_cons] at r
     cases r with
     |cons r1 r2=>
      cases i with
      |zero=>simp at e;subst e;cases r1;exact⟨b,rfl,rfl⟩
      |succ i=>simpa using ih _ r2 i v (by simpa using e)
   exact key bs its rv i v hv
  obtain⟨b,eb,rfl⟩:=hb
  refine wpAny_truthy_bool ?_
  have:(bs[i]?).getD true=b:=by rw[eb];rfl
  dsimp only at hQ;rw[this] at hQ;exact hQ
 ·intro h' tk hk
  have hl:=rv.length
  rw[List.length_map] at hl
  have e:((List.range its.toArray.size).all fun i=>(bs[i]?).getD true)=bs.all id:=by
   rw[List.size_toArray,←hl,Bool.eq_iff_iff,List.all_eq_true,List.all_eq_true]
   constructor
   ·intro h b hb
    obtain⟨i,hi,e⟩:=List.getElem_of_mem hb
    have:=h i (List.mem_range.mpr hi)
    rw[List.getElem?_eq_getElem hi,e] at this
    exact this
   ·intro h i hi
    have hi:=List.mem_range.mp hi
    rw[List.getElem?_eq_getElem hi]
    exact h _ (List.getElem_mem hi)
  refine⟨.bl (bs.all id),H,I.kept (t':=tk) fun b o eb=>hk b o (fun z=>?_) (Heap.get?_push_of_some _ eb),by rw[e];rfl,q⟩
  have:b=s.heap.objs.size:=by simpa using z
  subst this
  exact absurd (Heap.lt_size eb) (Nat.lt_irrefl _)
theorem Oi{K:W.Frag}{H:Hp}:∀{bs:List Bool} {vs:List V},DVs K H (bs.map D.bl) vs→vs=bs.map V.bl
 |[],_,r=>by cases r;rfl
 |b::bs,_,r=>by
  cases r with
  |cons h t=>cases h;rw[Oi t];rfl
theorem c_all(hc:X.calm=true):QC X (.builtin "all") (fun ds G Q=>∃a,ds=[.ref a]∧∃bs:List Bool,G a=some (.lst (bs.map D.bl))∧Q (.bl (bs.all id)) G):=(M1 hc).imp fun xs H Q ⟨ds,G,Q',dv,rg,⟨a,e,bs,eg,q⟩,cl⟩=>by
 subst e
 obtain⟨v,rfl,r⟩:=dv.one
 cases r
 obtain⟨ys,ey,ry⟩:=rg a _ eg
 have:=Oi ry
 subst this
 exact⟨a,bs,rfl,.inl (.inl ey),cl _ G q H (Ext.refl H) rg _ (.bl _)⟩
theorem Cn{n i0:Nat}{p:Addr}{ds:List D}{same:Gp→Prop}{tf:DTT}{te:DTE}{σ:DSt}{G:Gp}{Q:DK}(f:D→D)(c:D→Bool)(hz:ds.length<sizeLine)(hsm:∀ys,same (Ab G p (.lst ys)))(h0:i0<n)(hs:∀x ys,x∈ds→ys.length<sizeLine→∀(R1:D→Gp→Prop) (R2:Gp→Prop),(c x=true→R1 (f x) (Ab G p (.lst (ys++[f x]))))→(c x=false→R2 (Ab G p (.lst ys)))→
   tf ((List.replicate n none++σ).set i0 (some x)) (Ab G p (.lst ys)) fun b G3=>if b=true then te ((List.replicate n none++σ).set i0 (some x)) G3 fun y G4=>G4 p=some (.lst ys)∧ys.length<sizeLine∧Fg (R1 y) (Ab G4 p (.lst (ys++[y]))) else Fg R2 G3)(hq:Q (.ref p) (Ab G p (.lst ((ds.filter c).map f)))):Ip n p ds same (A2 i0) tf te σ (Ab G p (.lst [])) Q:=by
 refine⟨fun i ys G'=>ys=((ds.take i).filter c).map f∧Ab G p (.lst ys)=G',⟨rfl,rfl⟩,?_,?_,?_⟩
 ·rintro i ys _ _ ⟨_,rfl⟩
  exact⟨hsm ys,Aa⟩
 ·rintro i x ys _ hx ⟨e,rfl⟩
  have hi:=(List.getElem?_eq_some_iff.mp hx).1
  have hl:ys.length<sizeLine:=by
   rw[e,List.length_map]
   refine Nat.lt_of_le_of_lt (List.length_filter_le _ _) ?_
   rw[List.length_take];omega
  have tk:ds.take (i+1)=ds.take i++[x]:=by rw[List.take_add_one,hx];rfl
  refine⟨⟨(List.replicate n none).set i0 (some x),by simp,by rw[List.set_append_left _ _ (by simpa using h0)]⟩,?_⟩
  refine hs x ys (List.mem_of_getElem? hx) hl (fun y G'=>ys++[y]=((ds.take (i+1)).filter c).map f∧Ab G p (.lst (ys++[y]))=G') (fun G'=>ys=((ds.take (i+1)).filter c).map f∧Ab G p (.lst ys)=G') (fun hc=>⟨?_,rfl⟩) (fun hc=>⟨?_,rfl⟩)
  ·rw[tk,List.filter_append,List.map_append,←e];simp[hc]
  ·rw[tk,List.filter_append,List.map_append,←e];simp[hc]
 ·rintro ys _ ⟨e,rfl⟩
  rw[List.take_length] at e
  rw[e];exact hq
end
mutual
inductive RepD (G:Gp):D→PyData→Prop where
 |non:RepD G .non .none
 |bl (b:Bool):RepD G (.bl b) (.bool b)
 |int (i:Int):RepD G (.int i) (.int i)
 |str (x:Str):RepD G (.str x) (.str x)
 |tup {ds:List D} {ps:List PyData} (r:RepDs G ds ps):RepD G (.tup ds) (.tuple ps)
 |lst {a:Addr} {ds:List D} {ps:List PyData} (e:G a=some (.lst ds)) (r:RepDs G ds ps):RepD G (.ref a) (.list ps)
 |dct0 {a:Addr} (e:G a=some (.dkk [])):RepD G (.ref a) (.dict [])
inductive RepDs (G:Gp):List D→List PyData→Prop where
 |nil:RepDs G [] []
 |cons {d:D} {p:PyData} {ds:List D} {ps:List PyData} (h:RepD G d p) (t:RepDs G ds ps):RepDs G (d::ds) (p::ps)
end
section
variable{P:Program}{w:World}{K:W.Frag}{H:Hp}{G:Gp}{h:Heap}
mutual
theorem Cz(rg:RelG K H G)(ok:HOk P w H h):∀{d:D} {p:PyData} {v:V} {u:Value},RepD G d p→DV K H d v→RelV v u→∃as,Reads h u p as∧∀b∈as,H b≠none
 |_,_,_,_,.non,dv,r=>by cases dv;cases r;exact⟨_,.none,by simp⟩
 |_,_,_,_,.bl b,dv,r=>by cases dv;cases r;exact⟨_,.bool b,by simp⟩
 |_,_,_,_,.int i,dv,r=>by cases dv;obtain⟨t,rfl⟩:=r;exact⟨_,.int i t,by simp⟩
 |_,_,_,_,.str x,dv,r=>by cases dv;obtain⟨t,rfl⟩:=r;exact⟨_,.str x t,by simp⟩
 |_,_,_,_,.tup rs,dv,r=>by
  cases dv with
  |@tup _ a xs e ds=>
   cases r
   obtain⟨_,its,rv,o,h1,h2,n,h3⟩:=(show ObjOk P w H h a (.tup xs) from ok a _ e)
   obtain⟨as,ra,hb⟩:=C2 rg ok rs ds rv
   exact⟨_,.tuple h1 h2 h3 (by simpa using ra),hb⟩
 |_,_,_,_,@RepD.lst _ a _ _ e rs,dv,r=>by
  cases dv with
  |ref=>
   cases r
   obtain⟨xs,ex,ds⟩:=rg _ _ e
   obtain⟨_,its,n,rv,h1⟩:=(show ObjOk P w H h a (.lst xs) from ok a _ ex)
   obtain⟨as,ra,hb⟩:=C2 rg ok rs ds rv
   refine⟨_,.list h1 rfl rfl (by simpa using ra),fun b hm=>?_⟩
   rcases List.mem_cons.mp hm with z|z
   ·subst z;rw[ex];simp
   ·exact hb b z
 |_,_,_,_,@RepD.dct0 _ a e,dv,r=>by
  cases dv with
  |ref=>
   cases r
   obtain⟨ks,ex,ds⟩:=rg _ _ e
   cases ds
   obtain⟨_,_,vs,rv,o,es,ep,h1,h2,h3,_,h4,_⟩:=(show ObjOk P w H h a (.dK []) from ok a _ ex)
   cases rv
   have he:es.toList=[]:=by
    revert h4
    cases es.toList with
    |nil=>intro _;rfl
    |cons x r=>intro h4;exact absurd h4 (by intro z;cases z)
   refine⟨_,.dict (kvs:=[]) h1 h2.1 h3 (by rw[he];exact .nil) (by rw[he];exact .nil),fun b hm=>?_⟩
   have:b=a:=by simpa using hm
   subst this
   rw[ex];simp
theorem C2(rg:RelG K H G)(ok:HOk P w H h):∀{ds:List D} {ps:List PyData} {vs:List V} {us:List Value},RepDs G ds ps→DVs K H ds vs→Vals vs us→∃as,ReadsAll h us ps as∧∀b∈as,H b≠none
 |_,_,_,_,.nil,dv,r=>by cases dv;cases r;exact⟨_,.nil,by simp⟩
 |_,_,_,_,.cons hd tl,dv,r=>by
  cases dv with
  |cons d1 d2=>
   cases r with
   |cons r1 r2=>
    obtain⟨as,a,ha⟩:=Cz rg ok hd d1 r1
    obtain⟨bs,b,hb⟩:=C2 rg ok tl d2 r2
    exact⟨_,.cons a b,fun x hx=>(List.mem_append.mp hx).elim (ha x) (hb x)⟩
end
end
theorem He{X:Cx}{pins:List (Addr×Obj)}{σ:St}{H:Hp}{s:Shared}(I:Inv X pins σ H s):H sysModules=none:=by
 obtain⟨mm,o,es,ep,e,_⟩:=I.mod.sm
 exact(I.bs _ _ e).2
section
variable{X:Cx}{k:Nat}
def dEqD:DR2:=fun x y G Q=>∃p q,RepD G x p∧RepD G y q∧p.canLay0=true∧q.canLay0=true∧min p.depth q.depth≤100∧Q (.bl (PyData.eqv p q)) G
def Uy:DR2:=fun x y G Q=>∃p q,RepD G x p∧RepD G y q∧p.canLay0=true∧q.canLay0=true∧min p.depth q.depth≤100∧Q (.bl (!PyData.eqv p q)) G
theorem Ld{A:Around}(hr:Room k A){n:Nat}(h:n≤100):A.units+n<cLine:=by have:=hr.un;omega
theorem Vn(hr:Room k X.A):QOp X (compareOp .Eq) dEqD:=by
 intro pins s σ H x y v u Q I rx ry ⟨dx,dy,G,Q',hx,hy,rg,⟨p,q,rp,rq,c1,c2,hd,h⟩,cl⟩
 obtain⟨as,ra,hfa⟩:=Cz rg I.hok rp hx rx
 obtain⟨bs,rb,hfb⟩:=Cz rg I.hok rq hy ry
 exact SeqAt.compareEq_reads ra rb c1 c2 (Ld hr hd) ⟨.bl _,H,I,rfl,cl _ G h H (Ext.refl H) rg _ (.bl _)⟩
theorem Vm(hr:Room k X.A):QOp X (compareOp .NotEq) Uy:=by
 intro pins s σ H x y v u Q I rx ry ⟨dx,dy,G,Q',hx,hy,rg,⟨p,q,rp,rq,c1,c2,hd,h⟩,cl⟩
 obtain⟨as,ra,hfa⟩:=Cz rg I.hok rp hx rx
 obtain⟨bs,rb,hfb⟩:=Cz rg I.hok rq hy ry
 exact SeqAt.compareNe_reads ra rb c1 c2 (Ld hr hd) ⟨.bl _,H,I,rfl,cl _ G h H (Ext.refl H) rg _ (.bl _)⟩
end
section
variable{prog:Program}{w:World}{A:Around}{E:Value→Shared→Prop}{s:Shared}
theorem D4{t sl:Addr}{items:Array Value}{vl vu:Value}{lo hi:Option Int}{Q:Value→Shared→Prop}(ht:IsTup s.heap t items)(hs:s.heap.IsSliceOf sl vl vu .none)(pl:IsPart vl lo)(pu:IsPart vu hi)(hw:HT.sIx items.size 0 lo=0∧HT.sIx items.size items.size hi=items.size)(h:Q (.ref t) s):wpAny (model prog w) A (getItem (.ref t) (.ref sl)) Q E s:=by
 obtain⟨os,hos,hcs,hds⟩:=id hs
 have hTs:s.TypeIs (.ref sl) "slice":=⟨os,hos,hcs⟩
 unfold getItem
 try with_reducible refine wpAny_holding ?_
 first|refine wpAny_bind (wpAny_pure ?_)|skip
 refine wpAny_bind (wpAny_sequenceKey ht.typeIs (by decide) ?_)
 refine wpAny_bind (wpAny_callSpecial?_slot (name:=Str.ofString "__getitem__") ht.typeIs PyProof.Rows.slot_tuple_getitem
  (wpAny_call_entry PyProof.Rows.slot_tuple_getitem ht.typeIs entry_tuple_getitem ?_ (args_tuple_getitem _ _)))
 show wpAny _ _ (Builtin.Tuple.tupleItemsOf (.ref t) >>= _) _ _ s
 refine wpAny_bind (tupleItemsOf_ ht ?_)
 refine wpAny_bind (wpAny_typeOf hTs ?_)
 rw[if_pos (by decide)]
 refine wpAny_bind (HT.sliceApplied_gen hs pl pu ?_)
 show wpAny _ _ (if (((HT.sIx items.size 0 lo:Nat):Int) == 0&&(1:Int) == 1&&(HT.sIx items.size items.size hi-HT.sIx items.size 0 lo) == items.size)=true then _ else _) _ _ s
 rw[if_pos (by rw[hw.1,hw.2];simp)]
 refine wpAny_bind ?_
 unfold Builtin.Tuple.tupleIsExact
 refine wpAny_bind (wpAny_typeOf ht.typeIs (wpAny_pure ?_))
 rw[if_pos (by decide)]
 refine wpAny_bind (wpAny_rule ?_)
 exact wpAny_pure ⟨_,rfl,wpAny_pure h⟩
end
section
variable{X:Cx}{a b c e:Expr}{ta tb tc te:DTE}{pos p2:Pos}{lo hi:Option Expr}
def Aw(xs:List D)(lo hi:Option Int):List D:=(xs.drop (HT.sIx xs.length 0 lo)).take (HT.sIx xs.length xs.length hi-HT.sIx xs.length 0 lo)
theorem Oe{K:W.Frag}{H:Hp}{ds:List D}{vs:List V}(r:DVs K H ds vs)(lo hi:Option Int):DVs K H (Aw ds lo hi) (Ih vs lo hi):=by
 unfold Aw Ih;rw[r.length];exact(r.drop _).take _
theorem My{ds:List D}{lo hi:Option Int}(h:HT.sIx ds.length 0 lo=0∧HT.sIx ds.length ds.length hi=ds.length):Aw ds lo hi=ds:=by
 unfold Aw;rw[h.1,h.2];simp
abbrev DTO:=DSt→Gp→(Option Int→Gp→Prop)→Prop
def Vp(K:PySem.W.Frag)(t:DTO):TO:=fun σ H Q=>∃σD G Q',RelS K H σD σ∧RelG K H G∧t σD G Q'∧∀o G',Q' o G'→Fwd K H G' fun H'=>Q o H'
def QO(X:Cx)(e:Option Expr)(t:DTO):Prop:=PO X e (Vp X.K t)
def Eu:DTO:=fun _ G Q=>Q none G
def K8(t:DTE):DTO:=fun σ G Q=>t σ G fun x G1=>∃i,x=.int i∧Q (some i) G1
theorem _root_.L2.PO.imp{X:Cx}{e:Option Expr}{t t':TO}(h:PO X e t)(f:∀σ H Q,t' σ H Q→t σ H Q):PO X e t':=fun pins s σ H Q I q=>h pins s σ H Q I (f σ H Q q)
theorem A6:QO X none Eu:=po_none.imp fun σ H Q ⟨σD,G,Q',rs,rg,h,cl⟩=>cl _ G h H (Ext.refl H) rg
theorem A0(h:QE X e te):QO X (some e) (K8 te):=(Qn h).imp fun σ H Q ⟨σD,G,Q',rs,rg,h,cl⟩=>by
 refine⟨σD,G,_,rs,rg,h,fun d G1 ⟨i,ei,h1⟩ H1 x1 rg1 v dv=>?_⟩
 subst ei;cases dv
 exact⟨i,rfl,cl _ G1 h1 H1 x1 rg1⟩
def D6(G:Gp)(x:D)(lo hi:Option Int)(Q:DK):Prop:=match x with
 |.tup ds=>Q (.tup (Aw ds lo hi)) G
 |.ref a=>match G a with
  |some (.lst ds)=>∀p,G p=none→Q (.ref p) (Ab G p (.lst (Aw ds lo hi)))
  |_=>False
 |_=>False
def rSl(K:PySem.W.Frag):V→Option Int→Option Int→Hp→VK→Prop:=fun x lo hi H Q=>∃d G Q',DV K H d x∧RelG K H G∧D6 G d lo hi Q'∧∀d G',Q' d G'→Fwd K H G' fun H'=>∀v,DV K H' d v→Q v H'
theorem Sn:SlR X (rSl X.K):=by
 intro pins s σ H x v vl vu lo hi sl Q I rx hs pl pu ⟨d,G,Q',dv,rg,h,cl⟩
 cases dv with
 |@tup ds a xs e r=>
  have h:Q' (.tup (Aw ds lo hi)) G:=h
  by_cases hw:HT.sIx xs.length 0 lo=0∧HT.sIx xs.length xs.length hi=xs.length
  ·cases rx
   obtain⟨its,rv,ht,hz⟩:=I.tuple (.inl (.inl e))
   have hlen:its.toArray.size=xs.length:=by rw[List.size_toArray];exact rv.length.symm
   refine⟨"tuple",_,PyProof.Rows.slot_tuple_getitem.lookup,ht.typeIs,D4 ht hs pl pu (by rw[hlen];exact hw) ⟨.ref a,H,I,rfl,?_⟩⟩
   rw[My (by rw[r.length];exact hw)] at h
   exact cl _ G h H (Ext.refl H) rg _ (.tup e r)
  ·exact Sm pins s σ H _ v vl vu lo hi sl Q I rx hs pl pu ⟨a,xs,rfl,.inl (.inl e),hw,fun p hp=>cl _ G h _ (Ext.fresh hp) (rg.tup hp) _ (.tup Ad ((Oe r lo hi).ext (Ext.fresh hp)))⟩
 |ref a=>
  simp only[D6] at h
  split at h
  ·rename_i ds g
   obtain⟨xs,e,r⟩:=rg a _ g
   exact Qh pins s σ H _ v vl vu lo hi sl Q I rx hs pl pu ⟨a,xs,rfl,.inl (.inl e),fun p hp=>cl _ _ (h p (rg.free hp)) _ (Ext.fresh hp) (rg.lst hp (Oe r lo hi)) _ (.ref p)⟩
  ·exact h.elim
 |_=>exact h.elim
def nSl(te:DTE)(tl th:DTO):DTE:=fun σ G Q=>te σ G fun x G1=>tl σ G1 fun l G2=>th σ G2 fun u G3=>D6 G3 x l u Q
theorem A3{tl th:DTO}(he:QE X e te)(hl:QO X lo tl)(hu:QO X hi th):QE X (.Subscript e (.Slice lo hi none p2) pos) (nSl te tl th):=(O3 Sn he hl hu).imp fun σ H Q ⟨σD,G,Q',rs,rg,h,cl⟩=>by
 refine⟨σD,G,_,rs,rg,h,fun x G1 h1 H1 x1 rg1 v1 d1=>?_⟩
 refine⟨σD,G1,_,rs.ext x1,rg1,h1,fun l G2 h2 H2 x2 rg2=>?_⟩
 refine⟨σD,G2,_,rs.ext (x1.trans x2),rg2,h2,fun u G3 h3 H3 x3 rg3=>?_⟩
 exact⟨x,G3,Q',d1.ext (x2.trans x3),rg3,h3,fun d G' q=>(cl d G' q).go (x1.trans (x2.trans x3))⟩

theorem Jd{α:Type}(xs:List α):(List.range xs.length).filterMap (fun k=>xs[k]?)=xs:=by
 induction xs with
 |nil=>rfl
 |cons x r ih=>
  rw[List.length_cons,List.range_succ_eq_map,List.filterMap_cons]
  simp only[List.getElem?_cons_zero,List.filterMap_map]
  congr 1
theorem Dj{α β:Type}{f g:α→Option β}:∀{l:List α},(∀x∈l,f x=g x)→l.filterMap f=l.filterMap g
 |[],_=>rfl
 |x::r,h=>by
  rw[List.filterMap_cons,List.filterMap_cons,h x (by simp),Dj fun y hy=>h y (by simp[hy])]
theorem O0(its:List Value):slicePick its.toArray none none (some (-1))=its.reverse.toArray:=by
 unfold slicePick
 have hb:sliceBounds none none (some (-1)) its.toArray.size=((its.length:Int)-1,-1,-1):=by
  simp[sliceBounds]
 rw[hb]
 congr 1
 show(sliceRange ((its.length:Int)-1) (-1) (-1)).filterMap (its.toArray[·]?)=its.reverse
 have hr:sliceRange ((its.length:Int)-1) (-1) (-1)=(List.range its.length).map fun k=>its.length-1-k:=by
  unfold sliceRange
  have hc:(if (-1:Int)>0 then (if (its.length:Int)-1 < -1 then (-1-((its.length:Int)-1) + -1-1) / -1 else 0) else (if (its.length:Int)-1 > -1 then ((its.length:Int)-1 - -1 - -1-1) / (- -1) else 0))=(its.length:Int):=by
   rw[if_neg (by decide)]
   by_cases h:(its.length:Int)-1 > -1
   ·rw[if_pos h];show(_:Int) / 1=_;rw[Int.ediv_one];omega
   ·rw[if_neg h];omega
  simp only[hc,Int.toNat_natCast]
  refine List.map_congr_left fun k hk=>?_
  have:=List.mem_range.mp hk
  omega
 rw[hr,List.filterMap_map]
 have e:=Jd its.reverse
 rw[List.length_reverse] at e
 rw[←e]
 refine Dj fun k hk=>?_
 have:=List.mem_range.mp hk
 simp only[Function.comp,List.getElem?_toArray]
 rw[List.getElem?_reverse this]

theorem Dz{prog:Program}{w:World}{A:Around}{E:Value→Shared→Prop}{s:Shared}{t sl:Addr}{its:List Value}{vs:Value}{Q:Value→Shared→Prop}(ht:IsTup s.heap t its.toArray)(hs:s.heap.IsSliceOf sl .none .none vs)(ps:IsPart vs (some (-1)))(hz:its.length≤sizeLine)(h:Q (.ref s.heap.objs.size) { s with heap:=s.heap.push { cls:=.type "tuple",data:=.seq its.reverse.toArray } }):wpAny (model prog w) A (getItem (.ref t) (.ref sl)) Q E s:=by
 obtain⟨os,hos,hcs,hds⟩:=id hs
 have hTs:s.TypeIs (.ref sl) "slice":=⟨os,hos,hcs⟩
 unfold getItem
 try with_reducible refine wpAny_holding ?_
 first|refine wpAny_bind (wpAny_pure ?_)|skip
 refine wpAny_bind (wpAny_sequenceKey ht.typeIs (by decide) ?_)
 refine wpAny_bind (wpAny_callSpecial?_slot (name:=Str.ofString "__getitem__") ht.typeIs PyProof.Rows.slot_tuple_getitem
  (wpAny_call_entry PyProof.Rows.slot_tuple_getitem ht.typeIs entry_tuple_getitem ?_ (args_tuple_getitem _ _)))
 show wpAny _ _ (Builtin.Tuple.tupleItemsOf (.ref t) >>= _) _ _ s
 refine wpAny_bind (tupleItemsOf_ ht ?_)
 refine wpAny_bind (wpAny_typeOf hTs ?_)
 rw[if_pos (by decide)]
 refine wpAny_bind ?_
 unfold Builtin.Slice.sliceApplied Builtin.Slice.sliceFields
 refine wpAny_bind (wpAny_bind (wpAny_field hos hds (x:=.none) rfl (wpAny_bind (wpAny_field hos hds (x:=.none) rfl (wpAny_bind (wpAny_field hos hds (x:=vs) rfl (wpAny_pure ?_)))))))
 refine wpAny_bind (HT.slicePart_ ps ?_)
 show wpAny _ _ (if ((-1:Int) == 0)=true then _ else _) _ _ s
 rw[if_neg (by decide)]
 refine wpAny_bind (HT.slicePart_ .none (wpAny_bind (HT.slicePart_ .none (wpAny_bind (wpAny_pure ?_)))))
 have ha:Builtin.Slice.sliceAdjust none none (-1) ((its.toArray.size:Nat):Int)=((its.length:Int)-1,-1):=by simp[Builtin.Slice.sliceAdjust]
 show wpAny _ _ (match Builtin.Slice.sliceAdjust none none (-1) ((its.toArray.size:Nat):Int) with|(lo,hi)=>pure (lo,(-1:Int),Builtin.Slice.slicePlaces lo hi (-1))) _ _ s
 rw[ha]
 have hp:Builtin.Slice.slicePlaces ((its.length:Int)-1) (-1) (-1)=its.length:=by
  unfold Builtin.Slice.slicePlaces
  rw[if_neg (by decide)]
  by_cases h:(its.length:Int)-1 > -1
  ·rw[if_pos h];show((_:Int) / 1+1).toNat=_;rw[Int.ediv_one];omega
  ·rw[if_neg h];show(0:Int).toNat=_;simp;omega
 show wpAny _ _ (pure ((its.length:Int)-1,(-1:Int),Builtin.Slice.slicePlaces ((its.length:Int)-1) (-1) (-1))) _ _ s
 rw[hp]
 refine wpAny_pure ?_
 show wpAny _ _ (if (((its.length:Int)-1) == 0&&(-1:Int) == 1&&its.length == its.toArray.size)=true then _ else _) _ _ s
 rw[if_neg (by simp)]
 have hr:((List.range its.length).filterMap fun(k:Nat)=>its.toArray[(((its.length:Int)-1)+(k:Int)*(-1)).toNat]?)=its.reverse:=by
  have e:=Jd its.reverse
  rw[List.length_reverse] at e
  rw[←e]
  refine Dj fun k hk=>?_
  have:=List.mem_range.mp hk
  rw[List.getElem?_reverse this,List.getElem?_toArray]
  congr 1;omega
 rw[hr]
 have htake:sizeOk (.seq its.reverse.toArray):=by
  show its.reverse.toArray.size≤sizeLine
  rw[List.size_toArray,List.length_reverse];exact hz
 first
  |exact wpAny_bind (m:=Builtin.Tuple.tupleExact _) (wpAny_newObj_type (wpAny_pure ⟨_,rfl,wpAny_pure h⟩) htake)
  |exact wpAny_bind (m:=Builtin.Tuple.tupleExact _) (wpAny_newObj_type (wpAny_bind (wpAny_pure (wpAny_pure ⟨_,rfl,wpAny_pure h⟩))) htake)
  |exact wpAny_bind (wpAny_bind (m:=Builtin.Tuple.tupleExact _) (wpAny_newObj_type (wpAny_pure (wpAny_pure ⟨_,rfl,wpAny_pure h⟩)) htake))
  |exact wpAny_bind (wpAny_bind (m:=Builtin.Tuple.tupleExact _) (wpAny_newObj_type (wpAny_pure ⟨_,rfl,wpAny_pure h⟩) htake))
theorem DVs.rev{K:W.Frag}{H:Hp}:∀{ds:List D} {vs:List V},DVs K H ds vs→DVs K H ds.reverse vs.reverse
 |_,_,.nil=>.nil
 |_,_,.cons h t=>by rw[List.reverse_cons,List.reverse_cons];exact(DVs.rev t).append (.cons h .nil)
theorem Fk:∀{xs:List V} {us:List Value},Vals xs us→Vals xs.reverse us.reverse
 |_,_,.nil=>.nil
 |_,_,.cons h t=>by rw[List.reverse_cons,List.reverse_cons];exact Vals.append (Fk t) (.cons h .nil)
def Na(G:Gp)(x:D)(Q:DK):Prop:=match x with
 |.tup ds=>Q (.tup ds.reverse) G
 |.ref a=>match G a with
  |some (.lst ds)=>∀p,G p=none→Q (.ref p) (Ab G p (.lst ds.reverse))
  |_=>False
 |_=>False
def R6(te:DTE)(ts:DTE):DTE:=fun σ G Q=>te σ G fun x G1=>ts σ G1 fun y G2=>y=.int (-1)∧Na G2 x Q
theorem Vc(he:QE X e te)(hb:QE X b tb):QE X (.Subscript e (.Slice none none (some b) p2) pos) (R6 te tb):=by
 intro pins s σ H Q I ⟨σD,G,Q',rs,rg,h,cl⟩
 refine Subscript_ (thn (he pins s σ H (fun xv H1=>∃x G1,DV X.K H1 x xv∧(tb σD G1 fun y G2=>y=.int (-1)∧Na G2 x Q')∧RelG X.K H1 G1∧Ext H H1) I ⟨σD,G,_,rs,rg,h,fun x G1 h1 H1 x1 rg1 v1 d1=>⟨x,G1,d1,h1,rg1,x1⟩⟩) fun v s1 ⟨xv,H1,I1,r1,x,G1,d1,h1,rg1,x1⟩=>?_)
 refine wpAny_Slice ?_
 rw[evalPart_none]
 refine wpAny_pure (wpAny_pure ?_)
 rw[evalPart_some]
 refine thn (hb pins s1 σ H1 (fun yv H2=>∃y G2,DV X.K H2 y yv∧(y=.int (-1)∧Na G2 x Q')∧RelG X.K H2 G2∧Ext H1 H2) I1 ⟨σD,G1,_,rs.ext x1,rg1,h1,fun y G2 h2 H2 x2 rg2 v2 d2=>⟨y,G2,d2,h2,rg2,x2⟩⟩) fun vst s3 ⟨yv,H3,I3,r3,y,G2,d2,⟨ey,h2⟩,rg2,x2⟩=>?_
 subst ey;cases d2
 obtain⟨tk,rfl⟩:=r3
 have I4:Inv X pins σ H3 { s3 with heap:=s3.heap.push { cls:=.type "slice",data:=.fields #[.none,.none,.int (-1) tk] } }:=I3.kept (t':=s3.toks) fun b ob q=>Heap.get?_push_of_some _ q
 have hsl:({ s3 with heap:=s3.heap.push { cls:=.type "slice",data:=.fields #[.none,.none,.int (-1) tk] } }:Shared).heap.IsSliceOf s3.heap.objs.size .none .none (.int (-1) tk):=Heap.IsSliceOf.new ..
 show wpAny (model X.prog X.w) X.A (subscriptTail e (.Slice none none (some b) p2) v (.ref s3.heap.objs.size)) (EP X pins σ Q) X.xe { s3 with heap:=s3.heap.push { cls:=.type "slice",data:=.fields #[.none,.none,.int (-1) tk] } }
 have cl2:=fun d G' q=>(cl d G' q).go (x1.trans x2)
 cases d1.ext x2 with
 |@tup ds a xs ea ra=>
  cases r1
  have h2:Q' (.tup ds.reverse) G2:=h2
  obtain⟨its,rv,ht,hz⟩:=I4.tuple (.inl (.inl ea))
  refine tail_any (ops:=[.ref a,.ref s3.heap.objs.size]) ht.typeIs PyProof.Rows.slot_tuple_getitem.lookup (Dz ht hsl (.int _ _) (by rw[←rv.length];exact hz) ?_) (by with_unfolding_all rfl)
  refine⟨.ref _,_,I4.laid (t':=s3.toks) (o:=.tup xs.reverse) (fun b ob q=>Heap.get?_push_of_some _ q) (Nat.le_refl _) ⟨by rw[List.length_reverse];exact hz,_,Fk rv,IsTup.new _ _⟩,rfl,?_⟩
  have hp:=I4.hok.fresh (Nat.le_refl _)
  exact cl2 _ G2 h2 _ (Ext.fresh hp) (rg2.tup hp) _ (.tup Ad (ra.rev.ext (Ext.fresh hp)))
 |ref a=>
  cases r1
  simp only[Na] at h2
  split at h2
  ·rename_i ds g
   obtain⟨xs,ea,ra⟩:=rg2 a _ g
   obtain⟨its,rv,ht,hz⟩:=I4.list (.inl (.inl ea))
   have hlen:=rv.length
   refine tail_any (ops:=[.ref a,.ref s3.heap.objs.size]) ht.isList.typeIs slot_list_getitem.lookup (wpAny_getItem_list_slice ht.isList hsl .none .none (.int _ _) (by simp) ?_ (by rw[List.size_toArray]<;>omega)) (by with_unfolding_all rfl)
   rw[O0]
   refine⟨.ref _,_,I4.laid (t':=s3.toks) (o:=.lst xs.reverse) (fun b ob q=>Heap.get?_push_of_some _ q) (Nat.le_refl _) ⟨by rw[List.length_reverse];exact hz,_,0,Fk rv,Heap.get?_push_size _ rfl⟩,rfl,?_⟩
   have hp:=I4.hok.fresh (Nat.le_refl _)
   exact cl2 _ _ (h2 _ (rg2.free hp)) _ (Ext.fresh hp) (rg2.lst hp ra.rev) _ (.ref _)
  ·exact h2.elim
 |_=>exact h2.elim
theorem U8{G:Gp}{ds:List D}{Q:DK}:Na G (.tup ds) Q=Q (.tup ds.reverse) G:=rfl
theorem Pq{prog:Program}{w:World}{A:Around}{E:Value→Shared→Prop}{s:Shared}{t b:Addr}{ws:List Value}{Q:Value→Shared→Prop}(ht:IsTup s.heap t #[])(hb:IsTup s.heap b ws.toArray)(h1:Q (.ref b) s) :
  wpAny (model prog w) A (binaryOp .Add (.ref t) (.ref b)) Q E s:=by
 obtain⟨⟨cls,dd,data,sl⟩,ho,hc,n,hd⟩:=id ht
 obtain⟨⟨cls2,dd2,data2,sl2⟩,ho2,hc2,n2,hd2⟩:=id hb
 simp only at hc hd hc2 hd2
 subst hc hd hc2 hd2
 exact concat_meets ⟨_,ho,rfl⟩ ⟨_,ho2,rfl⟩ noFill_tuple_add seq_tuple_add PySem.F.slot_tuple_add PySem.F.entry_tuple_add (PySem.F.args_tuple_add_2 _ _)
   (tuple_addW0 t b #[] ws.toArray n n2 dd dd2 sl sl2 rfl) ⟨ho,ho2,h1⟩
def Ii:DR2:=fun x y G Q=>match x,y with
 |.int i,.int j=>Q (.int (i+j)) G
 |.tup xs,.tup ys=>xs.length+ys.length≤sizeLine∧Q (.tup (xs++ys)) G
 |.ref a,.ref b=>match G a,G b with
  |some (.lst xs),some (.lst ys)=>xs.length+ys.length≤sizeLine∧∀p,G p=none→Q (.ref p) (Ab G p (.lst (xs++ys)))
  |_,_=>False
 |_,_=>False
theorem o_addD:QOp X (binaryOp .Add) Ii:=by
 intro pins s σ H x y v u Q I rx ry ⟨dx,dy,G,Q',hx,hy,rg,h,cl⟩
 cases hx with
 |int i=>
  cases hy with
  |int j=>exact Tq pins s σ H _ _ v u Q I rx ry ⟨i,j,rfl,rfl,cl _ G h H (Ext.refl H) rg _ (.int _)⟩
  |_=>exact h.elim
 |@tup xs a vs ea ra=>
  cases hy with
  |@tup ys b ws eb rb=>
   obtain⟨hl,h⟩:=h
   by_cases hne:vs=[]
   ·subst hne
    cases ra
    cases rx;cases ry
    obtain⟨its,r1,p1,_⟩:=I.tuple (.inl (.inl ea))
    obtain⟨its2,r2,p2,_⟩:=I.tuple (.inl (.inl eb))
    cases r1
    exact Pq p1 p2 ⟨.ref b,H,I,rfl,cl _ G h H (Ext.refl H) rg _ (.tup eb rb)⟩
   ·refine Qu pins s σ H _ _ v u Q I rx ry ⟨a,b,vs,ws,rfl,rfl,.inl (.inl ea),.inl (.inl eb),hne,by rw[←ra.length,←rb.length];exact hl,?_,fun _ p hp=>cl _ G h _ (Ext.fresh hp) (rg.tup hp) _ (.tup Ad ((ra.append rb).ext (Ext.fresh hp)))⟩
    intro z
    subst z;cases rb
    rw[List.append_nil] at h
    exact cl _ G h H (Ext.refl H) rg _ (.tup ea ra)
  |_=>exact h.elim
 |ref a=>
  cases hy with
  |ref b=>
   simp only[Ii] at h
   split at h
   ·rename_i xs ys ga gb
    obtain⟨hl,h⟩:=h
    obtain⟨vs,ea,ra⟩:=rg a _ ga
    obtain⟨ws,eb,rb⟩:=rg b _ gb
    exact Tp pins s σ H _ _ v u Q I rx ry ⟨a,b,vs,ws,rfl,rfl,ea,eb,by rw[←ra.length,←rb.length];exact hl,fun p hp=>cl _ _ (h p (rg.free hp)) _ (Ext.fresh hp) (rg.lst hp (ra.append rb)) _ (.ref p)⟩
   ·exact h.elim
  |_=>exact h.elim
 |_=>exact h.elim
theorem By{i j:Int}{G:Gp}{Q:DK}:Ii (.int i) (.int j) G Q=Q (.int (i+j)) G:=rfl
theorem Ol{i j:List D}{G:Gp}{Q:DK}:Ii (.tup i) (.tup j) G Q=(i.length+j.length≤sizeLine∧Q (.tup (i++j)) G):=rfl
theorem Lc{G:Gp}{ds:List D}{lo hi:Option Int}{Q:DK}:D6 G (.tup ds) lo hi Q=Q (.tup (Aw ds lo hi)) G:=rfl
def Rr:DTE:=fun _ G Q=>∀p,G p=none→Q (.ref p) (Ab G p (.dkk []))
theorem RelG.new{K:W.Frag}{H:Hp}{G:Gp}(r:RelG K H G){p:Addr}{u:HO}{o:GO}(h:H p=none)(n:GOk K (upd H p u) p o):RelG K (upd H p u) (Ab G p o):=fun a q e=>by
 by_cases z:a=p
 ·subst z
  rw[Aa] at e;cases e
  exact n
 ·rw[As z] at e
  exact(r a q e).upd (Ext.fresh h) (.inr z)
theorem Sz:QE X (.Dict [] [] pos) Rr:=pe_dnewK.imp fun σ H Q ⟨σD,G,Q',rs,rg,h,cl⟩=>fun p hp=>
 cl _ _ (h p (rg.free hp)) _ (Ext.fresh hp) (rg.new hp ⟨[],Ad,.nil⟩) _ (.ref p)
end
structure Src where
 it:Addr
 l:Addr
 tp:Bool
def Src.At(h:Heap)(c:Src)(i:Nat):Prop:=if c.tp=true then h.IsTupleIter c.it c.l i else h.IsListIter c.it c.l i
def Src.Sq(h:Heap)(c:Src)(xs:Array Value):Prop:=if c.tp=true then h.IsTuple c.l xs else h.IsList c.l xs
theorem Src.At.keep{h h':Heap}{c:Src}{i:Nat}(x:c.At h i)(k:∀o,h.get? c.it=some o→h'.get? c.it=some o):c.At h' i:=by
 unfold Src.At at x ⊢
 split at x
 ·rename_i e;rw[if_pos e];exact x.at k
 ·rename_i e;rw[if_neg e];exact x.at k
theorem Src.Sq.keep{h h':Heap}{c:Src}{xs:Array Value}(x:c.Sq h xs)(k:∀o,h.get? c.l=some o→h'.get? c.l=some o):c.Sq h' xs:=by
 unfold Src.Sq at x ⊢
 split at x
 ·rename_i e;rw[if_pos e];exact x.at k
 ·rename_i e;rw[if_neg e];exact x.at k
section
variable{prog:Program}{w:World}{A:Around}{E:Value→Shared→Prop}{s:Shared}
end
section
variable{X:Cx}{pins:List (Addr×Obj)}{σ:St}{H:Hp}{s:Shared}
end
section
variable{X:Cx}{pins:List (Addr×Obj)}{σ:St}{H:Hp}{s:Shared}{E:Value→Shared→Prop}
end
structure ItemsX(K:PySem.W.Frag)(J:It)(H:Hp)(ds:List D):Prop where
 go:∀i,i<ds.length→J.go i H
 yl:∀i x H',i<ds.length→J.yld i H x H'→Ext H H'∧(∀G,RelG K H G→RelG K H' G)∧∃d,ds[i]? = some d∧DV K H' d x
 st:J.stop ds.length H
section
variable{X:Cx}{a b c e:Expr}{elts:List Expr}{kk:Nat}{tp p pos:Pos}{body:List Stmt}
end
def Au(scope:Scope)(cl:List (Str×Addr))(C:Addr):List (Str×Addr):=cellsFrom (C+1) scope.names cl
def Af(X:Cx)(scope:Scope)(cl:List (Str×Addr))(T M:List Str)(s:Shared)(H:Hp)(fp:List Addr):Cx where
 prog:=X.prog
 w:=X.w
 K:=X.K
 mg:=X.mg
 base:=X.base
 A:=X.A
 N:=T++M
 s₀:=s
 H₀:=H
 env:=compEnvC scope (Au scope cl s.heap.objs.size) s.heap.objs.size X.env
 outer:=X.stack
 stack:=X.stack
 ex:=fp
 fn:=fun x=>scope.names.lookup x == some .cell
 calm:=X.calm
 pn:=[]
 xe:=fun _ _=>False
structure CompOz(X:Cx)(scope:Scope)(cl:List (Str×Addr))(T M:List Str):Prop where
 clos:closureFor scope X.env=pure cl
 kind:scope.kind=.function
 names:∀y∈scope.names,y.2=.local→scope.names.lookup y.1=some .local
 nocl:∀y∈scope.names,y.2=.cell→scope.names.lookup y.1=some .cell
 sub:∀x c,cl.lookup x=some c→X.env.cells.lookup x=some c∧scope.names.lookup x=some .free
 has:∀x,scope.names.lookup x=some .free→∃c,cl.lookup x=some c
 len:M.length=X.N.length
 vis:∀(i:Nat) (x:Str),M[i]? = some x→∀k,scope.names.lookup x=some k→k≠.local∧k≠.cell∧(k=.free→X.N[i]? = some x∧(X.env.kindOf x=some .cell∨X.env.kindOf x=some .free))
theorem Bn{scope:Scope}{env:Env}{x:Str}:(relabel scope env).names.lookup x=(scope.names.lookup x).map fun k=>if (k == NameKind.free&&env.scope.kind == .function&&env.kindOf x == some .cell)=true then NameKind.cell else k:=by
 show(scope.names.map fun(n,k)=>if (k == NameKind.free&&env.scope.kind == .function&&env.kindOf n == some .cell) then (n,NameKind.cell) else (n,k)).lookup x=_
 generalize scope.names=names
 induction names with
 |nil=>rfl
 |cons y r ih=>
  obtain⟨n,k⟩:=y
  rw[List.map_cons]
  by_cases hx:x=n
  ·subst hx
   by_cases hc:(k == NameKind.free&&env.scope.kind == .function&&env.kindOf x == some .cell)=true
   ·simp only[hc,if_true,List.lookup_cons_self,Option.map_some]
   ·simp only[hc,Bool.false_eq_true,if_false,List.lookup_cons_self,Option.map_some]
  ·have e:∀k',List.lookup x ((n,k')::r)=List.lookup x r:=fun k'=>by rw[List.lookup_cons,beq_false_of_ne hx]
   rw[e,←ih]
   by_cases hc:(k == NameKind.free&&env.scope.kind == .function&&env.kindOf n == some .cell)=true
   ·simp only[hc,if_true];rw[List.lookup_cons,beq_false_of_ne hx]
   ·simp only[hc];rw[show(if false=true then (n,NameKind.cell) else (n,k))=(n,k) from rfl,List.lookup_cons,beq_false_of_ne hx]
theorem A1:∀(names:List (Str×NameKind)) (n:Nat) (acc:List (Str×Addr)),∃own,cellsFrom n names acc=own++acc∧(∀p∈own,(p.1,NameKind.cell)∈names∧n≤p.2)∧∀x,(x,NameKind.cell)∈names→∃c,own.lookup x=some c
 |[],n,acc=>⟨[],rfl,by simp,by simp⟩
 |(y,k)::r,n,acc=>by
  unfold cellsFrom
  by_cases hk:(k == NameKind.cell)=true
  ·rw[if_pos hk]
   obtain⟨own,e,h1,h2⟩:=A1 r (n+1) ((y,n)::acc)
   have hk':k=.cell:=by simpa using hk
   subst hk'
   refine⟨own++[(y,n)],by rw[e];simp,fun p hp=>?_,fun x hx=>?_⟩
   ·rcases List.mem_append.mp hp with hp|hp
    ·exact⟨List.mem_cons_of_mem _ (h1 p hp).1,by have:=(h1 p hp).2;omega⟩
    ·have:p=(y,n):=by simpa using hp
     subst this
     exact⟨by simp,Nat.le_refl _⟩
   ·rcases List.mem_cons.mp hx with z|z
    ·cases z
     rw[List.lookup_append]
     cases q:own.lookup y with
     |some c=>exact⟨c,rfl⟩
     |none=>exact⟨n,by simp⟩
    ·obtain⟨c,hc⟩:=h2 x z
     exact⟨c,by rw[List.lookup_append,hc];rfl⟩
  ·rw[if_neg hk]
   obtain⟨own,e,h1,h2⟩:=A1 r n acc
   refine⟨own,e,fun p hp=>⟨List.mem_cons_of_mem _ (h1 p hp).1,(h1 p hp).2⟩,fun x hx=>?_⟩
   rcases List.mem_cons.mp hx with z|z
   ·cases z;exact absurd rfl hk
   ·exact h2 x z
theorem B8{X:Cx}{scope:Scope}{cl:List (Str×Addr)}{T M:List Str}(ok:CompOz X scope cl T M)(C:Addr):∀x c,(Au scope cl C).lookup x=some c→(scope.names.lookup x=some .cell∧C+1≤c)∨(cl.lookup x=some c∧scope.names.lookup x=some .free):=by
 intro x c h
 obtain⟨own,e,h1,h2⟩:=A1 scope.names (C+1) cl
 unfold Au at h
 rw[e,List.lookup_append] at h
 cases q:own.lookup x with
 |some c'=>
  rw[q] at h
  have h:some c'=some c:=h
  cases h
  have:=h1 _ (PySem.mem_of_lookup q)
  exact .inl ⟨ok.nocl _ this.1 rfl,this.2⟩
 |none=>
  rw[q] at h
  have h:cl.lookup x=some c:=h
  exact .inr ⟨h,(ok.sub x c h).2⟩
theorem Dc{X:Cx}{scope:Scope}{cl:List (Str×Addr)}{T M:List Str}(ok:CompOz X scope cl T M)(C:Addr){x:Str}(hx:scope.names.lookup x=some .free):(Au scope cl C).lookup x=cl.lookup x:=by
 obtain⟨own,e,h1,h2⟩:=A1 scope.names (C+1) cl
 unfold Au
 rw[e,List.lookup_append]
 cases q:own.lookup x with
 |some c'=>
  have:=ok.nocl _ (h1 _ (PySem.mem_of_lookup q)).1 rfl
  rw[hx] at this;cases this
 |none=>rfl
theorem Gq{X:Cx}{scope:Scope}{cl:List (Str×Addr)}{T M:List Str}{pins:List (Addr×Obj)}{σ:St}{H:Hp}{s s4:Shared}{fp:List Addr}{m:Str→Option Value}(ok:CompOz X scope cl T M)(I:Inv X pins σ H s)(hfp:∀b∈fp,Dg X pins H b∧b<s.heap.objs.size)(hn:s4.heap.Ns s.heap.objs.size m)(hk:∀b o,s.heap.get? b=some o→s4.heap.get? b=some o)(hos:s4.os=s.os)(hg:s4.gens=s.gens)(hc1:∀x c,(Au scope cl s.heap.objs.size).lookup x=some c→scope.names.lookup x=some .cell→∃v,s4.heap.IsCell c v)(hc2:∀x y c,(Au scope cl s.heap.objs.size).lookup x=some c→(Au scope cl s.heap.objs.size).lookup y=some c→scope.names.lookup x=some .cell→x=y) :
  Inv (Af X scope cl T M s H fp) [] (Nb T σ) H s4:=by
 have fr:∀{b:Addr},s.heap.objs.size≤b→H b=none:=fun h=>I.hok.fresh h
 have old:∀x c,cl.lookup x=some c→c<s.heap.objs.size:=fun x c e=>by
  obtain⟨v,o,ho,_⟩:=I.cell x c (ok.sub x c e).1
  exact Heap.lt_size ho
 have lk:=B8 ok s.heap.objs.size
 have inj:∀x y c,(Au scope cl s.heap.objs.size).lookup x=some c→(Au scope cl s.heap.objs.size).lookup y=some c→x=y:=fun x y c h1 h2=>by
  rcases lk x c h1 with ⟨a1,a2⟩|⟨a1,a2⟩
  ·exact hc2 x y c h1 h2 a1
  ·rcases lk y c h2 with ⟨b1,b2⟩|⟨b1,b2⟩
   ·exact absurd (Nat.lt_of_lt_of_le (old x c a1) (Nat.le_of_succ_le b2)) (Nat.lt_irrefl _)
   ·exact I.ok.inj x y c (ok.sub x c a1).1 (ok.sub y c b1).1
 have has:∀x,((relabel scope X.env).names.lookup x=some .cell∨(relabel scope X.env).names.lookup x=some .free)→∃c,(Au scope cl s.heap.objs.size).lookup x=some c:=fun x hx=>by
  rw[Bn] at hx
  cases q:scope.names.lookup x with
  |none=>rw[q] at hx;simp at hx
  |some k=>
   rw[q] at hx
   simp only[Option.map_some] at hx
   by_cases hkf:k=.free
   ·subst hkf
    obtain⟨c,hc⟩:=ok.has x q
    exact⟨c,by rw[Dc ok _ q];exact hc⟩
   ·have:k=.cell:=by
     have hb:(k == NameKind.free)=false:=by simpa using hkf
     simp only[hb,Bool.false_and,Bool.false_eq_true,if_false,Option.some.injEq] at hx
     exact hx.elim id fun z=>absurd z hkf
    subst this
    obtain⟨own,e,h1,h2⟩:=A1 scope.names (s.heap.objs.size+1) cl
    obtain⟨c,hc⟩:=h2 x (PySem.mem_of_lookup q)
    exact⟨c,by unfold Au;rw[e,List.lookup_append,hc];rfl⟩
 refine⟨⟨I.ok.mod,ok.kind,I.ok.glob,I.ok.blt,Nat.le_refl _,inj,has,fun x c h h1=>?_,I.ok.hd,I.ok.frames,.inl rfl,fun b hb=>⟨Nat.ne_of_lt (hfp b hb).2,fun x c e=>?_⟩,I.bs,Nat.le_trans I.ok.bsz I.sz,fun b o e hb=>?_,fun b hb z=>?_,I.stack,I.stkFree⟩,
  hos,by rw[hg];exact I.bare,Un.kept hk,⟨m,hn,fun i x v e1 e2 e3=>?_⟩,fun x c e=>?_,fr (Nat.le_refl _),fun x c e=>?_,fun p hp=>absurd (show p∈([]:List (Addr×Obj)) from hp) (by simp),I.hok.kept hk,?_⟩
 ·have h:(scope.names.lookup x == some .cell)=true:=h
  have h:scope.names.lookup x=some .cell:=by simpa using h
  rcases lk x c h1 with ⟨_,a2⟩|⟨_,a2⟩
  ·exact Nat.le_of_succ_le a2
  ·rw[h] at a2;cases a2
 ·rcases lk x c e with ⟨_,a2⟩|⟨a1,a2⟩
  ·exact Nat.ne_of_gt (Nat.lt_of_lt_of_le (hfp b hb).2 (Nat.le_of_succ_le a2))
  ·exact(hfp b hb).1.2.2.2.2.1 x c (ok.sub x c a1).1
 ·rcases(hfp b hb).1.2.2.2.1 with z|z
  ·exact I.ok.noex b o e z
  ·exact absurd (Nat.lt_of_lt_of_le (Heap.lt_size e) (Nat.le_trans I.ok.bsz z)) (Nat.lt_irrefl _)
 ·rcases List.mem_cons.mp (I.stkSub b z) with e|e
  ·exact(hfp b hb).1.2.1 e
  ·exact(hfp b hb).1.2.2.1 e
 ·have e1:(T++M)[i]? = some x:=e1
  have e2:(List.replicate T.length none++σ)[i]? = some (some v):=e2
  by_cases hi:i<T.length
  ·rw[List.getElem?_append_left (by simpa using hi),List.getElem?_replicate,if_pos hi] at e2
   cases e2
  ·rw[List.getElem?_append_right (by omega)] at e1
   rw[List.getElem?_append_right (by simpa using hi),List.length_replicate] at e2
   have e3:Vis (relabel scope X.env) x:=e3
   have hq:∃k,scope.names.lookup x=some k∧k=.free:=by
    cases q:scope.names.lookup x with
    |none=>unfold Vis at e3;rw[Bn,q] at e3;simp at e3
    |some k=>
     obtain⟨v1,v2,_⟩:=ok.vis _ x e1 k q
     refine⟨k,rfl,?_⟩
     unfold Vis at e3
     rw[Bn,q] at e3
     by_cases hkf:k=.free
     ·exact hkf
     ·have hb:(k == NameKind.free)=false:=by simpa using hkf
      simp only[Option.map_some,hb,Bool.false_and,Bool.false_eq_true,if_false,Option.some.injEq] at e3
      rcases e3 with z|z|z
      ·exact absurd z v1
      ·exact absurd z v2
      ·exact z
   obtain⟨k,hq,rfl⟩:=hq
   obtain⟨e1,k2⟩:=(ok.vis _ x e1 _ hq).2.2 rfl
   obtain⟨m0,hn0,hl0⟩:=I.loc
   have v0:Vis X.env.scope x:=k2.elim (fun z=>.inr (.inl z)) fun z=>.inr (.inr z)
   obtain⟨u,r,l⟩:=hl0 _ x v e1 e2 v0
   have k1:(relabel scope X.env).names.lookup x=some .cell∨(relabel scope X.env).names.lookup x=some .free:=by
    rw[Bn,hq]
    simp only[Option.map_some]
    split
    ·exact .inl rfl
    ·exact .inr rfl
   refine⟨u,r,.inr ⟨k1,?_⟩⟩
   obtain⟨c,hc⟩:=ok.has x hq
   refine⟨c,(Dc ok _ hq).trans hc,?_⟩
   rcases l with ⟨l,_⟩|⟨_,c',hc',hv'⟩
   ·rcases k2 with z|z
    ·rw[l] at z;cases z
    ·rw[l] at z;cases z
   ·rw[(ok.sub x c hc).1] at hc'
    cases hc'
    obtain⟨o,ho,hd⟩:=hv'
    exact⟨o,hk _ _ ho,hd⟩
 ·rcases lk x c e with ⟨a1,a2⟩|⟨a1,a2⟩
  ·exact hc1 x c e a1
  ·obtain⟨v,o,ho,hd⟩:=I.cell x c (ok.sub x c a1).1
   exact⟨v,o,hk _ _ ho,hd⟩
 ·rcases lk x c e with ⟨a1,a2⟩|⟨a1,a2⟩
  ·exact fr (Nat.le_of_succ_le a2)
  ·exact I.freeC x c (ok.sub x c a1).1
 ·show(List.replicate T.length none++σ).length=(T++M).length
  rw[List.length_append,List.length_append,List.length_replicate,I.len,ok.len]

def Iq(P:Program)(w:World)(A:Around)(env:Env)(tg elt:Expr)(ifs:List Expr)(it acc:Value)(X:Value→Shared→Prop)(nxt:Shared→Prop)(v:Value)(t:Shared):Prop:=
 wpAny (model P w) A (letOwnedTupleGo tg it v) (fun _ a=>wpAny (model P w) A (assign tg env v) (fun _ b=>wpAny (model P w) A (Kg ifs env) (fun y c=>
  if y=true then wpAny (model P w) A (eval elt env) (fun e d=>wpAny (model P w) A (call (.builtin "list.append") [acc,e]) (fun _ f=>nxt f) X d) X c else nxt c) X b) X a) X t
theorem Em{P:Program}{w:World}{A:Around}{R:Result→Shared→Prop}{s:Shared}{elt tg src:Expr}{ifs:List Expr}{sc:Scope}{pl:Pos}{it acc:Value}{env:Env}(V:Nat→Shared→Prop)(go:∀k t,V k t→wpAny (model P w) A (pyNext it) (fun r u=>match r with
   |none=>R (.ok .next) u
   |some v=>Iq P w A env tg elt ifs it acc (notedBy (model P w) A env fun e z=>R (.error e) z) (fun z=>∃m,m<k∧V m z) v u) (notedBy (model P w) A env fun e z=>R (.error e) z) t)(k:Nat)(h0:V k s):codeAny (model P w) A (.compLoop (.ListComp elt [⟨tg,src,ifs,0⟩] sc pl) 0 it acc env) R s:=by
 refine codeAny_loop rfl V (fun k t hv=>(show wpAny _ A ((compTurn (.ListComp elt [⟨tg,src,ifs,0⟩] sc pl) 0 it acc env).onRaise (fun x=>do noteFrame x env;theTreesLotGoes x)) _ _ t from wpAny_noted ?_)) k h0
 rw[compTurn_list];refine wpAny_bind (wpAny_standAt (wpAny_bind (wpAny_mono (go k t hv) (fun r u hr=>?_) fun _ _ z=>z)))
 cases r with
 |none=>exact wpAny_pure hr
 |some v=>
  refine wpAny_bind (wpAny_mono hr (fun _ a ha=>wpAny_bind (wpAny_mono ha (fun _ b hb=>wpAny_bind (wpAny_mono hb (fun y c hc=>?_) fun _ _ z=>z)) fun _ _ z=>z)) fun _ _ z=>z)
  cases y with
  |true=>exact wpAny_bind (wpAny_bind (wpAny_mono hc (fun e d hd=>wpAny_bind (wpAny_mono hd (fun _ f hf=>wpAny_pure (wpAny_pure ⟨rfl,hf⟩)) fun _ _ z=>z)) fun _ _ z=>z))
  |false=>refine wpAny_pure ⟨rfl,?_⟩;exact hc
theorem Iy{M:Model}{A:Around}{E:Value→Shared→Prop}{s:Shared}{scope:Scope}{env:Env}{cl:List (Str×Addr)}{Q:Env→Shared→Prop}(hk:scope.kind=.function)(h:∀h':Heap,h'.Ns s.heap.objs.size (fun _=>none)→(∀b o,s.heap.get? b=some o→h'.get? b=some o)→CellsOk h' (s.heap.objs.size+1) (cellsFrom (s.heap.objs.size+1) scope.names [])→
   Q (newEnv scope s.heap.objs.size env.globals (Au scope cl s.heap.objs.size) env.qual none .none (some env) builtinsNs) { s with heap:=h' }) :
  wpAny M A (newFunctionEnv scope env.globals cl [] env.qual none .none (some env)) Q E s:=by
 simp only[newFunctionEnv,Option.isSome_some,if_true];refine wpAny_bind (wpAny_alloc ?_)
 refine wpAny_bind (wpAny_layCells _ (fun name kind cells=>by cases hkc:kind == NameKind.cell<;>simp) _ _ _ _ ?_)
 have okc:=cellsFrom_ok scope.names (s.heap.push { cls:=.type "dict",data:=.dict #[] }) (s.heap.objs.size+1) [] ⟨fun _ _ hm=>(nomatch hm),List.Pairwise.nil⟩ (by rw[Heap.size_push];exact Nat.le_refl _)
 rw[Heap.size_push] at okc
 rw[show({ s with heap:=s.heap.push { cls:=.type "dict",data:=.dict #[] } }:Shared).heap.objs.size=s.heap.objs.size+1 from Heap.size_push ..]
 refine wpAny_bind ?_
 rw[List.forIn_nil]
 refine wpAny_pure (wpAny_pure ?_)
 exact h _ ((Heap.Ns.new s.heap (.type "dict")).keeps (pushCells_keeps _ _)) (fun b o e=>pushCells_keeps _ _ b o (Heap.get?_push_of_some _ e)) okc

theorem Bw:∀(names:List (Str×NameKind)) (n:Nat) (acc:List (Str×Addr)),cellsFrom n names acc=cellsFrom n names []++acc
 |[],n,acc=>rfl
 |(y,k)::r,n,acc=>by
  unfold cellsFrom
  split
  ·rw[Bw r (n+1) ((y,n)::acc),Bw r (n+1) [(y,n)]];simp
  ·exact Bw r n acc
theorem Kd{scope:Scope}{cl:List (Str×Addr)}{C:Addr}{x:Str}{c:Addr}(h:(Au scope cl C).lookup x=some c)(hn:cl.lookup x=none∨C+1≤c)(old:∀x c,cl.lookup x=some c→c<C):(x,c)∈cellsFrom (C+1) scope.names []:=by
 unfold Au at h
 rw[Bw,List.lookup_append] at h
 cases q:(cellsFrom (C+1) scope.names []).lookup x with
 |some c'=>
  rw[q] at h
  have h:some c'=some c:=h
  cases h
  exact PySem.mem_of_lookup q
 |none=>
  rw[q] at h
  have h:cl.lookup x=some c:=h
  rcases hn with z|z
  ·rw[z] at h;cases h
  ·exact absurd (Nat.lt_of_lt_of_le (old x c h) (Nat.le_of_succ_le z)) (Nat.lt_irrefl _)
theorem Lx{X:Cx}{scope:Scope}{cl:List (Str×Addr)}{T M:List Str}{C:Addr}{h':Heap}(ok:CompOz X scope cl T M)(okc:CellsOk h' (C+1) (cellsFrom (C+1) scope.names []))(old:∀x c,cl.lookup x=some c→c<C) :
  ∀x c,(Au scope cl C).lookup x=some c→scope.names.lookup x=some .cell→∃v,h'.IsCell c v:=fun x c h hx=>by
 rcases B8 ok C x c h with ⟨_,a2⟩|⟨_,a2⟩
 ·exact⟨_,(okc.empty x c (Kd h (.inr a2) old)).1⟩
 ·rw[hx] at a2;cases a2
theorem Lw{X:Cx}{scope:Scope}{cl:List (Str×Addr)}{T M:List Str}{C:Addr}{h':Heap}(ok:CompOz X scope cl T M)(okc:CellsOk h' (C+1) (cellsFrom (C+1) scope.names []))(old:∀x c,cl.lookup x=some c→c<C) :
  ∀x y c,(Au scope cl C).lookup x=some c→(Au scope cl C).lookup y=some c→scope.names.lookup x=some .cell→x=y:=fun x y c h1 h2 hx=>by
 rcases B8 ok C x c h1 with ⟨_,a2⟩|⟨_,a2⟩
 ·exact name_of_addr okc.apart (Kd h1 (.inr a2) old) (Kd h2 (.inr a2) old)
 ·rw[hx] at a2;cases a2
def Sl(n:Nat)(wi:TI)(g:TG)(tf:TT)(te:TE):TE:=fun σ H Q=>wi σ H fun J H1=>∀p,H1 p=none→∃W:Nat→Nat→St→Hp→Prop,(∃m,W 0 m (List.replicate n none++σ) (upd H1 p (.lst [])))∧∀i m σ1 H,W i m σ1 H→
 ((J.stop i H∧Q (.ref p) H)∨(J.go i H∧∃N:St→Hp→Prop,(∀σ' H',N σ' H'→∃m',m'<m∧W (i+1) m' σ' H')∧
  ∀x H',J.yld i H x H'→g x σ1 H' fun σ2 H2=>tf σ2 H2 fun b H3=>if b=true then te σ2 H3 fun y H4=>∃ys,H4 p=some (.lst ys)∧ys.length<sizeLine∧N σ2 (upd H4 p (.lst (ys++[y]))) else N σ2 H3))
theorem Iu{X:Cx}{elt iter tg:Expr}{ifs:List Expr}{scope:Scope}{cl:List (Str×Addr)}{pos:Pos}{wi:TI}{g:TG}{tf:TT}{te:TE}{T M:List Str}(hc:X.calm=true)(ok:CompOz X scope cl T M)(hi:PI X tg iter wi)(hg:∀s H fp,PG (Af X scope cl T M s H fp) tg g)(hf:∀s H fp,PF (Af X scope cl T M s H fp) ifs tf)(he:∀s H fp,PE (Af X scope cl T M s H fp) elt te)(hs:∀x,foldedSetIterable iter X.env x=pure x:=by intro _;rfl):PE X (.ListComp elt [⟨tg,iter,ifs,0⟩] scope pos) (Sl T.length wi g tf te):=by
 intro pins s σ H Q I h
 rw[eval_ListComp]
 refine wpAny_comprehension_free (use:=none) (cl:=cl) rfl hs ok.clos ok.kind ok.names (thn (hi pins s σ H _ I h) fun v s1 h1=>thn h1 fun itv s2 h2=>?_)
 obtain⟨it,fp,tn,J,H2,e,I2,Tn,st2,f2,q⟩:=h2
 subst e
 have q:=q s2.heap.objs.size (I2.hok.fresh (Nat.le_refl _))
 refine wpAny_newObj_type ?_
 -- the new list,tracked
 have I3:Inv X pins σ (upd H2 s2.heap.objs.size (.lst [])) { s2 with heap:=s2.heap.push { cls:=.type "list",dict:=none,data:=.seq ([]:List Value).toArray } }:=
  I2.laid (t':=s2.toks) (fun b u e=>Heap.get?_push_of_some _ e) (Nat.le_refl _) ⟨Nat.zero_le _,[],0,.nil,Heap.get?_push_size _ rfl⟩
 generalize hH3:upd H2 s2.heap.objs.size (.lst [])=H3 at I3 q
 generalize hs3:({ s2 with heap:=s2.heap.push { cls:=.type "list",dict:=none,data:=.seq ([]:List Value).toArray } }:Shared)=s3 at I3
 have fpl:∀b∈fp,b<s2.heap.objs.size:=fun b hb=>let ⟨o,e,_⟩:=Tn.obj 0 _ st2 b hb;Heap.lt_size e
 have sz3:s2.heap.objs.size≤s3.heap.objs.size:=by rw[←hs3];show _≤(s2.heap.push _).objs.size;rw[Heap.size_push];exact Nat.le_succ _
 have fok:∀b∈fp,Dg X pins H3 b:=fun b hb=>⟨by rw[←hH3,Ac (Nat.ne_of_lt (fpl b hb))];exact(f2 b hb).1,(f2 b hb).2⟩
 have k23:∀b o,s2.heap.get? b=some o→s3.heap.get? b=some o:=fun b o e=>by rw[←hs3];exact Heap.get?_push_of_some _ e
 have st3:tn 0 s3.heap:=Tn.keep _ _ _ st2 fun b _ o e=>k23 b o e
 refine Iy ok.kind (fun h4 hns4 k34 okc=>?_)
 have oldc:∀x c,cl.lookup x=some c→c<s3.heap.objs.size:=fun x c e=>by
  obtain⟨v,o,ho,_⟩:=I3.cell x c (ok.sub x c e).1
  exact Heap.lt_size ho
 have hc1:=Lx (h':=h4) ok okc oldc
 have hc2:=Lw (h':=h4) ok okc oldc
 have I4:Inv (Af X scope cl T M s3 H3 fp) [] (Nb T σ) H3 { s3 with heap:=h4 }:=
  Gq ok I3 (fun b hb=>⟨fok b hb,Nat.lt_of_lt_of_le (fpl b hb) sz3⟩) hns4 k34 rfl rfl hc1 hc2
 have st4:tn 0 h4:=Tn.keep _ _ _ st3 fun b _ o e=>k34 b o e
 obtain⟨W,⟨m0,w0⟩,turn⟩:=q
 have cfpc:∀b∈fp,∀x c,(Au scope cl s3.heap.objs.size).lookup x=some c→c≠b:=fun b hb x c e=>by
  rcases B8 ok s3.heap.objs.size x c e with ⟨_,a2⟩|⟨a1,_⟩
  ·exact Nat.ne_of_gt (Nat.lt_of_lt_of_le (Nat.lt_of_lt_of_le (fpl b hb) sz3) (Nat.le_of_succ_le a2))
  ·exact(fok b hb).2.2.2.2.1 x c (ok.sub x c a1).1
 have cfp:∀{H':Hp},(∀b∈fp,H' b=none)→∀b∈fp,Dg (Af X scope cl T M s3 H3 fp) [] H' b:=fun hn b hb=>by
  refine⟨hn b hb,Nat.ne_of_lt (Nat.lt_of_lt_of_le (fpl b hb) sz3),fun z=>?_,.inl hb,fun x c e=>cfpc b hb x c e,fun p hp=>absurd (show p∈([]:List (Addr×Obj)) from hp) (by simp)⟩
  rcases List.mem_cons.mp (I3.stkSub b z) with e|e
  ·exact(fok b hb).2.1 e
  ·exact(fok b hb).2.2.1 e
 have fin:∀(σ':St) (H':Hp) (s':Shared),Inv (Af X scope cl T M s3 H3 fp) [] σ' H' s'→Q (.ref s2.heap.objs.size) H'→compPost (model X.prog X.w) X.A X.xe none (EP X pins σ Q) (.ref s2.heap.objs.size) s3.heap.objs.size (.ok .next) s':=fun σ' H' s' J q=>by
  obtain⟨m',hm',_⟩:=J.loc
  refine⟨m',hm',fun h' hs'=>?_⟩
  have J0:Inv X pins σ H' s':=I3.call' (ch:=fp) J.os J.base J.hok J.bare fun b hb=>⟨(fok b hb).2.2.2.1,(fok b hb).2.1,(fok b hb).2.2.2.2.1,(fok b hb).2.2.2.2.2⟩
  have nC:=I3.fpOk (H':=H') (Nat.le_refl s3.heap.objs.size) J.free
  exact⟨.ref s2.heap.objs.size,H',J0.turned (t':=s'.toks) (fun b o hb e=>(hs'.2 b hb).trans e) nC.1 nC.2.1 nC.2.2.2.1 nC.2.2.2.2.1 nC.2.2.2.2.2,rfl,q⟩
 have loop:∀s5:Shared,s5={ s3 with heap:=h4 }→
   codeAny (model X.prog X.w) X.A (.compLoop (.ListComp elt [⟨tg,iter,ifs,0⟩] scope pos) 0 (.ref it) (.ref s2.heap.objs.size) (compEnvC scope (Au scope cl s3.heap.objs.size) s3.heap.objs.size X.env))
    (compPost (model X.prog X.w) X.A X.xe none (EP X pins σ Q) (.ref s2.heap.objs.size) s3.heap.objs.size) s5:=by
  rintro s5 rfl
  refine Em (fun k s'=>∃i σ' H',Inv (Af X scope cl T M s3 H3 fp) [] σ' H' s'∧tn i s'.heap∧(∀b∈fp,H' b=none)∧W i k σ' H') ?_ m0 ⟨0,Nb T σ,H3,I4,st4,fun b hb=>(fok b hb).1,w0⟩
  rintro k s6 ⟨i,σ6,H6,I6,st6,fr6,w6⟩
  rcases turn i k σ6 H6 w6 with ⟨stop,qn⟩|⟨go,N,hN,step⟩
  ·refine wpAny_mono (Tn.done (Af X scope cl T M s3 H3 fp) rfl rfl rfl hc i [] s6 _ H6 (fun _ _=>False) I6 (cfp fr6) st6 stop) (fun r s7 ⟨hr,I7⟩=>?_) fun _ _ z=>z.elim
   subst hr
   exact fin _ H6 s7 I7 qn
  ·refine wpAny_mono (Tn.item (Af X scope cl T M s3 H3 fp) rfl rfl rfl hc i [] s6 _ H6 (fun _ _=>False) I6 (cfp fr6) st6 go) (fun r s7 ⟨u,hr,h7⟩=>?_) fun _ _ z=>z.elim
   subst hr
   show Iq _ _ _ _ _ _ _ _ _ _ _ _ _;unfold Iq
   refine wpAny_mono h7 (fun _ s8 h8=>?_) fun _ _ z=>z.elim
   obtain⟨x7,H7,I7,r7,y7,st7,fr7⟩:=h8
   have I7':=I7.pinned (cfp fr7) (Tn.obj _ _ st7)
   have back:∀{σ8:St} {H8:Hp} {s9:Shared},Inv (Af X scope cl T M s3 H3 fp) ([]++Cv fp s8.heap) σ8 H8 s9→tn (i+1) s9.heap∧∀b∈fp,H8 b=none:=fun {σ8 H8 s9} I8=>by
    refine⟨Tn.keep _ _ _ st7 fun b hb o e=>(I8.pin (b,o) (List.mem_append_right _ (List.mem_append_right _ (Bt hb e)))).1,fun b hb=>?_⟩
    obtain⟨o,e,d⟩:=Tn.obj _ _ st7 b hb
    exact(I8.pin (b,o) (List.mem_append_right _ (List.mem_append_right _ (Bt hb e)))).2.1
   have again:∀{σ9:St} {H9:Hp} {s9:Shared},Inv (Af X scope cl T M s3 H3 fp) ([]++Cv fp s8.heap) σ9 H9 s9→N σ9 H9→
     ∃m,m<k∧∃i σ' H',Inv (Af X scope cl T M s3 H3 fp) [] σ' H' s9∧tn i s9.heap∧(∀b∈fp,H' b=none)∧W i m σ' H':=fun {σ9 H9 s9} I9 n9=>by
    obtain⟨m',hm,w9⟩:=hN σ9 H9 n9
    obtain⟨b1,b2⟩:=back I9
    exact⟨m',hm,i+1,σ9,H9,I9.unpinned,b1,b2,w9⟩
   refine wpAny_mono (hg s3 H3 fp _ s8 σ6 H7 x7 u _ I7' r7 (step x7 H7 y7)) (fun _ s9 ⟨σ9,H9,I9,q9⟩=>?_) fun _ _ z=>z.elim
   refine wpAny_mono (hf s3 H3 fp _ s9 σ9 H9 _ I9 q9) (fun okb s10 ⟨H10,I10,q10⟩=>?_) fun _ _ z=>z.elim
   cases okb with
   |false=>
    rw[if_neg Bool.false_ne_true] at q10 ⊢
    exact again I10 q10
   |true=>
    rw[if_pos rfl] at q10 ⊢
    refine wpAny_mono (he s3 H3 fp _ s10 σ9 H10 _ I10 q10) (fun y s11 ⟨yv,H11,I11,ry,ys,e11,l11,n11⟩=>?_) fun _ _ z=>z.elim
    refine wpAny_mono (Ec (X:=Af X scope cl T M s3 H3 fp) _ s11 σ9 H11 (.ref s2.heap.objs.size) [yv] (.ref s2.heap.objs.size) [y] (fun _ H12=>N σ9 H12) I11 rfl (.cons ry .nil) ⟨_,ys,yv,rfl,rfl,e11,l11,n11⟩) (fun _ s12 ⟨_,H12,I12,_,n12⟩=>?_) fun _ _ z=>z.elim
    exact again I12 n12
 exact codeAny_compStart_list (loop _ rfl) (Tn.self _ 0 _ _ _ st4 (loop _ rfl))


theorem compOz{X:Cx}{scope:Scope}{T M:List Str}(h1:(scope.names.all fun y=>!(y.2 == .free)||(X.env.cells.lookup y.1).isSome)=true:=by rfl)(h3:scope.kind=.function:=by rfl)(h4:(scope.names.all fun y=>scope.names.lookup y.1 == some y.2)=true:=by rfl)(h6:M.length=X.N.length:=by rfl)(h5:((M.zip X.N).all fun z=>match scope.names.lookup z.1 with|some .local=>false|some .cell=>false|some .free=>z.1 == z.2&&(X.env.kindOf z.1 == some .cell||X.env.kindOf z.1 == some .free)|_=>true)=true:=by rfl) :
  CompOz X scope (Bh X.env.cells scope.names []) T M:=by
 have hl:∀y∈scope.names,scope.names.lookup y.1=some y.2:=fun y hy=>by simpa using List.all_eq_true.mp h4 y hy
 have only:∀(names:List (Str×NameKind)) (cs:List (Str×Addr)) (x:Str) (c:Addr),(Bh X.env.cells names cs).lookup x=some c→(x,NameKind.free)∈names∨cs.lookup x=some c:=by
  intro names
  induction names with
  |nil=>intro cs x c h;exact .inr h
  |cons y r ih=>
   intro cs x c h
   obtain⟨n,k⟩:=y
   unfold Bh at h
   split at h
   ·rename_i hk
    split at h
    ·rename_i c' hc
     rcases ih _ x c h with z|z
     ·exact .inl (List.mem_cons_of_mem _ z)
     ·by_cases hx:x=n
      ·subst hx
       have:k=.free:=by simpa using hk
       subst this
       exact .inl (by simp)
      ·rw[List.lookup_cons,beq_false_of_ne hx] at z
       exact .inr z
    ·rcases ih _ x c h with z|z
     ·exact .inl (List.mem_cons_of_mem _ z)
     ·exact .inr z
   ·rcases ih _ x c h with z|z
    ·exact .inl (List.mem_cons_of_mem _ z)
    ·exact .inr z
 refine⟨?_,h3,fun y hy z=>by rw[hl y hy,z],fun y hy z=>by rw[hl y hy,z],fun x c e=>⟨Da _ _ (fun _ _ z=>by simp at z) x c e,?_⟩,fun x hx=>Ee _ _ x h1 (.inl (PySem.mem_of_lookup hx)),h6,fun i x hx k q=>?_⟩
 ·unfold closureFor
  have:=Ri (env:=X.env) scope.names [] h1
  simp only[bind_pure]
  exact this
 ·rcases only _ _ x c e with z|z
  ·exact hl _ z
  ·simp at z
 ·have hi:i<X.N.length:=by rw[←h6];exact(List.getElem?_eq_some_iff.mp hx).1
  have hz:(M.zip X.N)[i]? = some (x,X.N[i]):=by rw[List.getElem?_zip_eq_some];exact⟨hx,List.getElem?_eq_getElem hi⟩
  have this:=List.all_eq_true.mp h5 _ (List.mem_of_getElem? hz)
  dsimp only at this
  rw[q] at this
  refine⟨fun z=>?_,fun z=>?_,fun z=>?_⟩
  ·subst z;exact absurd this (by simp)
  ·subst z;exact absurd this (by simp)
  ·subst z
   simp only[Bool.and_eq_true,beq_iff_eq,Bool.or_eq_true] at this
   exact⟨by rw[List.getElem?_eq_getElem hi,←this.1],this.2⟩
theorem C3{K:W.Frag}{J:It}{n:Nat}{p:Addr}{ds:List D}{same:Gp→Prop}{g:DTG}{tf:DTT}{te:DTE}{Q:DK}{QV:VK}{σD:DSt}{σ:St}{G:Gp}{H:Hp}(rs:RelS K H σD σ)(rg:RelG K H G)(hp:H p=none)(cl:∀d G',Q d G'→Fwd K H G' fun H'=>∀v,DV K H' d v→QV v H')(hJ:∀H' G',Ext H H'→RelG K H' G'→same G'→ItemsX K J H' ds)(h:Ip n p ds same g tf te σD (Ab G p (.lst [])) Q) :
  ∃W:Nat→Nat→St→Hp→Prop,(∃m,W 0 m (List.replicate n none++σ) (upd H p (.lst [])))∧∀i m σ1 H,W i m σ1 H→
   ((J.stop i H∧QV (.ref p) H)∨(J.go i H∧∃N:St→Hp→Prop,(∀σ' H',N σ' H'→∃m',m'<m∧W (i+1) m' σ' H')∧
    ∀x H',J.yld i H x H'→E9 K g x σ1 H' fun σ2 H2=>Ei K tf σ2 H2 fun b H3=>if b=true then Bx K te σ2 H3 fun y H4=>∃ys,H4 p=some (.lst ys)∧ys.length<sizeLine∧N σ2 (upd H4 p (.lst (ys++[y]))) else N σ2 H3)):=by
 obtain⟨P,p0,keep,step,fin⟩:=h
 refine⟨fun i m σ' H'=>m=ds.length-i∧i≤ds.length∧RelS K H' (List.replicate n none++σD) σ'∧∃yd G',RelG K H' G'∧Ext H H'∧P i yd G',
  ⟨ds.length,rfl,Nat.zero_le _,(Qs n rs).ext (Ext.fresh hp),[],_,rg.lst hp .nil,Ext.fresh hp,p0⟩,?_⟩
 rintro i m σ1 H1 ⟨rfl,hi,rs1,yd,G1,rg1,x1,p1⟩
 obtain⟨sm,gp⟩:=keep i yd G1 hi p1
 have I:=hJ H1 G1 x1 rg1 sm
 by_cases hlt:i<ds.length
 ·refine .inr ⟨I.go i hlt,fun σ' H'=>RelS K H' (List.replicate n none++σD) σ'∧∃yd' G',RelG K H' G'∧Ext H H'∧P (i+1) yd' G',fun σ' H' ⟨a2,yd',G',a3,a4,a5⟩=>⟨ds.length-(i+1),by omega,rfl,hlt,a2,yd',G',a3,a4,a5⟩,fun x H' y=>?_⟩
  obtain⟨xe,rge,d,ed,dv⟩:=I.yl i x H' hlt y
  refine⟨d,_,G1,_,dv,rs1.ext xe,rge _ rg1,step i d yd G1 ed p1,fun σ2 G2 ⟨⟨pre,hpre,e2⟩,st2⟩ H2 x2 rg2 σ' rs2=>?_⟩
  have back:∀{H5:Hp} {σ5:St},RelS K H5 σ2 σ5→RelS K H5 (List.replicate n none++σD) σ5:=fun {H5 σ5} r=>by
   refine⟨by rw[←r.1,e2,List.length_append,List.length_append,List.length_replicate,hpre],fun j d e=>?_⟩
   refine r.2 j d ?_
   by_cases hj:j<n
   ·rw[List.getElem?_append_left (by simpa using hj),List.getElem?_replicate,if_pos hj] at e
    cases e
   ·rw[List.getElem?_append_right (by simpa using hj),List.length_replicate] at e
    rw[e2,List.getElem?_append_right (by omega),hpre];exact e
  refine⟨σ2,G2,_,rs2,rg2,st2,fun b G3 h3 H3 x3 rg3=>?_⟩
  have x13:=x1.trans (xe.trans (x2.trans x3))
  dsimp only at h3 ⊢
  cases b with
  |false=>
   rw[if_neg Bool.false_ne_true] at h3 ⊢
   obtain⟨G4,sb,p4⟩:=h3
   exact⟨back (rs2.ext x3),yd,G4,rg3.ext' sb,x13,p4⟩
  |true=>
   rw[if_pos rfl] at h3 ⊢
   refine⟨_,G3,_,rs2.ext x3,rg3,h3,fun z G4 ⟨e4,l4,G5,sb,p5⟩ H4 x4 rg4 v4 d4=>?_⟩
   obtain⟨xs,ex,r⟩:=rg4 p _ e4
   exact⟨xs,ex,by rw[←r.length];exact l4,back ((rs2.ext (x3.trans x4)).ext (C6 ex)),_,G5,(rg4.lstw ex (r.append (.cons d4 .nil))).ext' sb,(x13.trans x4).trans (C6 ex),p5⟩
 ·have e:i=ds.length:=by omega
  subst e
  exact .inl ⟨I.st,cl _ G1 (fin yd G1 p1) H1 x1 rg1 _ (.ref p)⟩
theorem Ed{K:W.Frag}{J:It}{G:Gp}{H:Hp}{ds:List D}(h:Items K J G H ds):ItemsX K J H ds:=⟨h.go,fun i x H' hi y=>by
 obtain⟨e,d,ed,dv⟩:=h.yl i x H' hi y
 subst e
 exact⟨Ext.refl _,fun _ r=>r,d,ed,dv⟩,h.st⟩
section
variable{X:Cx}{elt iter tg:Expr}{ifs:List Expr}{scope:Scope}{pos:Pos}{ti te:DTE}{tf:DTT}{g:DTG}{T M:List Str}
abbrev QGz(X:Cx)(scope:Scope)(T M:List Str)(tg:Expr)(g:DTG):Prop:=∀s H fp,QG (Af X scope (Bh X.env.cells scope.names []) T M s H fp) tg g
abbrev QFz(X:Cx)(scope:Scope)(T M:List Str)(ifs:List Expr)(t:DTT):Prop:=∀s H fp,QF (Af X scope (Bh X.env.cells scope.names []) T M s H fp) ifs t
abbrev QEz(X:Cx)(scope:Scope)(T M:List Str)(e:Expr)(t:DTE):Prop:=∀s H fp,QE (Af X scope (Bh X.env.cells scope.names []) T M s H fp) e t
def Hb(n:Nat)(ti:DTE)(g:DTG)(tf:DTT)(te:DTE):DTE:=fun σ G Q=>ti σ G fun d G1=>∃ds,Az G1 d=some ds∧∀p,G1 p=none→Ip n p ds (fun G'=>Az G' d=some ds) g tf te σ (Ab G1 p (.lst [])) Q
theorem q_compz(hc:X.calm=true)(ok:CompOz X scope (Bh X.env.cells scope.names []) T M)(hi:QE X iter ti)(hg:QGz X scope T M tg g)(hf:QFz X scope T M ifs tf)(he:QEz X scope T M elt te)(hs:∀x,foldedSetIterable iter X.env x=pure x:=by intro _;rfl):QE X (.ListComp elt [⟨tg,iter,ifs,0⟩] scope pos) (Hb T.length ti g tf te):=
 (Iu (g:=E9 X.K g) (tf:=Ei X.K tf) (te:=Bx X.K te) hc ok (Kb hi) hg hf he hs).imp fun σ H Q ⟨σD,G,Q',rs,rg,h,cl⟩=>by
 refine⟨σD,G,_,rs,rg,h,fun d G1 ⟨ds,ei,L⟩ H1 x1 rg1 v dv=>?_⟩
 obtain⟨a,rfl⟩:=Fo ei dv
 refine⟨a,rfl,?_⟩
 have lp:=fun p hp=>C3 (J:=jOf X.K d a) (rs.ext x1) rg1 hp (fun d' G' q=>(cl d' G' q).go x1) (fun H' G' x' rg' s'=>Ed (Dx rg' s' (dv.ext x'))) (L p (rg1.free hp))
 cases dv with
 |tup e r=>exact .inr ⟨⟨_,.inl (.inl e)⟩,lp⟩
 |lint e=>exact .inl ⟨⟨_,e.sq⟩,lp⟩
 |ref=>
  simp only[Az] at ei
  split at ei
  ·rename_i ds' q
   obtain⟨xs,e,r⟩:=rg1 a _ q
   exact .inl ⟨⟨_,.inl (.inl e)⟩,lp⟩
  ·cases ei
def Li(n:Nat)(tA:DTA)(g:DTG)(tf:DTT)(te:DTE):DTE:=fun σ G Q=>tA σ G fun ds G1=>∃j,ds=[.int j]∧(-(2 ^ 62)≤j∧j<2 ^ 62)∧∀p,G1 p=none→Ip n p (Jy j.toNat) (fun _=>True) g tf te σ (Ab G1 p (.lst [])) Q
theorem Ov{a:Expr}{tA:DTA}{p p2:Pos}(hc:X.calm=true)(ok:CompOz X scope (Bh X.env.cells scope.names []) T M)(hm:X.mg "range" = none)(ha:QA X [a] tA)(hg:QGz X scope T M tg g)(hf:QFz X scope T M ifs tf)(he:QEz X scope T M elt te)(hgl:Gl X "range":=by rfl)(hst:starEach [a] X.env=[(false,eval a X.env)]:=by rfl)(hs:∀x,foldedSetIterable (.Call (.Name "range" p) [a] [] p2) X.env x=pure x:=by intro _;rfl):QE X (.ListComp elt [⟨tg,.Call (.Name "range" p) [a] [] p2,ifs,0⟩] scope pos) (Li T.length tA g tf te):=
 (Iu (g:=E9 X.K g) (tf:=Ei X.K tf) (te:=Bx X.K te) hc ok (Gi hgl hm ha hst) hg hf he hs).imp fun σ H Q ⟨σD,G,Q',rs,rg,h,cl⟩=>by
 refine⟨σD,G,_,rs,rg,h,fun ds G1 ⟨j,ej,⟨j1,j2⟩,L⟩ H1 x1 rg1 vs dv=>?_⟩
 subst ej
 obtain⟨v,rfl,r⟩:=dv.one
 cases r
 refine⟨j,rfl,j1,j2,fun p hp=>C3 (J:=Itr 0 j.toNat) (rs.ext x1) rg1 hp (fun d' G' q=>(cl d' G' q).go x1) (fun H' G' x' rg' _=>Ed (G:=G') ?_) (L p (rg1.free hp))⟩
 refine⟨fun i hi=>by rw[Bb] at hi;exact hi,fun i x H2 hi y=>?_,by show j.toNat≤_;rw[Bb];exact Nat.le_refl _⟩
 rw[Bb] at hi
 obtain⟨e1,e2⟩:=y
 refine⟨e1,_,Fl hi,?_⟩
 rw[e2,Int.zero_add]
 exact .int _
end
section
variable{X:Cx}
theorem o_pow:QOp X (binaryOp .Pow) (fun x y G Q=>∃i j,x=.int i∧y=.int j∧Qa i j∧Q (.int (i ^ j.toNat)) G):=L2.OpR.imp Tk fun x y H Q ⟨dx,dy,G,Q',hx,hy,rg,⟨i,j,e1,e2,hc,q⟩,cl⟩=>by
 subst e1 e2;cases hx;cases hy
 exact⟨i,j,rfl,rfl,hc,cl _ G q H (Ext.refl H) rg _ (.int _)⟩
end
def Ka:Expr→Bool
 |.Starred ..=>false
 |_=>true
theorem L7{e:Expr}{es:List Expr}{env:Env}(h:Ka e=true):starEach (e::es) env=(false,eval e env)::starEach es env:=by
 cases e<;>first|rfl|exact absurd h (by simp[Ka])
theorem qa_consP{X:Cx}{e:Expr}{es:List Expr}{te:DTE}{tA:DTA}(ha:QE X e te)(hr:QA X es tA)(h:Ka e=true:=by rfl):QA X (e::es) (Ah te tA):=Et ha hr (L7 h)
def Ig(ta:DTE):DTE:=fun σ G Q=>ta σ G fun x G1=>∃i,x=.int i∧Q (.int (-i)) G1
theorem q_neg{X:Cx}{a:Expr}{ta:DTE}{pos:Pos}(ha:QE X a ta):QE X (.UnaryOp .USub a pos) (Ig ta):=(Ve Sd ha).imp fun σ H Q ⟨σD,G,Q',rs,rg,h,cl⟩=>by
 refine⟨σD,G,_,rs,rg,h,fun d G1 ⟨i,e,h1⟩ H1 x1 rg1 v dv=>?_⟩
 subst e;cases dv
 exact⟨i,rfl,cl _ G1 h1 H1 x1 rg1 _ (.int _)⟩
theorem ex3{p:D→D→D→Prop}{j k l:D}:(∃x y z,[j,k,l]=[x,y,z]∧p x y z)↔p j k l:=⟨fun⟨_,_,_,e,h⟩=>by cases e;exact h,fun h=>⟨j,k,l,rfl,h⟩⟩
def Ris(xs:Array Nat):Prop:=∀i j,i<j→j<xs.size→∀d,xs.getD i d<xs.getD j d
theorem ins_get{α:Type}{xs:Array α}{p:Nat}{x:α}(hp:p≤xs.size)(i:Nat):(SetTable.insertAt xs p x)[i]? = if i<p then xs[i]? else if i=p then some x else xs[i-1]?:=by
 unfold SetTable.insertAt
 have e1:((xs.extract 0 p).push x).size=p+1:=by simp;omega
 rw[Array.getElem?_append,e1]
 by_cases h1:i<p
 ·rw[if_pos (by omega),if_pos h1,Array.getElem?_push,if_neg (by simp;omega),Array.getElem?_extract,if_pos (by omega),Nat.zero_add]
 ·rw[if_neg h1]
  by_cases h2:i=p
  ·subst h2
   rw[if_pos (by omega),if_pos rfl,Array.getElem?_push,if_pos (by simp;omega)]
  ·rw[if_neg (by omega),if_neg h2,Array.getElem?_extract]
   by_cases h3:i-1<xs.size
   ·rw[if_pos (by omega)];congr 1;omega
   ·rw[if_neg (by omega),Array.getElem?_eq_none (by omega)]
structure TOk(w:World)(t:SetTable):Prop where
 ris:Ris t.place
 dum:t.dummies=#[]
 led:w.params.followText "set-order" = true∨t.led=true
def eI(e:Int×Value):Int:=match e.2 with|.int i _=>i|_=>0
structure SOk(P:Program)(w:World)(es:Array (Int×Value))(t:SetTable)(ks:List Int):Prop where
 tok:TOk w t
 fit:t.fits es.size=true
 el:∀e∈es.toList,∃i u,e=((intKind P w).hash i,Value.int i u)
 nd:(es.toList.map eI).Nodup
 mem:∀k,k∈es.toList.map eI↔k∈ks
 sz:es.size<scanBound
section
variable{P:Program}{w:World}{A:Around}{E:Value→Shared→Prop}{s:Shared}
end
section
variable{P:Program}{w:World}{A:Around}{R:Result→Shared→Prop}{E:Value→Shared→Prop}{s:Shared}
end
section
variable{P:Program}{w:World}{A:Around}{E:Value→Shared→Prop}{s:Shared}
end
structure SBase(w:World)(es:Array (Int×Value))(t:SetTable):Prop where
 tok:TOk w t
 fit:t.fits es.size=true
 sz:es.size<scanBound
theorem SOk.base{P:Program}{w:World}{es:Array (Int×Value)}{t:SetTable}{ks:List Int}(h:SOk P w es t ks):SBase w es t:=⟨h.tok,h.fit,h.sz⟩
section
variable{P:Program}{w:World}{A:Around}{E:Value→Shared→Prop}{s:Shared}
theorem Fb{α:Type}{c:Prop}[Decidable c]{a b:Sem α}{Q:α→Shared→Prop}{M:Model}(h:¬c)(k:wpAny M A b Q E s):wpAny M A (if c then a else b) Q E s:=by rw[if_neg h];exact k
end
section
variable{P:Program}{w:World}{A:Around}{E:Value→Shared→Prop}{s:Shared}
end
section
variable{P:Program}{w:World}{A:Around}{E:Value→Shared→Prop}{s:Shared}
end
section
variable{P:Program}{w:World}{A:Around}{E:Value→Shared→Prop}{s:Shared}
end
section
variable{P:Program}{w:World}{A:Around}{E:Value→Shared→Prop}{s:Shared}
end
section
variable{P:Program}{w:World}{A:Around}{E:Value→Shared→Prop}{s:Shared}
end
section
variable{X:Cx}{e:Expr}{te:DTE}{pos:Pos}
theorem vals_ints:∀{ns:List Int} {its:List Value},IntsAre its ns→Vals (ns.map V.int) its
 |_,_,.nil=>.nil
 |_,_,.cons n t h=>.cons ⟨t,rfl⟩ (vals_ints h)
end
section
variable{P:Program}{w:World}{A:Around}{R:Result→Shared→Prop}
end
section
variable{X:Cx}
end
section
variable{X:Cx}{a:Expr}{ta:DTE}{pos:Pos}
end
structure FnIs(K:PySem.W.Frag)(x:Str)(st:Stmt):Prop where
 ex:∃f fd,Fun K x x st f fd∧PySem.W.nsIn K mainGlobals x=some (some (.ref f))∧PySem.W.keepIn K (.ref f)=true
theorem Am{K:W.Frag}{x:Str}{st:Stmt}{f:Addr}{od an:Option Addr}{sl:Array (Option Value)}{oc kV dc pm cd ct:Value}(a:PySem.W.nsIn K mainGlobals x=some (some (.ref f)))(l:K.lookup f=some ⟨oc,od,.func (PySem.W.fnOf x x (C8 st) (Bl st) (defScope st) .none kV dc pm an cd ct),sl⟩)(c:PySem.W.codeIn K cd x=true)(k:PySem.W.keepIn K (.ref f)=true):FnIs K x st:=
 ⟨f,_,Oa l c k,a,k⟩
theorem Ax{P:Program}{w:World}{K:W.Frag}{h:Heap}{mg:Str→Option Value}{base:Heap}{x:Str}{st:Stmt}{k:Nat}{ps:List Str}{sp:DSp}(I:FnIs K x st)(X:K.In h)(G:h.Ns mainGlobals mg)(hb:∀f fd,Fun K x x st f fd→Binds K fd ps [])(ok:∀f fd,Fun K x x st f fd→FnOk P w K mg base CX0 k f fd ps (Ag K sp)):Def P w K mg base CX0 k x ps sp:=by
 obtain⟨f,fd,F,a,kp⟩:=I.ex
 exact⟨f,fd,ok f fd F,PySem.W.mg_of X G a,kp,hb f fd F⟩
section
variable{X:Cx}{o e:Expr}{to te:DTE}{pos pos':Pos}{f:Str}{C:Addr}
end
section
variable{X:Cx}{pins:List (Addr×Obj)}{σ:St}{H:Hp}{s:Shared}{A:Around}{E:Value→Shared→Prop}
theorem Mx{a:Addr}{kvs:List (Key×V)}{k:Key}{v:V}{u r:Value}{Q:Unit→Shared→Prop}(I:Inv X pins σ H s)(e:H a=some (.dK kvs))(l:kvs.length<sizeLine)(ry:RelV (kV k) u)(rv:RelV v r)(h:∀s',Inv X pins σ (upd H a (.dK (F2 kvs k v))) s'→Q () s'):wpAny (model X.prog X.w) A (dictSet a u r) Q E s:=by
 obtain⟨z,hd,vs,rel,dd⟩:=Ry I.hok e
 have hz:vs.length≤sizeLine:=by rw[←rel.length];exact z
 have hl:(F2 kvs k v).length≤sizeLine:=by have:=Jq kvs k v;omega
 unfold dictSet
 refine wpAny_holding (wpAny_bind ((Bc X.prog X.w).pyHash (Ru ry) ?_))
 refine wpAny_dictSetHashed_pairs (hsz:=hz) (Ru ry) dd fun h' dd' hs=>h _ ?_
 have he:∃q,h'.get? a=some q:=let ⟨q,_,_,hq,_⟩:=dd';⟨q,hq⟩
 exact Rg (I.tok _) (by rw[e];exact True.intro) hs he (Uc hl hd (rel.put k rv) dd')
end
section
variable{κ:Type}[DecidableEq κ]
abbrev Ent(κ:Type)(K:PySem.W.Frag)(H:Hp):κ×D→κ×V→Prop:=fun p q=>p.1=q.1∧DV K H p.2 q.2
variable{K:W.Frag}{H:Hp}
end
theorem RelG.dkN{K:W.Frag}{H:Hp}{G:Gp}(r:RelG K H G){p:Addr}(hp:H p=none):RelG K (upd H p (.dK [])) (Ab G p (.dkk [])):=by
 intro a o ea
 by_cases ha:a=p
 ·subst ha
  rw[Aa] at ea
  cases ea
  exact⟨[],Ad,.nil⟩
 ·rw[As ha] at ea
  exact(r a o ea).upd (Ext.fresh hp) (.inl hp)
theorem Ob{H:Hp}{p:Addr}{ks:List (Key×V)}{u:HO}(e:H p=some (.dK ks)):Ext H (upd H p u):=Ext.write e (fun xs z=>by cases z) (fun ob w z=>by cases z)
theorem RelG.dkW{K:W.Frag}{H:Hp}{G:Gp}(r:RelG K H G){p:Addr}{ks ks':List (Key×V)}{kvs':List (Key×D)}(e:H p=some (.dK ks))(pr:Paired (Ent Key K H) kvs' ks'):RelG K (upd H p (.dK ks')) (Ab G p (.dkk kvs')):=by
 have x:Ext H (upd H p (.dK ks')):=Ob e
 intro a o ea
 by_cases ha:a=p
 ·subst ha
  rw[Aa] at ea
  cases ea
  exact⟨ks',Ad,L2.Paired.mapP pr fun _ _ z=>⟨z.1,z.2.ext x⟩⟩
 ·rw[As ha] at ea
  exact(r a o ea).upd x (.inr ha)
def P9:D→Option Key
 |.int i=>some (.inl i)
 |.str x=>some (.inr x)
 |_=>none
theorem Q9{K:W.Frag}{H:Hp}{d:D}{v:V}{k:Key}(e:P9 d=some k)(dv:DV K H d v):v=kV k:=by
 cases d<;>simp only[P9,Option.some.injEq,reduceCtorEq] at e
 ·subst e;cases dv;rfl
 ·subst e;cases dv;rfl

section
variable{X:Cx}{kx vx iter tg:Expr}{ifs:List Expr}{scope:Scope}{pos:Pos}{ti tk tv:DTE}{tf:DTT}{g:DTG}{T M:List Str}
end
def Vx(P:Program)(w:World)(K:PySem.W.Frag)(a:Addr)(kvs:List (Key×V)):Prop:=(a == sysModules)=false∧∃o vs,K.lookup a=some o∧KV kvs vs∧o.IsDictOf (Bc P w) vs
def DRd(P:Program)(w:World)(h:Heap)(a:Addr)(kvs:List (Key×V)):Prop:=(a == sysModules)=false∧∃vs,KV kvs vs∧h.DictOf (Bc P w) a vs
def RdK(P:Program)(w:World)(K:PySem.W.Frag)(H:Hp)(a:Addr)(kvs:List (Key×V)):Prop:=H a=some (.dK kvs)∨Vx P w K a kvs
section
variable{X:Cx}{pins:List (Addr×Obj)}{σ:St}{H:Hp}{s:Shared}{a:Addr}{k:Key}{v:V}{kvs:List (Key×V)}{u:Value}{A:Around}{E:Value→Shared→Prop}
theorem RdK.rd(h:RdK X.prog X.w X.K H a kvs)(I:Inv X pins σ H s):DRd X.prog X.w s.heap a kvs:=by
 rcases h with h|⟨h1,o,vs,h2,h3,h4⟩
 ·obtain⟨_,hd,vs,rel,dd⟩:=Ry I.hok h
  exact⟨hd,vs,rel,dd⟩
 ·exact⟨h1,vs,h3,Heap.dictOf_iff.mpr ⟨o,I.kIn _ _ h2,h4⟩⟩
end
section
variable{X:Cx}
end
section
variable{X:Cx}{e i o:Expr}{te ti td:DTE}{pos pos':Pos}{a:Addr}{kvs:List (Key×D)}
end
abbrev topO:HO:=.ext fun _=>True
theorem K4{P:Program}{w:World}{H:Hp}{h:Heap}{a:Addr}{o:Obj}(e:h.get? a=some o):ObjOk P w H h a (.frz o topO):=⟨e,True.intro,⟨o,e⟩,fun _ _ _ _=>True.intro⟩
section
variable{X:Cx}{pins:List (Addr×Obj)}{σ:List (Option V)}{H:Hp}{s:Shared}{h':Heap}
theorem Inv.grown{T:Addr}{t':Nat}{ps more:Array Value}(I:Inv X pins σ H s)(e:H T=some (.tbl ps))(k:∀b u,b≠T→s.heap.get? b=some u→h'.get? b=some u)(hT:h'.get? T=some (PySem.W.tabObj (ps++more))) :
  Inv X pins σ (upd H T (.tbl (ps++more))) { s with heap:=h',toks:=t' }:=by
 have nT:∀b,H b=none→b≠T:=fun b n z=>by rw[z,e] at n;cases n
 refine I.un ⟨fun b o q n _ _=>k b o (nT b n) q,fun b o q n _ _=>⟨o.slots,k b o (nT b n) q⟩,fun b o q n _=>by rw[Ac (nT b n)];exact n,fun b o q _=>?_,fun b xs q=>?_,fun b o u q=>?_,fun b qs q=>?_⟩ fun b u q=>?_
 ·by_cases hb:b=T
  ·subst hb;exact⟨_,hT⟩
  ·exact⟨o,k b o hb q⟩
 ·rw[Ac (Ge q e (fun z=>by cases z))];exact q
 ·rw[Ac (Ge q e (fun z=>by cases z))];exact q
 ·by_cases hb:b=T
  ·subst hb
   rw[e] at q;cases q
   exact⟨more,Ad⟩
  ·exact⟨#[],by rw[Ac hb,q];simp⟩
 ·by_cases hb:b=T
  ·subst hb
   rw[Ad] at q;cases q
   exact hT
  ·rw[Ac hb] at q
   refine(I.hok b u q).stay (fun c v hc r=>k c v (fun z=>?_) r) (fun c r=>?_) fun c xs r=>?_
   ·subst z
    rcases hc with z|z
    ·exact hb z.symm
    ·rw[e] at z;cases z
   ·rw[Ac (Ge r e (fun z=>by cases z))];exact r
   ·rw[Ac (Ge r e (fun z=>by cases z))];exact r
theorem Inv.seen{a:Addr}{o:Obj}(I:Inv X pins σ H s)(ha:X.s₀.heap.objs.size≤a)(hL:a≠X.env.locals)(hc:∀x c,X.env.cells.lookup x=some c→c≠a)(hp:∀p∈X.pn++pins,p.1≠a)(hn:H a=none)(e:s.heap.get? a=some o) :
  Inv X pins σ (upd H a (.frz o topO)) s:=by
 have nb:∀b o',X.s₀.heap.get? b=some o'→b≠a:=fun b o' q=>Nat.ne_of_lt (Nat.lt_of_lt_of_le (Heap.lt_size q) ha)
 refine⟨I.ok,I.os,I.bare,⟨I.base.keep,I.base.slot,fun b o' q n hx=>by rw[Ac (nb b o' q)];exact I.base.free b o' q n hx,I.base.there,fun b xs q=>?_,fun b o' u q=>?_,fun b ps q=>?_⟩,I.loc,I.cell,by rw[Ac hL.symm];exact I.free,fun x c q=>by rw[Ac (hc x c q)];exact I.freeC x c q,fun p hq=>?_,fun b u q=>?_,I.len⟩
 ·have q:=I.base.tups b xs q
  rw[Ac (Ai q hn)];exact q
 ·have q:=I.base.frzs b o' u q
  rw[Ac (Ai q hn)];exact q
 ·obtain⟨m,q⟩:=I.base.tbls b ps q
  exact⟨m,by rw[Ac (Ai q hn)];exact q⟩
 ·obtain⟨p1,p2,p3⟩:=I.pin p hq
  exact⟨p1,by rw[Ac (hp p hq)];exact p2,p3⟩
 ·by_cases hb:b=a
  ·subst hb
   rw[Ad] at q;cases q
   exact K4 e
  ·rw[Ac hb] at q
   exact(I.hok b u q).stay (fun c v _ r=>r) (fun c r=>by rw[Ac (Ai r hn)];exact r) fun c xs r=>by rw[Ac (Ai r hn)];exact r
end
abbrev lamO(q:Str)(params:Arguments)(body:Expr)(scope:Scope)(clos:List (Str×Addr))(pm cv ctv:Value):Obj:={ cls:=.type "function",data:=.func (PySem.W.kla_fn "<lambda>" q params body scope clos pm cv ctv) }
def tLam(T:Addr)(q:Str)(params:Arguments)(body:Expr)(scope:Scope)(clos:List (Str×Addr))(pm:Value)(pos:Pos):TE:=fun σ H Q=>∃ps,H T=some (.tbl ps)∧TriplesOk ps.toList∧
 (∀cv ctv f,codeAmong pos ps.toList=some cv→H f=none→Q (.ref f) (upd H f (.frz (lamO q params body scope clos pm cv ctv) topO)))∧
 ∀c o ctv f,codeAmong pos ps.toList=none→H c=none→H f=none→c≠f→CodeIs o q→
  Q (.ref f) (upd (upd (upd H T (.tbl (ps ++ #[rawInt pos.line,rawInt pos.col,.ref c]))) c (.frz o topO)) f (.frz (lamO q params body scope clos pm (.ref c) ctv) topO))
theorem N1{X:Cx}{T c0:Addr}{params:Arguments}{body:Expr}{scope:Scope}{clos:List (Str×Addr)}{pos:Pos}(hdef:defaultsOf params X.env=([],[]))(hcl:closureFor scope X.env=pure clos)(hcode:X.env.code=.ref c0)(hC:PySem.W.codeHdIn X.K c0 T=true) :
  PE X (.Lambda params body scope pos) (tLam T (X.env.qual ++ "<lambda>") params body scope clos ((X.mg "__name__").getD .none) pos):=by
 intro pins s σ H Q I h
 obtain⟨ps,eT,ht,hit,mis⟩:=h
 have hP:s.heap.get? T=some (PySem.W.tabObj ps):=I.hok T _ eT
 have hC:=PySem.W.codeHd_of_K I.kIn hC
 have hg:s.heap.Ns mainGlobals X.mg:=I.mod.glob.keeps I.bk
 obtain⟨bm,ob,b1,b2,b3,b4,b5,b6⟩:=I.mod.bm
 have b3':=I.bk _ _ b3
 have hgT:mainGlobals≠T:=fun z=>by
  obtain⟨o,es,ep,e,hd,_⟩:=hg
  rw[z,hP] at e;cases e;cases hd
 have hbT:bm≠T:=fun z=>by rw[z,hP] at b3';cases b3';cases b4
 have hbG:bm≠mainGlobals:=fun z=>by
  obtain⟨o,es,ep,e,hd,_⟩:=hg
  rw[z,e] at b3';cases b3';rw[hd] at b6;cases b6
 have hB:s.heap.BuiltinsAt X.mg T:=⟨bm,ob,b1,b2,hbG,hbT,b3',b4,b5,b6⟩
 refine PySem.W.kla_eval hdef ?_
 cases hf:codeAmong pos ps.toList with
 |some cv=>
  refine PySem.W.kla_makeFunctionHit (mg:=X.mg) hcl I.ok.glob hg hcode hC hP ht hf hB fun ctv h' tk hk hsz=>?_
  have I1:Inv X pins σ H { s with heap:=h',toks:=tk }:=I.kept hk
  have I2:=I1.laid (t':=tk) (h':=h'.push (lamO (X.env.qual ++ "<lambda>") params body scope clos ((X.mg "__name__").getD .none) cv ctv)) (o:=.frz (lamO (X.env.qual ++ "<lambda>") params body scope clos ((X.mg "__name__").getD .none) cv ctv) topO)
   (fun b u e=>Heap.get?_push_of_some _ e) (Nat.le_refl _) (K4 (Heap.get?_push_size _ rfl))
  exact⟨.ref h'.objs.size,_,I2,rfl,hit cv ctv _ hf (I1.hok.fresh (Nat.le_refl _))⟩
 |none=>
  refine PySem.W.kla_makeFunction (mg:=X.mg) hcl I.ok.glob hg hcode hC hP ht hf hgT hB fun c' ctv h' tk hx hge hlt hrec htb=>?_
  obtain⟨c₂,oc,vs,t,e2,hoc,hd,hv⟩:=hrec
  cases e2
  have nc:H c'=none:=I.hok.fresh hge
  have neT:c'≠T:=fun z=>by rw[z,eT] at nc;cases nc
  have I1:=Inv.grown (t':=tk) I eT (fun b u hb e=>hx b u hb e) htb
  have fo:=I.fpOk (H':=H) hge nc
  have I2:=Inv.seen I1 (Nat.le_trans I.sz hge) fo.2.1 fo.2.2.2.2.1 (fun p hp=>fo.2.2.2.2.2 p hp) (by rw[Ac neT];exact nc) hoc
  have I3:=I2.laid (t':=tk) (h':=h'.push (lamO (X.env.qual ++ "<lambda>") params body scope clos ((X.mg "__name__").getD .none) (.ref c') ctv)) (o:=.frz (lamO (X.env.qual ++ "<lambda>") params body scope clos ((X.mg "__name__").getD .none) (.ref c') ctv) topO)
   (fun b u e=>Heap.get?_push_of_some _ e) (Nat.le_refl _) (K4 (Heap.get?_push_size _ rfl))
  have ff:H h'.objs.size=none:=by
   cases q:H h'.objs.size with
   |none=>rfl
   |some u=>exact absurd (Nat.lt_of_lt_of_le (I.hok.lt q) (Nat.le_trans hge (Nat.le_of_lt hlt))) (Nat.lt_irrefl _)
  exact⟨.ref h'.objs.size,_,I3,rfl,mis c' oc ctv _ hf nc ff (Nat.ne_of_lt hlt) ⟨vs,t,hd,hv⟩⟩
theorem Gv{p:Pos}{a b:Int}{c cv:Value}(l:List Value)(h:TriplesOk l)(e:codeAmong p (l++[rawInt a,rawInt b,c])=some cv):codeAmong p l=some cv∨cv=c:=by
 fun_induction TriplesOk l with
 |case1=>
  simp only[List.nil_append,rawInt,codeAmong] at e
  split at e
  ·cases e;exact .inr rfl
  ·cases e
 |case2 a' t b' u x rest ih=>
  simp only[List.cons_append,codeAmong] at e ⊢
  split at e
  ·rename_i hc;rw[if_pos hc];exact .inl e
  ·rename_i hc;rw[if_neg hc];exact ih h e
 |case3 l h1 h2=>exact h.elim
section
variable{X:Cx}
theorem Ext.tbl{H:Hp}{p:Addr}{ps:Array Value}{u:HO}(e:H p=some (.tbl ps)):Ext H (upd H p u):=Ext.write e (fun xs z=>by cases z) (fun ob w z=>by cases z)
end
def B4(H:Hp)(ts:List Addr):Hp:=fun b=>if b∈ts then some (.tbl #[]) else H b
theorem Fj{H:Hp}{ts:List Addr}{b:Addr}(h:b∈ts):B4 H ts b=some (.tbl #[]):=if_pos h
theorem B1{H:Hp}{ts:List Addr}{b:Addr}(h:b ∉ ts):B4 H ts b=H b:=if_neg h
structure Given(K:PySem.W.Frag)(ts:List Addr)(a:Addr)(ns:List Int)(H:Hp):Prop where
 tab:∀T∈ts,H T=some (.tbl #[])
 rest:∀b,b ∉ ts→H b=none∨∃o xs,H b=some (.frz o (.lst xs))
 arg:SqL K H a (ns.map V.int)
theorem Mp{P:Program}{w:World}{K:W.Frag}{mg:Str→Option Value}{CX:CXT}{k:Nat}{fa a:Addr}{fd:FuncData}{x:Str}{sp:Sp}{s₁:Shared}{vs:List Value}{ns:List Int}{ts:List Addr}(KX:K.In s₁.heap)(hT:∀T∈ts,isCodeTable s₁.heap T∧s₁.heap.get? T=some (PySem.W.tabObj #[])∧K.lookup T=none)(hM:Mod K mg s₁.heap)(hg:s₁.gens=#[])(ha:s₁.heap.get? a=some { cls:=.type "list",data:=.seq vs.toArray })(hi:IntsAre vs ns)(hl:ns.length≤sizeLine)(hr:Room k callerA)(F:∀base:Heap,K.In base→base.Ns mainGlobals mg→FnOk P w K mg base CX k fa fd [x] sp)(hbind:∀(s:Shared) (u:Value),BindsTo s fd ⟨[u],[]⟩ [(x,u)])(hsp:∀H:Hp,Given K ts a ns H→sp [.ref a] H (fun v _=>v=.bl true) fun _ _ _=>False)(hCX:∀H e s',CX [] H s₁ (fun _ _ _=>False) e s'→False) :
  codeAny (model P w) callerA (.call (.ref fa) ⟨[.ref a],[]⟩) (fun r s'=>r=.ok (.ret (.bool true))∧OldK s₁.heap s'.heap∧s'.os=s₁.os∧AllBare s'.gens) s₁:=by
 have hat:a ∉ ts:=fun z=>by
  have e:=(hT a z).2.1
  rw[ha] at e;cases e
 have main:∀H0:Hp,(∀b,b≠a→H0 b=none)→(H0 a=none∨∃o xs,H0 a=some (.frz o (.lst xs)))→(H0 a≠none→K.lookup a=none)→SqL K H0 a (ns.map V.int)→HOk P w H0 s₁.heap→
   codeAny (model P w) callerA (.call (.ref fa) ⟨[.ref a],[]⟩) (fun r s'=>r=.ok (.ret (.bool true))∧OldK s₁.heap s'.heap∧s'.os=s₁.os∧AllBare s'.gens) s₁:=by
  intro H0 off at0 hK0 hS hok0
  have eA:B4 H0 ts a=H0 a:=B1 hat
  have gv:Given K ts a ns (B4 H0 ts):=⟨fun T h=>Fj h,fun b hb=>by
   rw[B1 hb]
   by_cases z:b=a
   ·rw[z];exact at0
   ·exact .inl (off b z),hS.elim (fun h=>.inl (h.elim (fun h=>.inl (by rw[eA];exact h)) fun⟨o,h⟩=>.inr ⟨o,by rw[eA];exact h⟩)) .inr⟩
  have hok:HOk P w (B4 H0 ts) s₁.heap:=fun b u q=>by
   by_cases hb:b∈ts
   ·rw[Fj hb] at q;cases q
    exact(hT b hb).2.1
   ·rw[B1 hb] at q
    have z:b=a:=Classical.byContradiction fun z=>by rw[off b z] at q;cases q
    subst z
    refine(hok0 b u q).stay (fun _ _ _ r=>r) (fun c r=>?_) fun c xs r=>?_
    ·have hc:c=b:=Classical.byContradiction fun z=>by rw[off c z] at r;cases r
     subst hc;rw[eA];exact r
    ·have hc:c=b:=Classical.byContradiction fun z=>by rw[off c z] at r;cases r
     subst hc;rw[eA];exact r
  have un:∀b o,s₁.heap.get? b=some o→(o.cls≠.none)→(o.cls≠.type "list")→B4 H0 ts b=none:=fun b o e n1 n2=>by
   by_cases hb:b∈ts
   ·rw[(hT b hb).2.1] at e;cases e;exact absurd rfl n1
   ·rw[B1 hb]
    refine off b fun z=>?_
    rw[z,ha] at e;cases e;exact absurd rfl n2
  have unD:∀b o es ep,s₁.heap.get? b=some o→o.data=.dict es ep→B4 H0 ts b=none:=fun b o es ep e d=>by
   by_cases hb:b∈ts
   ·rw[(hT b hb).2.1] at e;cases e;cases d
   ·rw[B1 hb]
    refine off b fun z=>?_
    rw[z,ha] at e;cases e;cases d
  have bo:∀{b:Addr} {o:Obj},s₁.heap.get? b=some o→B4 H0 ts b=none→(Gy s₁.heap (B4 H0 ts)).get? b=some o:=fun e n=>Pm e n
  have nsB:∀{b:Addr} {m:Str→Option Value},s₁.heap.Ns b m→(Gy s₁.heap (B4 H0 ts)).Ns b m:=fun {b m} ⟨o,es,ep,e,d,r⟩=>⟨o,es,ep,bo e (unD b o es ep e d),d,r⟩
  have kB:K.In (Gy s₁.heap (B4 H0 ts)):=fun b o e=>bo (KX b o e) (by
   by_cases hb:b∈ts
   ·rw[(hT b hb).2.2] at e;cases e
   ·rw[B1 hb]
    by_cases z:b=a
    ·subst z
     cases q:H0 b with
     |none=>rfl
     |some u=>rw[hK0 (by rw[q];simp)] at e;cases e
    ·exact off b z)
  have mB:Mod K mg (Gy s₁.heap (B4 H0 ts)):=⟨kB,nsB hM.glob,let ⟨mm,h1⟩:=hM.sm;⟨mm,nsB h1⟩,
   let ⟨bm,ob,b1,b2,b3,b4,b5⟩:=hM.bm;⟨bm,ob,b1,b2,bo b3 (un bm ob b3 (by rw[b4];exact fun z=>by cases z) (by rw[b4];exact fun z=>absurd (Value.type.inj z) (by decide))),b4,b5⟩,
   let ⟨mb,h1,h2⟩:=hM.blt;⟨mb,nsB h1,h2⟩,let ⟨mc,h1,h2⟩:=hM.nolimit;⟨mc,nsB h1,h2⟩⟩
  have e0:Env0 P w K mg (Gy s₁.heap (B4 H0 ts)) callerA [] s₁ (B4 H0 ts):=⟨rfl,mB,fun b o e=>Q2 e,Nat.le_of_eq (Mv _ _),trivial,fun b hb=>absurd (show b∈([]:List Addr) from hb) (by simp),hok,.of_eq hg⟩
  refine codeAny_mono ((F _ kB mB.glob).run callerA [] s₁ (B4 H0 ts) ⟨[.ref a],[]⟩ [.ref a] [.ref a] _ _ hr e0 (hbind s₁ (.ref a)) (.cons rfl .nil) (hsp _ gv)) fun r s' h=>?_
  cases r with
  |error e=>exact(hCX _ e s' h).elim
  |ok fl=>
   cases fl with
   |next=>exact False.elim h
   |brk=>exact False.elim h
   |cont=>exact False.elim h
   |ret u=>
    obtain⟨v,H',os,bare,ud,hok',r',q⟩:=h
    have q:v=.bl true:=q
    subst q
    obtain rfl:u=Value.bool true:=r'
    have keep:∀b o,b ∉ ts→s₁.heap.get? b=some o→s'.heap.get? b=some o:=fun b o hb e=>by
     rcases gv.rest b hb with z|⟨ob,xs,z⟩
     ·exact ud.keep b o e z (by intro z;exact absurd (show b∈([]:List Addr) from z) (by simp)) (by simp)
     ·obtain⟨e1,_⟩:=hok b _ z
      obtain⟨e2,_⟩:=hok' b _ (ud.frzs b ob _ z)
      rw[e] at e1;cases e1
      exact e2
    have grown:∀T∈ts,∃more,s'.heap.get? T=some (PySem.W.tabObj (#[]++more)):=fun T hb=>by
     obtain⟨more,z⟩:=ud.tbls T _ (Fj hb)
     exact⟨more,hok' T _ z⟩
    refine⟨rfl,⟨fun b o e=>?_,fun b o e=>?_⟩,os,bare⟩
    ·by_cases hb:b∈ts
     ·obtain⟨t1,t2,_⟩:=hT b hb
      rw[t2] at e;cases e
      obtain⟨more,z⟩:=grown b hb
      exact .inr (.inl ⟨t1,rfl,#[],more,rfl,z⟩)
     ·exact .inl (keep b o hb e)
    ·by_cases hb:b∈ts
     ·obtain⟨more,z⟩:=grown b hb
      exact⟨_,z⟩
     ·exact⟨o,keep b o hb e⟩
 have rv:=L2.vals_ints hi
 have lenV:=hi.length
 cases hk:K.lookup a with
 |some o=>
  have e:=KX a o hk
  rw[ha] at e;cases e
  exact main (fun _=>none) (fun _ _=>rfl) (.inl rfl) (fun z=>absurd rfl z) (.inr ⟨_,vs.toArray,_,hk,rfl,rfl,rfl,by rw[List.size_toArray,lenV];exact hl,by simpa using rv⟩) fun b u z=>by cases(show(none:Option HO)=some u from z)
 |none=>
  refine main (upd (fun _=>none) a (.frz { cls:=.type "list",data:=.seq vs.toArray } (.lst (ns.map V.int)))) (fun b z=>Ac z) (.inr ⟨_,_,Ad⟩) (fun _=>hk) (.inl (.inr ⟨_,Ad⟩)) fun b u z=>?_
  by_cases hb:b=a
  ·subst hb
   rw[Ad] at z;cases z
   exact⟨ha,by rw[List.length_map];exact hl,vs,_,rv,ha⟩
  ·rw[Ac hb] at z;cases z
theorem Om{l:PySem.W.OpenLaw}{n k:Nat}{q:Program}{loose:List Str}{XP:(Str→Option Value)→Heap→Prop}{YP:World→Heap→Prop}{d:DefRec}{K:Params→PySem.W.Frag}{CX:CXT}{sp:PySem.W.Frag→Sp}{x:Str}{ts:List Addr}(hi:importsNone q=true)(hn:l.most=some n)(hn2:n≤sizeLine)(hdf:d.params.defaults=[])(hr:Room k callerA)(hY:∀(w:World) (h:Heap),YP w h→(K w.params).In h∧∀T∈ts,h.get? T=some (PySem.W.tabObj #[]))(hC:∀(w:World) (h:Heap),(K w.params).In h→∀T∈ts,(∃c,PySem.W.codeHdIn (K w.params) c T=true)∧(K w.params).lookup T=none)(F:∀(w:World) (mg:Str→Option Value) (fa:Addr) (h:Heap),(K w.params).In h→h.Ns mainGlobals mg→mg d.name=some (.ref fa)→
   ∃fd:FuncData,(∀(s:Shared) (u:Value),BindsTo s fd ⟨[u],[]⟩ [(x,u)])∧∀base:Heap,(K w.params).In base→base.Ns mainGlobals mg→FnOk l.prog w (K w.params) mg base CX k fa fd [x] (sp (K w.params)))(hsp:∀(K:PySem.W.Frag) (H:Hp) (a:Addr) (ns:List Int),ns.length≤n→Given K ts a ns H→sp K [.ref a] H (fun v _=>v=.bl true) fun _ _ _=>False)(hCX:∀(H:Hp) (s:Shared) (e:Value) (s':Shared),CX [] H s (fun _ _ _=>False) e s'→False):PySem.W.WalkO q loose XP YP l.row.toRowW d [] (fun f vs=>PySem.call f vs):=by
 refine Att.attach_call hn hdf fun w s₀ s₁ mg mb fa o pm cd doc a vs ns G Y ho hd hcd hmg hobj hints hlen hg=>?_
 obtain⟨KX,tb⟩:=hY w _ Y
 obtain⟨fd,hb,hF⟩:=F w mg fa _ KX G.T.g hmg
 refine Mp (ts:=ts) KX (fun T h=>?_) ⟨KX,G.T.g,let ⟨mm,h1,_⟩:=(G.T.seer hi).mods;⟨mm,h1⟩,G.T.bmain,⟨mb,G.T.b,G.T.builtins⟩,G.T.nolimit⟩ hg hobj hints (Nat.le_trans hlen hn2) hr hF hb (fun H g=>hsp _ H a ns hlen g) fun H e s'=>hCX H s₁ e s'
 obtain⟨⟨c,h1⟩,h2⟩:=hC w _ KX T h
 exact⟨((PySem.W.codeHd_of_K KX h1).tab (tb T h)).isCodeTable,tb T h,h2⟩
def Ha(ts:List (Addr×Str)):DSp:=fun ds G Q _=>∃ns:List Int,ds=[.lint ns]∧ns.length≤63∧(∀p∈ts,G p.1=some (.tbl p.2))∧∀G',Q (.bl true) G'
theorem Q6(ts:List (Addr×Str))(nd:(ts.map (·.1)).Nodup)(K:PySem.W.Frag)(H:Hp)(a:Addr)(ns:List Int)(hl:ns.length≤63)(g:Given K (ts.map (·.1)) a ns H):Ag K (Ha ts) [.ref a] H (fun v _=>v=.bl true) fun _ _ _=>False:=by
 have rd:RdI K H a (ns.map V.int):=by
  rcases g.arg with (h|h)|h
  ·by_cases ht:a∈ts.map (·.1)
   ·rw[g.tab a ht] at h;cases h
   ·rcases g.rest a ht with z|⟨o,xs,z⟩
    ·rw[h] at z;cases z
    ·rw[h] at z;cases z
  ·exact .inl h
  ·exact .inr h
 have look:∀(l:List (Addr×Str)) p,(l.map (·.1)).Nodup→p∈l→l.lookup p.1=some p.2:=fun l=>by
  induction l with
  |nil=>intro p _ h;cases h
  |cons y r ih=>
   intro p nd h
   rw[List.map_cons,List.nodup_cons] at nd
   rw[List.lookup_cons]
   rcases List.mem_cons.mp h with rfl|h
   ·rw[beq_self_eq_true]
   ·have ne:(p.1 == y.1)=false:=beq_eq_false_iff_ne.mpr fun z=>nd.1 (z ▸ List.mem_map_of_mem h)
    rw[ne];exact ih p nd.2 h
 have back:∀(l:List (Addr×Str)) b q,l.lookup b=some q→b∈l.map (·.1):=fun l=>by
  induction l with
  |nil=>intro b q h;cases h
  |cons y r ih=>
   intro b q h
   rw[List.lookup_cons] at h
   cases e:b == y.1 with
   |true=>rw[beq_iff_eq.mp e];simp
   |false=>rw[e] at h;exact List.mem_cons_of_mem _ (ih b q h)
 refine⟨[.lint ns],fun b=>(ts.lookup b).map GO.tbl,fun d _=>d=.bl true,fun _ _=>False,.cons (.lint rd) .nil,(fun b o e=>?_),⟨ns,rfl,hl,fun p hp=>by show(ts.lookup p.1).map GO.tbl=_;rw[look ts p nd hp];rfl,fun _=>rfl⟩,fun d G' e H' _ _ v dv=>?_,fun c G' (e:False)=>e.elim⟩
 ·obtain⟨q,eq,e⟩:=Option.map_eq_some_iff.mp e
  subst e
  exact⟨#[],g.tab b (back ts b q eq),True.intro,fun p cv z=>by cases z⟩
 ·have e:d=.bl true:=e
  subst e
  cases dv;rfl
section
variable{P:Program}{w:World}{A:Around}{E:Value→Shared→Prop}{s:Shared}
end
end D3
namespace D3
open PySem PySem.Spec
open PyProof.Rows hiding St
open L2 hiding St
open PySem.W (KdlSrc kdl_extend kdl_values)
section
variable{P:Program}{w:World}{A:Around}{E:Value→Shared→Prop}{s:Shared}
end
section
variable{X:Cx}{o e:Expr}{to:TE}{apos cpos pos p:Pos}
end
end D3
namespace D3
open PySem PySem.Spec
open PyProof.Rows hiding St
open L2 hiding St
section
variable{X:Cx}{o:Expr}{to:DTE}{apos cpos pos p:Pos}
end
section
variable{X:Cx}{pins:List (Addr×Obj)}{σ:List (Option V)}{H:Hp}{s:Shared}
end
section
variable{X:Cx}{elt o tg:Expr}{ifs:List Expr}{scope:Scope}{pos apos cpos:Pos}{to:DTE}{T M:List Str}
end
section
variable{X:Cx}
end
section
variable{P:Program}{w:World}{A:Around}{E:Value→Shared→Prop}{s:Shared}
end
section
variable{X:Cx}
end
section
variable{X:Cx}{a b:Expr}{ta:TA}{tA:DTA}{p p0 pos pos0:Pos}
end
section
variable{X:Cx}{e b:Expr}{te tb:DTE}{p2 pos:Pos}
end
theorem q_globr{X:Cx}{x:Str}{a:Addr}{pos:Pos}(hm:X.mg x=some (.ref a))(hg:Gl X x:=by rfl)(hd:(x == ("__debug__" : Str))=false:=by decide):QE X (.Name x pos) (nC (.ref a)):=
 E4 (v:=.ref a) (Lh hg hm rfl hd) fun _=>.ref a
theorem Sw{X:Cx}{ss:List Stmt}:QSs X ss Tx:=fun _ _ _ _ _ _ ⟨_,_,_,_,_,z,_⟩=>z.elim
section
variable{P:Program}{w:World}{K:W.Frag}{mg:Str→Option Value}{base:Heap}
theorem okDc{x qual:Str}{st:Stmt}{f c0:Addr}{fd:FuncData}{N ps:List Str}{k:Nat}{sp:DSp}(F:Fun K x qual st f fd)(hc:fd.code=.ref c0)(S:FnScope N ps (defScope st))(len:∀ds G Q E,sp ds G Q E→ds.length=ps.length)(hbody:∀(A:Around) (outer:List Env) (s:Shared) (H:Hp) (XE:XK) (ds:List D) (G:Gp) (Q:DK) (E:DX),Room k (A.deeper (envOfC qual (defScope st) s.heap.objs.size f (.ref c0)))→sp ds G Q E→
   ∃t,QSs (Bz CX0 P w K mg base N qual (defScope st) f (.ref c0) A outer s H XE).nox (Bl st) t∧t { nx:=fun _ G'=>Fq Q .non G',rt:=Fq Q } (Ak N ds) G):FnOk P w K mg base CX0 (k+1) f fd ps (Ag K sp):=by
 obtain⟨oc,od,kV,doc,pm,an,cdv,ct,osl,rfl,lk,hcd⟩:=F.ex
 have hc:cdv=.ref c0:=hc
 subst hc
 refine Np lk hcd S (fun vs H Q E ⟨ds,G,Q',E',dv,rg,h,_⟩=>by rw[←dv.length];exact len ds G Q' E' h) fun A outer s H vs Q E hr ⟨ds,G,Q',E',dv,rg,h,cl,_⟩=>?_
 obtain⟨t,ht,hq⟩:=hbody A outer s H E ds G Q' E' hr h
 refine⟨_,ht.nox,Ak N ds,G,_,Ea dv,rg,hq,⟨fun σD G1 ⟨G2,sb,q⟩ H1 x1 rg1 σ rs=>cl _ G2 q H1 x1 (rg1.ext' sb) _ .non,fun d G1 ⟨G2,sb,q⟩ H1 x1 rg1 v dv=>cl _ G2 q H1 x1 (rg1.ext' sb) _ dv,fun _ _ z=>z.elim,fun _ _ z=>z.elim⟩⟩
end
section
variable{X:Cx}{elt iter tg kx vx:Expr}{ifs:List Expr}{scope:Scope}{pos:Pos}{ti te tk tv:DTE}{tf:DTT}{g:DTG}{T M:List Str}
end
section
variable{X:Cx}{e:Expr}{te:DTE}{pos:Pos}
end
section
variable{X:Cx}{e:Expr}{ta:DTE}
end
section
variable{X:Cx}{a b:Expr}{ta:TA}{tA:DTA}{p p0 pos pos0:Pos}
end
section
variable{P:Program}{w:World}{A:Around}{R:Result→Shared→Prop}{it S:Addr}{fp wr:List Addr}{n:Nat}{V:Nat→Value→Prop}{st:Nat→Heap→Prop}{bt:Nat→Nat→Bool}{kw:List (Str×Value)}
end
section
variable{P:Program}{w:World}{A:Around}{E:Value→Shared→Prop}{s:Shared}
end
section
variable{X:Cx}{e:Expr}{p pos:Pos}
end
section
variable{X:Cx}{elt iter tg:Expr}{ifs:List Expr}{scope:Scope}{pos:Pos}{ti te:DTE}{tf:DTT}{g:DTG}{T M:List Str}
end
section
variable{X:Cx}{elt iter tg kx vx:Expr}{ifs:List Expr}{scope:Scope}{pos:Pos}{ti te tk tv:DTE}{tf:DTT}{g:DTG}{T M:List Str}
end
section
variable{X:Cx}
def Vt:DR2:=fun x y G Q=>∃a k,x=.ref a∧y=.int k∧∃xs,G a=some (.lst xs)∧0≤k∧xs.length*k.toNat≤sizeLine∧k<2 ^ 60∧∀p,G p=none→Q (.ref p) (Ab G p (.lst (List.replicate k.toNat xs).flatten))
theorem DVs.rep{K:W.Frag}{H:Hp}{ds:List D}{vs:List V}(h:DVs K H ds vs):∀n:Nat,DVs K H (List.replicate n ds).flatten (List.replicate n vs).flatten
 |0=>.nil
 |n+1=>by rw[List.replicate_succ,List.replicate_succ,List.flatten_cons,List.flatten_cons];exact h.append (h.rep n)
theorem o_repL:QOp X (binaryOp .Mult) Vt:=by
 intro pins s σ H x y v u Q I rx ry ⟨dx,dy,G,Q',hx,hy,rg,⟨a,k,ex,ey,xs,ga,k0,hz,k1,h⟩,cl⟩
 subst ex ey
 cases hx;cases hy
 obtain⟨vs,ea,ra⟩:=rg a _ ga
 exact Tj pins s σ H _ _ v u Q I rx ry ⟨a,k,vs,rfl,rfl,ea,by omega,by omega,by rw[←ra.length];exact hz,fun p hp=>cl _ _ (h p (rg.free hp)) _ (Ext.fresh hp) (rg.lst hp (ra.rep _)) _ (.ref p)⟩
end
section
theorem Eg:fillsNumberSlot (.type "tuple") "mul" = pure false:=
 PySem.fillsNumberSlot_seq (id:="tuple.__mul__") (r:=some (.builtin "tuple.__rmul__")) PySem.F.slot_tuple_mul.lookup (by decide +kernel) PySem.F.slot_tuple_rmul.lookup (by decide +kernel)
theorem Hw:seqRepeat? (.type "tuple")=pure (some (.builtin "tuple.__mul__")):=by
 unfold seqRepeat?
 rw[PySem.seqSlot_of (T:="tuple") (name:="__mul__") (id:="tuple.__mul__") PySem.F.slot_tuple_mul.lookup (by decide +kernel),PySem.seqSlot_of (T:="tuple") (name:="__rmul__") (id:="tuple.__rmul__") PySem.F.slot_tuple_rmul.lookup (by decide +kernel)]
 rfl
theorem F0(a:Int)(t:Tok)(l:Addr)(items:Array Value)(n:Nat)(dd:Option Addr)(sl:Array (Option Value)) :
  Meets (Builtin.«int.__rmul__» ⟨[.int a t,.ref l],[]⟩) (fun _ R s=>s.heap.get? l=some { cls:=.type "tuple",dict:=dd,data:=.seq items n,slots:=sl }∧R (.ok (.ret Value.notImplemented)) s):=
 .of_wp fun prog w A R s h=>by obtain⟨hp,g,d,tk,os⟩:=s;obtain⟨hl,h⟩:=h;wp_walk;exact⟨_,rfl,h⟩
theorem Kk(l:Addr)(items:Array Value)(n:Nat)(dd:Option Addr)(sl:Array (Option Value))(x:Int)(u:Tok)(h2:2≤x)(h3:x<2 ^ 60)(he:items.isEmpty=false)(hz:items.size*x.toNat≤sizeLine) :
  Meets (Builtin.«tuple.__mul__» ⟨[.ref l,.int x u],[]⟩) (fun _ R s=>s.heap.get? l=some { cls:=.type "tuple",dict:=dd,data:=.seq items n,slots:=sl }∧R (.ok (.ret (Value.ref s.heap.objs.size))) { s with heap:=s.heap.push { cls:=Value.type "tuple",data:=Data.seq ((List.replicate x.toNat items).foldl (fun a b=>a++b) #[]) } }):=
 .of_wp fun prog w A R s h=>by
  obtain⟨hp,g,d,tk,os⟩:=s;obtain⟨hl,h⟩:=h
  wp_walk
  refine Fb (by simp;omega) ?_
  wp_walk
  have ex:(items.size:Int)*x=((items.size*x.toNat:Nat):Int):=by
   rw[Int.natCast_mul,Int.toNat_of_nonneg (by omega)]
  have hs:=sizeLine_eq
  refine Fb (by rw[he];simp;omega) ?_
  dsimp only
  refine Fb (by rw[he];simp;omega) ?_
  refine Fb (by rw[ex];omega) ?_
  refine Fb (by rw[ex];unfold Builtin.Tuple.tupleTooMany;rw[decide_eq_true_eq];omega) ?_
  have fit:(List.foldl (fun x1 x2=>x1++x2) #[] (List.replicate x.toNat items)).size≤sizeLine:=by
   have e:=C9 items.toList x.toNat []
   rw[List.nil_append] at e
   have e:List.foldl (fun x1 x2=>x1++x2) #[] (List.replicate x.toNat items)=(List.replicate x.toNat items.toList).flatten.toArray:=by simpa using e
   rw[e,List.size_toArray,Hm,Array.length_toList,Nat.mul_comm];exact hz
  exact wpAny_bind (m:=Builtin.Tuple.tupleExact _) (wpAny_newObj_type (wpAny_pure ⟨_,rfl,h⟩) fit)
end
section
variable{X:Cx}
def Rz:DR2:=fun x y G Q=>∃xs k,x=.tup xs∧y=.int k∧xs≠[]∧2≤k∧k<2 ^ 60∧xs.length*k.toNat≤sizeLine∧Q (.tup (List.replicate k.toNat xs).flatten) G
theorem Dh:QOp X (binaryOp .Mult) Rz:=by
 intro pins s σ H x y v u Q I rx ry ⟨dx,dy,G,Q',hx,hy,rg,⟨xs,k,ex,ey,hne,k2,k60,hz,q⟩,cl⟩
 subst ex ey
 cases hy
 cases hx with
 |@tup _ a vs ea ra=>
  cases rx
  obtain⟨t,rfl⟩:=ry
  obtain⟨its,r1,p1,_⟩:=I.tuple (.inl (.inl ea))
  obtain⟨⟨cls,dd,data,sl⟩,ho,hcl,n,hd⟩:=id p1
  simp only at hcl hd
  subst hcl hd
  have l1:=r1.length
  have l2:=ra.length
  have hsz:its.toArray.size*k.toNat≤sizeLine:=by rw[List.size_toArray,←l1,←l2];exact hz
  have he:its.toArray.isEmpty=false:=by
   cases its with
   |nil=>exact absurd (List.eq_nil_of_length_eq_zero (by rw[l2,l1];rfl)) hne
   |cons _ _=>rfl
  have hnew:List.foldl (fun a b=>a++b) #[] (List.replicate k.toNat its.toArray)=(List.replicate k.toNat its).flatten.toArray:=by
   have:=C9 its k.toNat []
   rw[List.nil_append] at this
   exact this
  refine wpAny_binaryOp_repeat_ref (T:="tuple") (U:="int") (by decide) ⟨_,ho,rfl⟩ (fun s'=>typeIs_int s' k t) Eg PySem.F.fills_int_mul PySem.F.slot_int_rmul Hw PySem.F.slot_int_index.lookup
   (call_meets PySem.F.slot_int_rmul (typeIs_int s k t) PySem.F.entry_int_rmul (PySem.F.args_int_rmul_2 _ _) (F0 k t a its.toArray n dd sl)
    ⟨ho,rfl,⟨_,ho,rfl⟩,call_meets PySem.F.slot_tuple_mul ⟨_,ho,rfl⟩ PySem.F.entry_tuple_mul (PySem.F.args_tuple_mul_2 _ _) (Kk a its.toArray n dd sl k t k2 k60 he hsz) ⟨ho,?_⟩⟩)
  rw[hnew]
  have hp:=I.hok.fresh (Nat.le_refl s.heap.objs.size)
  refine⟨.ref s.heap.objs.size,_,I.laid (t':=s.toks) (o:=.tup (List.replicate k.toNat vs).flatten) (fun b o z=>Heap.get?_push_of_some _ z) (Nat.le_refl _) (show ObjOk X.prog X.w _ _ _ (.tup _) from⟨by rw[Hm,Nat.mul_comm,←l2];exact hz,_,r1.rep k.toNat,IsTup.new _ _⟩),rfl,?_⟩
  exact cl _ G q _ (Ext.fresh hp) (rg.tup hp) _ (.tup Ad ((ra.rep _).ext (Ext.fresh hp)))
end
end D3
namespace D3
open PySem PySem.Spec PyProof.Rows L2
section
variable{X:Cx}{pos:Pos}
theorem q_v1{i:Nat}{x:Str}(h:X.N[i]? = some x∧X.env.scope.names.lookup x=some .local∧(x == ("__debug__" : Str))=false∧(x == ("__classdict__" : Str))=false):QE X (.Name x pos) (Ap i):=Nh h.1 (.inl h.2.1) h.2.2.1 h.2.2.2
theorem q_v2{i:Nat}{x:Str}(h:X.N[i]? = some x∧X.env.scope.names.lookup x=some .cell∧(x == ("__debug__" : Str))=false∧(x == ("__classdict__" : Str))=false):QE X (.Name x pos) (Ap i):=Nh h.1 (.inr (.inl h.2.1)) h.2.2.1 h.2.2.2
theorem q_v3{i:Nat}{x:Str}(h:X.N[i]? = some x∧X.env.scope.names.lookup x=some .free∧(x == ("__debug__" : Str))=false∧(x == ("__classdict__" : Str))=false):QE X (.Name x pos) (Ap i):=Nh h.1 (.inr (.inr h.2.1)) h.2.2.1 h.2.2.2
end
end D3
namespace D3
open PySem PySem.Spec
open PyProof.Rows hiding St
open L2 hiding St
theorem N2{P:Program}{w:World}{H:Hp}{h:Heap}{a:Addr}{o:HO}(x:ObjOk P w H h a o):∃ob,h.get? a=some ob:=by
 cases o with
 |lst xs=>obtain⟨_,_,_,_,e⟩:=x;exact⟨_,e⟩
 |tup xs=>obtain⟨_,_,_,ob,e,_⟩:=x;exact⟨_,e⟩
 |dK kvs=>obtain⟨_,_,_,_,ob,_,_,e,_⟩:=x;exact⟨_,e⟩
 |dT kvs=>obtain⟨_,_,_,_,ob,_,_,e,_⟩:=x;exact⟨_,e⟩
 |set S n=>obtain⟨ob,_,_,_,e,_⟩:=x;exact⟨_,e⟩
 |ins C dx fs=>obtain⟨_,_,_,e,_⟩:=x;exact⟨_,e⟩
 |own y=>exact x
 |xd fs=>obtain⟨_,⟨_,_,_,e,_⟩,_⟩:=x;exact⟨_,e⟩
 |rng lo hi=>obtain⟨_,_,_,e⟩:=x;exact⟨_,e⟩
 |frz ob u=>exact⟨_,x.1⟩
 |tbl ps=>exact⟨_,x⟩
 |met f y=>exact⟨_,x⟩
 |ext φ=>exact x.2.1
def CX1(P:Program)(w:World):CXT:=fun outer H s E e s'=>∃(a C t:Addr) (H':Hp) (B:Heap),e=.ref a∧s'.os=s.os∧AllBare s'.gens∧Un (frs outer) [] H H' s.heap s'.heap∧HOk P w H' s'.heap∧
 Heap.FlyingW B outer a (.ref C) (.ref t) s'.heap∧(∀b o,s.heap.get? b=some o→b ∉ frs outer→(H b=none→B.get? b=some o)∧∃o',B.get? b=some o')∧
 (∀b u,H' b=some u→∀o,s'.heap.get? b=some o→B.get? b=some o)∧H' a=none∧E (.ref C) none H'
section
variable{X:Cx}{pins:List (Addr×Obj)}{σ:List (Option V)}{H:Hp}{s s':Shared}{E XE:XK}{e:Value}{E':Value→Shared→Prop}
theorem C0{env:Env}{l:List Env}{L b:Addr}(hf:env.frame=some L):b∈frs (env::l)↔b=L∨b∈frs l:=by
 unfold frs
 rw[List.filterMap_cons,hf]
 exact List.mem_cons
theorem Ff{fs ex:List Addr}{H H':Hp}{h h':Heap}(u:Un fs ex H H' h h'):Ext H H':=⟨u.tups,u.frzs⟩
theorem Ll{B h':Heap}{H':Hp}{G':Heap}(I:Inv X pins σ H s)(hst:X.stack=X.env::X.outer)(hfr:X.env.frame=some X.env.locals)(hex:X.ex=[])(un:Un (frs X.stack) [] H H' s.heap G')(hB:∀b o,s.heap.get? b=some o→b ∉ frs X.stack→(H b=none→B.get? b=some o)∧∃o',B.get? b=some o')(st:B.StaysIn h')(up:G'.UpToSlots h') :
  Un (frs X.outer) [] X.H₀ H' X.s₀.heap h'∧∀b o,X.s₀.heap.get? b=some o→b ∉ frs X.outer→(X.H₀ b=none→B.get? b=some o)∧∃o',B.get? b=some o':=by
 have u1:Un (frs X.outer) [] X.H₀ H X.s₀.heap s.heap:=by have:=I.base;rw[hex] at this;exact this
 rw[hst] at un hB
 have no:∀b:Addr,b ∉ ([]:List Addr):=fun b=>by simp
 have nf:∀b o,X.s₀.heap.get? b=some o→b ∉ frs X.outer→b ∉ frs (X.env::X.outer):=fun b o e n m=>by
  rcases(C0 hfr).mp m with z|z
  ·exact absurd (Nat.lt_of_lt_of_le (Heap.lt_size e) I.ok.above) (by rw[z];exact Nat.lt_irrefl _)
  ·exact n z
 have key:∀b o,X.s₀.heap.get? b=some o→b ∉ frs X.outer→(X.H₀ b=none→B.get? b=some o)∧∃o',B.get? b=some o':=fun b o e n=>by
  refine⟨fun hn=>(hB b o (u1.keep b o e hn n (no b)) (nf b o e n)).1 (u1.free b o e hn (no b)),?_⟩
  obtain⟨o1,e1⟩:=u1.there b o e (no b)
  exact(hB b o1 e1 (nf b o e n)).2
 have slt:∀b o,X.s₀.heap.get? b=some o→X.H₀ b=none→b∈frs X.outer→∃sl,h'.get? b=some { o with slots:=sl }:=fun b o e hn m=>by
  obtain⟨sl1,e1⟩:=u1.slot b o e hn m (no b)
  obtain⟨sl2,e2⟩:=un.slot b _ e1 (u1.free b o e hn (no b)) ((C0 hfr).mpr (.inr m)) (no b)
  obtain⟨_,o',e',nf'⟩:=I.ok.funs.mem m
  rw[e] at e';cases e'
  obtain⟨sl3,e3⟩:=up b _ e2 nf'
  exact⟨sl3,e3⟩
 refine⟨⟨fun b o e hn n _=>st b o ((key b o e n).1 hn),fun b o e hn m _=>slt b o e hn m,fun b o e hn _=>?_,fun b o e _=>?_,fun b xs e=>un.tups b xs (u1.tups b xs e),fun b o u e=>un.frzs b o u (u1.frzs b o u e),fun b ps e=>?_⟩,key⟩
 ·have h1:=u1.free b o e hn (no b)
  by_cases m:b∈frs X.outer
  ·obtain⟨sl1,e1⟩:=u1.slot b o e hn m (no b)
   exact un.free b _ e1 h1 (no b)
  ·exact un.free b o (u1.keep b o e hn m (no b)) h1 (no b)
 ·by_cases m:b∈frs X.outer
  ·obtain⟨sl,q⟩:=slt b o e (I.ok.frf b m) m
   exact⟨_,q⟩
  ·obtain⟨o',q⟩:=(key b o e m).2
   exact⟨o',st b o' q⟩
 ·obtain⟨m1,q1⟩:=u1.tbls b ps e
  obtain⟨m2,q2⟩:=un.tbls b _ q1
  exact⟨m1++m2,by rw[q2,Array.append_assoc]⟩
theorem Fn{P:Program}{w:World}{B h h':Heap}{H':Hp}(hok:HOk P w H' h)(hT:∀b u,H' b=some u→∀o,h.get? b=some o→B.get? b=some o)(st:B.StaysIn h'):HOk P w H' h'∧∀b u,H' b=some u→∀o,h'.get? b=some o→B.get? b=some o:=by
 refine⟨fun b u q=>(hok b u q).stay (fun c v hc r=>?_) (fun c r=>r) (fun c xs r=>r),fun b u q o r=>?_⟩
 ·rcases hc with rfl|hc
  ·exact st _ _ (hT _ _ q _ r)
  ·exact st _ _ (hT _ _ hc _ r)
 ·obtain⟨ob,z⟩:=N2 (hok b u q)
  have y:=hT b u q ob z
  have:=st _ _ y
  rw[r] at this
  cases this
  exact y
theorem Ja(hst:X.stack=X.env::X.outer)(hfr:X.env.frame=some X.env.locals)(hex:X.ex=[])(I:Inv X pins σ H s)(h:CX1 X.prog X.w X.stack H s E e s')(hE:∀C H',Ext X.H₀ H'→E (.ref C) none H'→XE (.ref C) none H') :
  wpAny (model X.prog X.w) X.A (leaving X.env e) (fun _ s''=>CX1 X.prog X.w X.outer X.H₀ X.s₀ XE e s'') E' s':=by
 obtain⟨a,C,t,H',B,rfl,os,bare,un,hok,fl,hB,hT,hn,q⟩:=h
 rw[hst] at fl
 refine wpAny_leaves_onW (by rw[I.ok.frames,hst]) hfr fl fun h' fl' up=>?_
 obtain⟨u2,k2⟩:=Ll I hst hfr hex un hB fl'.1 up
 obtain⟨ok2,t2⟩:=Fn hok hT fl'.1
 exact⟨a,C,t,H',B,rfl,os.trans I.os,bare,u2,ok2,fl',k2,t2,hn,hE C H' (Ff u2) q⟩
theorem Mo{C x:Addr}{h1:Heap}{vs:List Value}(hst:X.stack=X.env::X.outer)(hfr:X.env.frame=some X.env.locals)(hex:X.ex=[])(I:Inv X pins σ H s)(mk:Heap.MadeExcOf s.heap h1 x (.ref C) vs)(q:XE (.ref C) none H) :
  wpAny (model X.prog X.w) X.A (leaving X.env (.ref x)) (fun _ s''=>CX1 X.prog X.w X.outer X.H₀ X.s₀ XE (.ref x) s'') E' { s with heap:=h1 }:=by
 have hin:∀env∈X.env::X.outer,∀b,env.frame=some b→b∈frs X.stack:=fun env he b hb=>by rw[hst];exact List.mem_filterMap.mpr ⟨env,he,hb⟩
 have fun_:=I.stack
 rw[hst] at fun_
 refine wpAny_leaves_madeW (base:=PySem.W.hideAll s.heap (frs X.stack)) (h:=s.heap) (by rw[I.ok.frames,hst]) hfr (fun b o z=>PySem.W.of_hideAll _ z) (PySem.W.funFrames_hide fun_ hin) mk fun h' t fl _ _ up=>?_
 have hB:∀b o,s.heap.get? b=some o→b ∉ frs X.stack→(H b=none→(PySem.W.hideAll s.heap (frs X.stack)).get? b=some o)∧∃o',(PySem.W.hideAll s.heap (frs X.stack)).get? b=some o':=fun b o z n=>⟨fun _=>PySem.W.hideAll_get _ z n,o,PySem.W.hideAll_get _ z n⟩
 have un:Un (frs X.stack) [] H H s.heap h1:=Un.kept mk.keeps
 obtain⟨u2,k2⟩:=Ll I hst hfr hex un hB fl.1 up
 obtain⟨ok2,t2⟩:=Fn I.hok (fun b u z o y=>PySem.W.hideAll_get _ y fun m=>by rw[I.stkFree b m] at z;cases z) fl.1
 have hn:H x=none:=by
  cases z:H x with
  |none=>rfl
  |some u=>
   obtain⟨ob,y⟩:=N2 (I.hok x u z)
   rw[mk.new] at y;cases y
 exact⟨x,C,t,H,_,rfl,I.os,I.bare,u2,ok2,fl,k2,t2,hn,q⟩
end
def Fx(E:DX):DX:=fun c G=>∃G',Sub G' G∧E c G'
theorem Fx.of{E:DX}{c:Value}{G:Gp}(h:E c G):Fx E c G:=⟨G,Sub.refl G,h⟩
def Sa(K:PySem.W.Frag)(H:Hp)(XE:XK)(E:DX):Prop:=∀c G',E c G'→Fwd K H G' fun H'=>∀ad,XE c ad H'
section
variable{P:Program}{w:World}{K:W.Frag}{mg:Str→Option Value}{base:Heap}{N:List Str}{qual:Str}{scope:Scope}{f:Addr}{cd:Value}{A:Around}{outer:List Env}{s:Shared}{H:Hp}{XE:XK}{E:DX}
theorem Gc(hE:Sa K H XE E):Cd (CX1 P w) (Bz (CX1 P w) P w K mg base N qual scope f cd A outer s H XE) (Cq K (Fx E)):=
 fun pins σ H1 s1 e s' I h=>Ja (X:=Bz (CX1 P w) P w K mg base N qual scope f cd A outer s H XE) rfl rfl rfl I h fun C H' x ⟨G',rg,G2,sb,q⟩=>hE _ G2 q H' x (rg.ext' sb) none
theorem passF{X:Cx}:Cd (CX1 X.prog X.w) X (Cq X.K noX):=fun pins σ H1 s1 e s' I ⟨a,C,t,H',B,_,_,_,_,_,_,_,_,_,G',_,z⟩=>z.elim
end
abbrev R3:List Value:=[.type "ValueError",.type "Exception",.type "BaseException",.type "object"]
structure ExcK(K:PySem.W.Frag)(x:Str)(C:Addr):Prop where
 nm:PySem.W.nsIn K mainGlobals x=some (some (.ref C))
 ok:PySem.W.excIn K C R3 "ValueError.__new__" = true
theorem ExcK.own{K:W.Frag}{g:Heap}{mg:Str→Option Value}{x:Str}{C:Addr}(X:K.In g)(G:g.Ns mainGlobals mg)(z:ExcK K x C):OwnCls x C R3 "ValueError.__new__" mg g:=by
 refine⟨PySem.W.mg_of X G z.nm,?_⟩
 have r:=z.ok
 unfold PySem.W.excIn at r
 split at r
 case h_2=>cases r
 case h_1 dct cls sl0 at_=>
  split at r
  case h_2=>cases r
  case h_1 C' tl a0 a1 a2 a3 nid a5 e1 e2=>
   simp only[Bool.and_eq_true,beq_iff_eq,Bool.not_eq_true'] at r
   obtain⟨⟨⟨⟨⟨r1,r2⟩,r3⟩,r4⟩,r5⟩,r6⟩:=r
   subst r1 r2
   obtain⟨b1,b2,b3,b4,b5,b6,b7,b8,b9,b10,b11⟩:=cls
   dsimp only at e1 r3 r5 r6
   subst e1 r3
   have e3:sl0=#[a0,a1,a2,a3,some (.builtin "ValueError.__new__"),a5]:=by
    cases sl0 with
    |mk l=>exact congrArg Array.mk e2
   subst e3
   exact⟨tl,b4,b1,b5,b2,b6,b7,b8,b9,b10,dct,a0,a1,a2,a3,a5,_,X _ _ at_,.of_isNs (PySem.W.isNs_of_in X r5),PySem.W.nsMap_none_of_in X r5 r6,PySem.W.tail_of_in X r4⟩
section
variable{X:Cx}{x:Str}{C:Addr}{np cpos pos:Pos}{e:Expr}
theorem Oz{tA:TA}{R:Hp→Prop}(hc:X.calm=true)(O:ExcK X.K x C)(ha:PA X [e] tA)(hx:∀pins σ H s h1 a vs,Inv X pins σ H s→R H→Heap.MadeExcOf s.heap h1 a (.ref C) vs→X.xe (.ref a) { s with heap:=h1 })(hg:Gl X x:=by rfl)(hd:(x == ("__debug__" : Str))=false:=by decide)(he:starEach [e] X.env=(false,eval e X.env)::starEach [] X.env:=by rfl)(hpl:(backTo cpos (starEach [] X.env)).any (·.1)=false:=by rfl) :
  PS X (.Raise (some (.Call (.Name x np) [e] [] cpos)) none pos) (fun D σ H=>tA σ H fun vs H1=>vs.length≤sizeLine∧R H1):=by
 intro pins s σ H D I h
 have own:=O.own I.mod.kin I.mod.glob
 obtain⟨tl,N,nm,q,bs,hdct,sn,sub,ab,col,dd,k0,k1,k2,k3,k5,mN,hC,hN,hni,T⟩:=own.obj
 refine wpAny_Raise_call_subU (C:=C) (nm:=nm) (q:=q) (N:=N) (bs:=bs) (bm:=tl) (hdct:=hdct) (sn:=sn) (sub:=sub) (ab:=ab) (col:=col) (dd:=dd) (k0:=k0) (k1:=k1) (k2:=k2) (k3:=k3) (k5:=k5)
  PySem.F.excBase_ValueError (by decide) PySem.F.excBase_ValueError (mN:=mN) (T.hasType PySem.F.excBase_ValueError.hasBase) (I.ok.hd hc) (by rw[he];show(false||(backTo cpos (starEach [] X.env)).any (·.1))=false;rw[hpl];rfl) hni (Dr I hg own.bound ⟨rfl,?_⟩ hd)
 have z:=ha cpos pins s σ H _ I h
 rw[he] at z ⊢
 exact Calls.evalArgs_plain (wpAny_mono z (fun us s2 ⟨vs,H1,I1,r,hl,q⟩=>⟨rfl,by show us.length≤_;rw[←r.length];exact hl,I1.bk _ _ hC,hN.keeps I1.bk,T.keeps I1.bk,fun h' a mk=>hx pins σ H1 s2 h' a us I1 q mk⟩) fun _ _ y=>y)
end
section
variable{P:Program}{w:World}{K:W.Frag}{mg:Str→Option Value}{base:Heap}{N:List Str}{qual:Str}{scope:Scope}{f:Addr}{cd:Value}{A:Around}{outer:List Env}{s:Shared}{H:Hp}{XE:XK}{E:DX}{x:Str}{C:Addr}{np cpos pos:Pos}{e:Expr}{tA:DTA}
def Fd(E:DX)(C:Addr)(tA:DTA):DTS:=fun D σ G=>tA σ G fun ds G1=>ds.length≤sizeLine∧Fx E (.ref C) G1
theorem Dw(hE:Sa K H XE E)(O:ExcK K x C)(ha:QA (Bz (CX1 P w) P w K mg base N qual scope f cd A outer s H XE) [e] tA)(hg:Gl (Bz (CX1 P w) P w K mg base N qual scope f cd A outer s H XE) x:=by rfl)(hd:(x == ("__debug__" : Str))=false:=by decide)(he:starEach [e] (envOfC qual scope s.heap.objs.size f cd)=(false,eval e (envOfC qual scope s.heap.objs.size f cd))::starEach [] (envOfC qual scope s.heap.objs.size f cd):=by rfl)(hpl:(backTo cpos (starEach [] (envOfC qual scope s.heap.objs.size f cd))).any (·.1)=false:=by rfl) :
  QS (Bz (CX1 P w) P w K mg base N qual scope f cd A outer s H XE) (.Raise (some (.Call (.Name x np) [e] [] cpos)) none pos) (Fd E C tA):=
 (Oz (X:=Bz (CX1 P w) P w K mg base N qual scope f cd A outer s H XE) (R:=fun H1=>Ext H H1→XE (.ref C) none H1) rfl O ha (fun pins σ H1 s1 h1 a vs I q mk=>Mo (X:=Bz (CX1 P w) P w K mg base N qual scope f cd A outer s H XE) rfl rfl rfl I mk (q (Ff I.base))) hg hd he hpl).imp
  fun D σ H1 ⟨σD,G,D',rs,rg,h,cl⟩=>⟨σD,G,_,rs,rg,h,fun ds G1 ⟨hl,G2,sb,q⟩ H2 x2 rg2 vs dv=>⟨by rw[←dv.length];exact hl,fun x0=>hE _ G2 q H2 x0 (rg2.ext' sb) none⟩⟩
end
section
variable{P:Program}{w:World}{K:W.Frag}{mg:Str→Option Value}{base:Heap}
theorem okX{x qual:Str}{st:Stmt}{f:Addr}{fd:FuncData}{N ps:List Str}{k:Nat}{sp:DSp}(F:Fun K x qual st f fd)(S:FnScope N ps (defScope st))(len:∀ds G Q E,sp ds G Q E→ds.length=ps.length)(hbody:∀(cdv:Value) (A:Around) (outer:List Env) (s:Shared) (H:Hp) (XE:XK) (ds:List D) (G:Gp) (Q:DK) (E:DX),Room k (A.deeper (envOfC qual (defScope st) s.heap.objs.size f cdv))→sp ds G Q E→Sa K H XE E→
   ∃t,QSs (Bz (CX1 P w) P w K mg base N qual (defScope st) f cdv A outer s H XE) (Bl st) t∧t { nx:=fun _ G'=>Fq Q .non G',rt:=Fq Q } (Ak N ds) G):FnOk P w K mg base (CX1 P w) (k+1) f fd ps (Ag K sp):=by
 obtain⟨oc,od,kV,doc,pm,an,cdv,ct,osl,rfl,lk,hcd⟩:=F.ex
 refine Np lk hcd S (fun vs H Q E ⟨ds,G,Q',E',dv,rg,h,_⟩=>by rw[←dv.length];exact len ds G Q' E' h) fun A outer s H vs Q XE hr ⟨ds,G,Q',E',dv,rg,h,cl,hE⟩=>?_
 obtain⟨t,ht,hq⟩:=hbody cdv A outer s H XE ds G Q' E' hr h hE
 exact⟨_,ht,Ak N ds,G,_,Ea dv,rg,hq,⟨fun σD G1 ⟨G2,sb,q⟩ H1 x1 rg1 σ rs=>cl _ G2 q H1 x1 (rg1.ext' sb) _ .non,fun d G1 ⟨G2,sb,q⟩ H1 x1 rg1 v dv=>cl _ G2 q H1 x1 (rg1.ext' sb) _ dv,fun _ _ z=>z.elim,fun _ _ z=>z.elim⟩⟩
end
def Do(CX:CXT)(P:Program)(w:World)(K:PySem.W.Frag)(mg:Str→Option Value)(base:Heap)(N:List Str)(q:Str)(scope:Scope)(f:Addr)(cd:Value)(clos:List (Str×Addr))(A:Around)(outer:List Env)(s:Shared)(H:Hp)(E:XK):Cx where
 prog:=P
 w:=w
 K:=K
 mg:=mg
 base:=base
 A:=A.deeper (PySem.W.envX q scope s.heap.objs.size f cd clos)
 N:=N
 s₀:=s
 H₀:=H
 env:=PySem.W.envX q scope s.heap.objs.size f cd clos
 outer:=outer
 stack:=PySem.W.envX q scope s.heap.objs.size f cd clos::outer
 ex:=[]
 calm:=true
 fn:=fun _=>false
 pn:=[]
 xe:=fun e s'=>wpAny (model P w) (A.deeper (PySem.W.envX q scope s.heap.objs.size f cd clos)) (leaving (PySem.W.envX q scope s.heap.objs.size f cd clos) e) (fun _ s''=>CX outer H s E e s'') (fun e' s''=>CX outer H s E e' s'') s'
structure LamScope(scope:Scope):Prop where
 kind:scope.kind=.function
 co:scope.isCoroutine=false
 gen:scope.isGenerator=false
 cell:∀y∈scope.names,y.2≠.cell
section
variable{P:Program}{w:World}{K:W.Frag}{mg:Str→Option Value}{base:Heap}{N:List Str}{q:Str}{scope:Scope}{f c:Addr}{clos:List (Str×Addr)}{A:Around}{outer:List Env}{s:Shared}{H:Hp}{E:XK}{k:Nat}{σ:L2.St}{Q:VK}{t:TE}{params:Arguments}{body:Expr}{pm ctv:Value}
theorem Q8(hr:Room k A)(e0:Env0 P w K mg base A outer s H)(ho:s.heap.get? f=some (lamO q params body scope clos pm (.ref c) ctv))(hcd:s.heap.CodeRec (.ref c) q)(S:LamScope scope)(hbind:bindArgs (PySem.W.kla_fn "<lambda>" q params body scope clos pm (.ref c) ctv) ⟨[],[]⟩=pure [])(hcl:∀x c',clos.lookup x=some c'→(∃v,s.heap.IsCell c' v)∧H c'=none)(hinj:∀x y c',clos.lookup x=some c'→clos.lookup y=some c'→x=y)(hhas:∀x,scope.names.lookup x=some .free→∃c',clos.lookup x=some c')(hσ:∀(i:Nat) (x:Str) (v:V),N[i]? = some x→σ[i]? = some (some v)→∃c' u,scope.names.lookup x=some .free∧clos.lookup x=some c'∧s.heap.IsCell c' (some u)∧RelV v u)(hlen:σ.length=N.length)(hbody:PE (Do (CX1 P w) P w K mg base N q scope f (.ref c) clos A outer s H E) body t)(h:t σ H Q):codeAny (model P w) A (.call (.ref f) ⟨[],[]⟩) (CR (CX1 P w) outer P w H s Q E) s:=by
 have lim:s.heap.NoLimit:=e0.mod.nolimit.keeps fun b o e=>(e0.bs b o e).1
 refine PySem.W.kla_callFunE (by have:=hr.dp;omega) ho rfl S.co S.gen rfl hcd ?_
 rw[hbind]
 refine wpAny_pure (wpAny_newFunctionEnv S.cell (by simp) (fun h₁ hns hsb=>⟨lim.fresh _ hsb,?_⟩) S.kind)
 show codeAny _ _ (.expr body (PySem.W.envX q scope s.heap.objs.size f (.ref c) clos)) _ _
 have kp:∀b o,s.heap.get? b=some o→h₁.get? b=some o:=fun b o e=>hsb.extBut b o (Nat.ne_of_lt (Heap.lt_size e)) (Heap.get?_push_of_some _ e)
 have ok:(Do (CX1 P w) P w K mg base N q scope f (.ref c) clos A outer s H E).Ok:=by
  refine⟨e0.mod,S.kind,rfl,rfl,Nat.le_refl _,fun x y c' h1 h2=>hinj x y c' h1 h2,fun x hx=>?_,fun x c' hf=>(by cases hf),fun _=>hr.hd,Around.frames_deeper e0.frames,.inr ⟨rfl,rfl⟩,fun b z=>absurd (show b∈([]:List Addr) from z) (by simp),e0.bs,e0.bsz,fun b _ _ z=>absurd (show b∈([]:List Addr) from z) (by simp),fun b z=>absurd (show b∈([]:List Addr) from z) (by simp),e0.funs,e0.frf⟩
  rcases hx with hx|hx
  ·exact absurd rfl (S.cell _ (PySem.mem_of_lookup (show scope.names.lookup x=some .cell from hx)))
  ·exact hhas x hx
 have I:Inv (Do (CX1 P w) P w K mg base N q scope f (.ref c) clos A outer s H E) [] σ H { s with heap:=h₁,toks:=s.toks+([]:List (Str×Value)).length }:=by
  refine⟨ok,rfl,e0.bare,Un.kept kp,⟨_,hns,fun i x v h1 h2 _=>?_⟩,fun x c' hx=>?_,e0.hok.fresh (Nat.le_refl _),fun x c' hx=>(hcl x c' hx).2,fun p hp=>absurd (show p∈([]:List (Addr×Obj)) from hp) (by simp),e0.hok.kept kp,hlen⟩
  ·obtain⟨c',u,a1,a2,⟨o,a3,a4⟩,a5⟩:=hσ i x v h1 h2
   exact⟨u,a5,.inr ⟨.inr a1,c',a2,o,kp _ _ a3,a4⟩⟩
  ·obtain⟨v,o,a3,a4⟩:=(hcl x c' hx).1
   exact⟨v,o,kp _ _ a3,a4⟩
 refine PySem.W.kla_codeExpr (wpAny_mono (hbody [] _ σ H Q I h) (fun u s' hs=>?_) fun _ _ y=>y)
 obtain⟨v,H',J,rv,z⟩:=hs
 exact⟨v,H',J.os,J.bare,J.base,J.hok,rv,z⟩
theorem passL{E2:XK}(hE:∀C H',Ext H H'→E2 (.ref C) none H'→E (.ref C) none H'):Cd (CX1 P w) (Do (CX1 P w) P w K mg base N q scope f (.ref c) clos A outer s H E) E2:=
 fun pins σ H1 s1 e s' I h=>Ja (X:=Do (CX1 P w) P w K mg base N q scope f (.ref c) clos A outer s H E) rfl rfl rfl I h hE
end
def mroK(K:PySem.W.Frag)(C:Addr):Option (List Value):=match K.lookup C with
 |some ⟨_,_,.cls cd,_⟩=>some cd.mro
 |_=>none
def ClsAt(g:Heap)(C:Addr)(tl:List Value):Prop:=∃N nm q bs hdct sn sub ab col dd k0 k1 k2 k3 k5 mN,g.get? C=some (excClassObj nm q C N bs tl hdct sn sub ab col dd k0 k1 k2 k3 k5 "ValueError.__new__")∧g.Ns N mN∧mN "__init__" = none∧OwnTail g R3 tl
theorem ClsAt.keeps{g g':Heap}{C:Addr}{tl:List Value}(z:ClsAt g C tl)(k:∀b o,g.get? b=some o→g'.get? b=some o):ClsAt g' C tl:=
 let ⟨N,nm,q,bs,hdct,sn,sub,ab,col,dd,k0,k1,k2,k3,k5,mN,hC,hN,hi,T⟩:=z;⟨N,nm,q,bs,hdct,sn,sub,ab,col,dd,k0,k1,k2,k3,k5,mN,k _ _ hC,hN.keeps k,hi,T.keeps k⟩
theorem ExcK.cls{K:W.Frag}{g:Heap}{mg:Str→Option Value}{x:Str}{C:Addr}{tl:List Value}(X:K.In g)(G:g.Ns mainGlobals mg)(z:ExcK K x C)(hm:mroK K C=some (.ref C::tl)):ClsAt g C tl:=by
 obtain⟨tl',N,nm,q,bs,hdct,sn,sub,ab,col,dd,k0,k1,k2,k3,k5,mN,hC,hN,hi,T⟩:=(z.own X G).obj
 have e:tl'=tl:=by
  unfold mroK at hm
  split at hm
  ·rename_i a b cd c ho
   have:=X _ _ ho
   rw[hC] at this
   cases this
   injection hm with hm
   injection hm
  ·cases hm
 subst e
 exact⟨N,nm,q,bs,hdct,sn,sub,ab,col,dd,k0,k1,k2,k3,k5,mN,hC,hN,hi,T⟩
theorem Ml{M:Model}{A:Around}{E:Value→Shared→Prop}{s:Shared}{e C B:Addr}{oe:Obj}{tl tm:List Value}{Q:Bool→Shared→Prop}(hC:ClsAt s.heap C tl)(hM:ClsAt s.heap B tm)(he:s.heap.get? e=some oe)(hcls:oe.cls=.ref C)(hB:tm.contains (.type "BaseException")=true)(hin:(Value.ref C::tl).contains (.ref B)=true)(q:Q true s):wpAny M A (excMatches (.ref e) (.ref B)) Q E s:=by
 obtain⟨N,nm,qn,bs,hdct,sn,sub,ab,col,dd,k0,k1,k2,k3,k5,mN,hC,_⟩:=hC
 obtain⟨N',nm',qn',bs',hdct',sn',sub',ab',col',dd',k0',k1',k2',k3',k5',mN',hM,_⟩:=hM
 obtain⟨h,g,d,t,os⟩:=s
 have hcB:(Value.ref B::tm).contains (.type "BaseException")=true:=by rw[List.contains_cons,hB,Bool.or_true]
 have f:=tc_notTuple
 unfold excMatches
 repeat (first|(with_reducible refine wpAny_loadPart_at he ?_;rw[hcls])|with_reducible refine wpAny_loadPart_at hM ?_|(with_reducible refine wpAny_isSubtype_exc hM ?_;rw[hcB])|(with_reducible refine wpAny_isSubtype_exc hC ?_;rw[hin])|wp_step)
 exact q
theorem Qc{fs:List Addr}{H H':Hp}{h G' h' B:Heap}(un:Un fs [] H H' h G')(hB:∀b o,h.get? b=some o→b ∉ fs→(H b=none→B.get? b=some o)∧∃o',B.get? b=some o')(st:B.StaysIn h')(up:G'.UpToSlots h')(hf:∀b∈fs,H b=none∧∀o,h.get? b=some o→∀vs,o.data≠.fields vs):Un fs [] H H' h h':=by
 have no:∀b:Addr,b ∉ ([]:List Addr):=fun b=>by simp
 have slt:∀b o,h.get? b=some o→H b=none→b∈fs→∃sl,h'.get? b=some { o with slots:=sl }:=fun b o e hn m=>by
  obtain⟨sl2,e2⟩:=un.slot b o e hn m (no b)
  obtain⟨sl3,e3⟩:=up b _ e2 ((hf b m).2 o e)
  exact⟨sl3,e3⟩
 refine⟨fun b o e hn n _=>st b o ((hB b o e n).1 hn),fun b o e hn m _=>slt b o e hn m,un.free,fun b o e _=>?_,un.tups,un.frzs,un.tbls⟩
 by_cases m:b∈fs
 ·obtain⟨sl,q⟩:=slt b o e (hf b m).1 m
  exact⟨_,q⟩
 ·obtain⟨o',q⟩:=(hB b o e m).2
  exact⟨o',st b o' q⟩
section
variable{X:Cx}{pins:List (Addr×Obj)}{σ:List (Option V)}{H:Hp}{s:Shared}
theorem Ok.re(h:X.Ok)(xe:Value→Shared→Prop)(pn:List (Addr×Obj)):Cx.Ok { X with xe:=xe,pn:=pn }:=⟨h.mod,h.kind,h.glob,h.blt,h.above,h.inj,h.has,h.cab,h.hd,h.frames,h.stk,h.exf,h.bs,h.bsz,h.noex,h.exfs,h.funs,h.frf⟩
theorem Ok.mark(h:X.Ok)(v:Option Value)(xe:Value→Shared→Prop)(pn:List (Addr×Obj)):Cx.Ok { X with A:=X.A.mark v,calm:=false,xe:=xe,pn:=pn }:=
 ⟨h.mod,h.kind,h.glob,h.blt,h.above,h.inj,h.has,h.cab,fun z=>(by cases z),h.frames,h.stk,h.exf,h.bs,h.bsz,h.noex,h.exfs,h.funs,h.frf⟩
theorem T9(I:Inv X pins σ H s)(xe:Value→Shared→Prop):Inv { X with xe:=xe,pn:=X.pn++pins } [] σ H s:=
 ⟨Ok.re I.ok xe _,I.os,I.bare,I.base,I.loc,I.cell,I.free,I.freeC,fun p hp=>I.pin p (by simpa using hp),I.hok,I.len⟩
theorem Ds{xe:Value→Shared→Prop}{more:List (Addr×Obj)}(ok:X.Ok)(I:Inv { X with xe:=xe,pn:=X.pn++pins } more σ H s):Inv X pins σ H s:=
 ⟨ok,I.os,I.bare,I.base,I.loc,I.cell,I.free,I.freeC,fun p hp=>I.pin p (List.mem_append_left _ hp),I.hok,I.len⟩
theorem Fp(I:Inv X pins σ H s)(v:Option Value)(xe:Value→Shared→Prop):Inv { X with A:=X.A.mark v,calm:=false,xe:=xe,pn:=X.pn++pins } [] σ H s:=
 ⟨Ok.mark I.ok v xe _,I.os,I.bare,I.base,I.loc,I.cell,I.free,I.freeC,fun p hp=>I.pin p (by simpa using hp),I.hok,I.len⟩
theorem Fz{v:Option Value}{xe:Value→Shared→Prop}{more:List (Addr×Obj)}(ok:X.Ok)(I:Inv { X with A:=X.A.mark v,calm:=false,xe:=xe,pn:=X.pn++pins } more σ H s):Inv X pins σ H s:=
 ⟨ok,I.os,I.bare,I.base,I.loc,I.cell,I.free,I.freeC,fun p hp=>I.pin p (List.mem_append_left _ hp),I.hok,I.len⟩
theorem Pk{a:Addr}{o:Obj}(I:Inv X pins σ H s)(ha:X.s₀.heap.get? a=none)(hL:a≠X.env.locals)(hc:∀x c,X.env.cells.lookup x=some c→c≠a)(hp:∀p∈X.pn++pins,p.1≠a)(hn:H a=none)(e:s.heap.get? a=some o) :
  Inv X pins σ (upd H a (.frz o topO)) s:=by
 have nb:∀b o',X.s₀.heap.get? b=some o'→b≠a:=fun b o' q z=>by rw[z,ha] at q;cases q
 refine⟨I.ok,I.os,I.bare,⟨I.base.keep,I.base.slot,fun b o' q n hx=>by rw[Ac (nb b o' q)];exact I.base.free b o' q n hx,I.base.there,fun b xs q=>?_,fun b o' u q=>?_,fun b ps q=>?_⟩,I.loc,I.cell,by rw[Ac hL.symm];exact I.free,fun x c q=>by rw[Ac (hc x c q)];exact I.freeC x c q,fun p hq=>?_,fun b u q=>?_,I.len⟩
 ·have q:=I.base.tups b xs q
  rw[Ac (Ai q hn)];exact q
 ·have q:=I.base.frzs b o' u q
  rw[Ac (Ai q hn)];exact q
 ·obtain⟨m,q⟩:=I.base.tbls b ps q
  exact⟨m,by rw[Ac (Ai q hn)];exact q⟩
 ·obtain⟨p1,p2,p3⟩:=I.pin p hq
  exact⟨p1,by rw[Ac (hp p hq)];exact p2,p3⟩
 ·by_cases hb:b=a
  ·subst hb
   rw[Ad] at q;cases q
   exact K4 e
  ·rw[Ac hb] at q
   exact(I.hok b u q).stay (fun c v _ r=>r) (fun c r=>by rw[Ac (Ai r hn)];exact r) fun c xs r=>by rw[Ac (Ai r hn)];exact r
theorem Pl{g:Heap}{m:Str→Option Value}{tk:Nat}(I:Inv X pins σ H s)(hn:g.Ns X.env.locals m)(hs:Heap.SameBut X.env.locals s.heap g):Inv X pins (List.replicate X.N.length none) H { s with heap:=g,toks:=tk }:=by
 have nL:∀b o,X.s₀.heap.get? b=some o→b≠X.env.locals:=fun b o e=>Nat.ne_of_lt (Nat.lt_of_lt_of_le (Heap.lt_size e) I.ok.above)
 refine⟨I.ok,I.os,I.bare,⟨fun b o e n hb hx=>(hs.2 b (nL b o e)).trans (I.base.keep b o e n hb hx),fun b o e n hb hx=>?_,I.base.free,fun b o e hx=>?_,I.base.tups,I.base.frzs,I.base.tbls⟩,⟨m,hn,fun i x v _ e2 _=>?_⟩,fun x c e=>?_,I.free,I.freeC,fun p hp=>?_,fun b u q=>?_,by simp⟩
 ·obtain⟨sl,q⟩:=I.base.slot b o e n hb hx
  exact⟨sl,(hs.2 b (nL b o e)).trans q⟩
 ·obtain⟨o',q⟩:=I.base.there b o e hx
  exact⟨o',(hs.2 b (nL b o e)).trans q⟩
 ·rw[List.getElem?_replicate] at e2
  split at e2<;>cases e2
 ·obtain⟨v,o,q1,q2⟩:=I.cell x c e
  exact⟨v,o,(hs.2 c (I.cne x c e)).trans q1,q2⟩
 ·obtain⟨p1,p2,p3,p4⟩:=I.pin p hp
  exact⟨(hs.2 _ p3).trans p1,p2,p3,p4⟩
 ·refine(I.hok b u q).stay (fun c v hc r=>(hs.2 c fun z=>?_).trans r) (fun _ r=>r) fun _ _ r=>r
  subst z
  rcases hc with rfl|hc
  ·rw[I.free] at q;cases q
  ·rw[I.free] at hc;cases hc
end
section
variable{X:Cx}{E:XK}{M:Addr}{mn n:Str}{i:Nat}{body suite:List Stmt}{b0:Stmt}{np hpos pos:Pos}{tb ts:TS}{tm:List Value}
def Nt(o:Obj)(C:Addr):Prop:=o.cls=.ref C∧∃vs,o.data=.fields vs
theorem S4(hc:X.calm=true)(hst:X.stack=X.env::X.outer)(hfr:X.env.frame=some X.env.locals)(hex:X.ex=[])(hN:X.N.Nodup)(hi:X.N[i]? = some n)(hl:X.env.scope.names.lookup n=some .local)(hmg:X.mg mn=some (.ref M))(hM:ExcK X.K mn M)(hmM:mroK X.K M=some (.ref M::tm))(hB:tm.contains (.type "BaseException")=true)(hb:∀xe' pn',Cd (CX1 X.prog X.w) { X with xe:=xe',pn:=pn' } E→PSs { X with xe:=xe',pn:=pn' } body tb)(hs:∀e xe' pn',PSs { X with A:=X.A.mark (some (.ref e)),calm:=false,xe:=xe',pn:=pn' } (b0::suite) ts)(hg:Gl X mn:=by rfl)(hd:(mn == ("__debug__" : Str))=false:=by decide) :
  PS X (.Try body [.ExceptHandler (some (.Name mn np)) (some n) (b0::suite) hpos] [] [] pos)
   (fun D σ H=>tb D σ H∧∀C H' a o,Ext X.H₀ H'→E (.ref C) none H'→H' a=none→Nt o C→∃x tl,ExcK X.K x C∧mroK X.K C=some (.ref C::tl)∧(Value.ref C::tl).contains (.ref M)=true∧
    ts { nx:=fun _ _=>False,rt:=D.rt } ((List.replicate X.N.length none).set i (some (.ref a))) (upd H' a (.frz o topO))):=by
 intro pins s σ H D I ⟨h1,h2⟩
 refine wpAny_Try_except (E:=X.xe) ?_
 have ok:=I.ok
 refine wpAny_mono (hb _ (X.pn++pins) ?_ [] s σ H D (T9 I _) h1) (fun f s1 z=>?_) fun _ _ y=>y
 case refine_2=>
  cases f with
  |next=>
   obtain⟨σ',H',J,q⟩:=z
   exact wpAny_pure ⟨σ',H',Ds ok J,q⟩
  |brk=>obtain⟨σ',H',J,q⟩:=z;exact⟨σ',H',Ds ok J,q⟩
  |cont=>obtain⟨σ',H',J,q⟩:=z;exact⟨σ',H',Ds ok J,q⟩
  |ret u=>obtain⟨v,σ',H',J,r,q⟩:=z;exact⟨v,σ',H',Ds ok J,r,q⟩
 case refine_1=>
  intro pins' σ1 H1 s1 e s' I1 hcx
  obtain⟨a,C,t,H',B,rfl,os,bare,un,hok,fl,hBk,hT,hn,q⟩:=hcx
  obtain⟨-,-,fl3,-⟩:=id fl
  have stk1:=I1.stack
  have hff:∀b∈frs X.stack,H1 b=none∧∀o,s1.heap.get? b=some o→∀vs,o.data≠.fields vs:=fun b hb=>⟨I1.stkFree b hb,fun o e vs=>by
   obtain⟨_,o',e',nf⟩:=stk1.mem hb
   rw[e] at e';cases e';exact nf vs⟩
  have move:∀g:Heap,B.StaysIn g→s'.heap.UpToSlots g→Inv X pins σ1 H' { s' with heap:=g }∧HOk X.prog X.w H' g:=fun g st up=>by
   obtain⟨ok2,_⟩:=Fn hok hT st
   exact⟨Ds ok (I1.call' (s':={ s' with heap:=g }) os (Qc un hBk st up hff) ok2 bare (fun b z=>absurd z (by simp))),ok2⟩
  have fl':=fl
  rw[hst] at fl'
  show wpAny _ _ (noteFrame _ _) _ _ _
  refine wpAny_looks_onW (by rw[ok.frames,hst]) hfr fl' fun h4 held up4=>wpAny_landsW held fun h5 fl5 up5=>?_
  obtain⟨I5,_⟩:=move h5 fl5.1 (up4.trans up5)
  obtain⟨oe,ws,hoe,hoec,hoed,_⟩:=fl5.first
  have x0:Ext X.H₀ H':=(Ff I1.base).trans (Ff un)
  obtain⟨x,tl,hx,hmx,hin,_⟩:=h2 C H' a oe x0 q hn ⟨hoec,ws,hoed⟩
  refine wpAny_handleBy_cons (codeAny_handlers_test ?_) (by intro z;cases z)
  refine Dr (X:={ X with A:=X.A.mark (some (.ref a)),calm:=false,xe:=fun _ _=>True,pn:=X.pn++pins }) (Fp I5 (some (.ref a)) (fun _ _=>True)) hg hmg ?_ hd
  have cC:ClsAt h5 C tl:=(hx.cls I5.mod.kin I5.mod.glob hmx).keeps I5.bk
  have cM:ClsAt h5 M tm:=(hM.cls I5.mod.kin I5.mod.glob hmM).keeps I5.bk
  refine Ml (s:={ s' with heap:=h5 }) cC cM hoe hoec hB hin ?_
  refine codeAny_handlers_suite_as ?_
  refine lands_againW fl5 fun h6 fl6 up6=>?_
  obtain⟨I6,_⟩:=move h6 fl6.1 ((up4.trans up5).trans up6)
  obtain⟨o6,w6,ho6,hc6,hd6,_⟩:=fl6.first
  obtain⟨_,_,_,_,_,hts⟩:=h2 C H' a o6 x0 q hn ⟨hc6,w6,hd6⟩
  have hBa:B.get? a=none:=fl.2.1
  have nfr:a ∉ frs X.stack:=fun m=>by
   rw[hst] at m
   obtain⟨_,o',e',nf⟩:=fl6.2.2.1.mem m
   rw[ho6] at e';cases e';exact nf _ hd6
  have ns1:s1.heap.get? a=none:=by
   cases z:s1.heap.get? a with
   |none=>rfl
   |some o1=>
    obtain⟨o',y⟩:=(hBk a o1 z nfr).2
    rw[hBa] at y;cases y
  have ns0:X.s₀.heap.get? a=none:=by
   cases z:X.s₀.heap.get? a with
   |none=>rfl
   |some o0=>
    obtain⟨o1,y⟩:=I1.base.there a o0 z (by show a ∉ X.ex;rw[hex];simp)
    rw[ns1] at y;cases y
  have nL:a≠X.env.locals:=fun z=>nfr (by rw[hst,z];exact(C0 hfr).mpr (.inl rfl))
  have nc:∀x c,X.env.cells.lookup x=some c→c≠a:=fun x c e z=>by
   obtain⟨v,o,e1,e2⟩:=I6.cell x c e
   rw[z] at e1
   rw[show({ s' with heap:=h6 }:Shared).heap.get? a=some o6 from ho6] at e1
   cases e1
   rw[hd6] at e2;cases e2
  have np:∀p∈X.pn++pins,p.1≠a:=fun p hp z=>by
   have:=(I1.pin p (List.mem_append_left _ hp)).1
   rw[z,ns1] at this;cases this
  have I7:Inv X pins (List.replicate X.N.length none) (upd H' a (.frz o6 topO)) { s' with heap:=h6 }:=Pk (I6.weak (by rw[List.length_replicate,I6.len]) fun j v e=>by
   rw[List.getElem?_replicate] at e
   split at e<;>cases e) ns0 nL nc np hn ho6
  refine Cy (X:={ X with A:=X.A.mark (some (.ref a)),calm:=false,xe:=fun _ _=>True,pn:=X.pn++pins }) (i:=i) (v:=.ref a) (Fp I7 (some (.ref a)) (fun _ _=>True)) hN hi (Or.inl hl) rfl (fun s8 I8=>?_) (.inr hl)
  have I8':Inv X pins ((List.replicate X.N.length none).set i (some (.ref a))) (upd H' a (.frz o6 topO)) s8:=Fz ok I8
  refine wpAny_mono (hs a _ (X.pn++pins) [] s8 _ _ _ (Fp I8' (some (.ref a)) _) hts) (fun f s9 z=>?_) fun _ _ y=>y
  cases f with
  |next=>obtain⟨_,_,_,z⟩:=z;exact z.elim
  |brk=>obtain⟨_,_,_,z⟩:=z;exact z.elim
  |cont=>obtain⟨_,_,_,z⟩:=z;exact z.elim
  |ret u=>
   obtain⟨v,σ9,H9,J,r,q9⟩:=z
   have J:=Fz ok J
   obtain⟨m,hnm,_⟩:=id J.loc
   exact wpAny_nameGoes hl hnm (by rw[ok.kind];rfl) fun g m' hn' hs'=>⟨v,_,H9,Pl J hn' hs',r,q9⟩
end
end D3
namespace L2
open PySem PySem.Spec PyProof.Rows
structure FnS(P:Program)(w:World)(K:PySem.W.Frag)(mg:Str→Option Value)(base:Heap)(CX:CXT)(k:Nat)(f:Addr)(fd:FuncData)(ps:List Str)(sp:List Env→Shared→Sp):Prop where
 len:∀outer s vs H Q E,sp outer s vs H Q E→vs.length=ps.length
 run:∀(A:Around) (outer:List Env) (s:Shared) (H:Hp) (args:Args) (us:List Value) (vs:List V) (Q:VK) (E:XK),Room k A→Env0 P w K mg base A outer s H→BindsTo s fd args (ps.zip us)→Vals vs us→sp outer s vs H Q E→
  codeAny (model P w) A (.call (.ref f) args) (CR CX outer P w H s Q E) s

theorem Ua{CX:CXT}{P:Program}{w:World}{K:W.Frag}{mg:Str→Option Value}{base:Heap}{k:Nat}{f:Addr}{name qual:Str}{params:Arguments}{body:List Stmt}{scope:Scope}{dV kV doc pm cdv ct oc:Value}{an od:Option Addr}{osl:Array (Option Value)}{N ps:List Str}{sp:List Env→Shared→Sp}(lk:K.lookup f=some ⟨oc,od,.func (PySem.W.fnOf name qual params body scope dV kV doc pm an cdv ct),osl⟩)(hcd:PySem.W.codeIn K cdv qual=true)(S:FnScope N ps scope)(len:∀outer s vs H Q E,sp outer s vs H Q E→vs.length=ps.length)(hbody:∀(A:Around) (outer:List Env) (s:Shared) (H:Hp) (vs:List V) (Q:VK) (E:XK),Room k (A.deeper (envOfC qual scope s.heap.objs.size f cdv))→sp outer s vs H Q E→
   ∃t,PSs (Bz CX P w K mg base N qual scope f cdv A outer s H E) body t∧t { nx:=fun _ H'=>Q .non H',rt:=Q } (B9 N vs) H) :
  FnS P w K mg base CX (k+1) f (PySem.W.fnOf name qual params body scope dV kV doc pm an cdv ct) ps sp:=by
 refine⟨len,fun A outer s H args us vs Q E hr e0 hb r hsp=>?_⟩
 have hl:=len _ _ _ _ _ _ hsp
 have KX:K.In s.heap:=e0.mod.kin.keeps fun b o e=>(e0.bs b o e).1
 have lim:s.heap.NoLimit:=e0.mod.nolimit.keeps fun b o e=>(e0.bs b o e).1
 have hkind:∀y∈ps.zip us,scope.names.lookup y.1=some .local∨(scope.names.lookup y.1=some .cell∧((cellsFrom (s.heap.objs.size+1) scope.names []).lookup y.1).isSome=true):=fun⟨n,v⟩ hy=>by
  rcases S.par n (List.of_mem_zip hy).1 with q|q
  ·exact .inl q
  ·exact .inr ⟨q,PySem.W.cellsFrom_some _ _ _ (.inl q)⟩
 refine codeAny_call_function hr.depth (KX _ _ lk) rfl S.co S.gen rfl (PySem.W.codeRec_of KX hcd) (hb _ _ _ _ ?_)
 refine wpAny_newFunctionEnv_cells S.kind hkind fun env he s1 x=>?_
 subst he
 refine⟨lim.keeps x.toInCall.keep,codeAny_func ?_⟩
 obtain⟨t,ht,hq⟩:=hbody A outer s H vs Q E (hr.deeper _) hsp
 have I:Inv (Bz CX P w K mg base N qual scope f cdv A outer s H E) [] (B9 N vs) H s1:=Go S hr.hd e0 hl r x
 refine wpAny_mono (ht [] s1 (B9 N vs) H _ I hq) (fun fl s' hs=>?_) fun e s' hs=>hs
 have fin:∀{σ':St} {H':Hp} {v:V} {u:Value},Inv (Bz CX P w K mg base N qual scope f cdv A outer s H E) [] σ' H' s'→RelV v u→Q v H'→CE outer P w H s Q u s':=
  fun {σ' H' v u} J rv q=>⟨v,H',J.os,J.bare,J.base,J.hok,rv,q⟩
 cases fl with
 |ret u=>
  obtain⟨v,σ',H',J,rv,q⟩:=hs
  exact fin J rv q
 |next=>
  obtain⟨σ',H',J,q⟩:=hs
  exact fin (v:=V.non) (u:=Value.none) J rfl q
 |brk=>
  obtain⟨_,_,_,q⟩:=hs
  exact False.elim q
 |cont=>
  obtain⟨_,_,_,q⟩:=hs
  exact False.elim q

section
variable{X:Cx}{CX:CXT}{k:Nat}{f C:Addr}{fd:FuncData}{ps:List Str}{sp:Sp}{dvs:List V}{ds:List Value}{E:XK}{x m:Str}{p pos apos:Pos}{e o:Expr}{es:List Expr}{ta:TE}{t:TA}
end
end L2
namespace D3
open PySem PySem.Spec
open PyProof.Rows hiding St
open L2 hiding St
structure LamAt(K:PySem.W.Frag)(outer:List Env)(s:Shared)(H:Hp)(f:Addr)(q:Str)(params:Arguments)(body:Expr)(scope:Scope)(clos:List (Str×Addr))(pm:Value)(c:Addr)(ctv:Value)(N:List Str)(σ:L2.St):Prop where
 fn:H f=some (.frz (lamO q params body scope clos pm (.ref c) ctv) topO)
 code:∃oc u,H c=some (.frz oc u)∧CodeIs oc q
 sc:LamScope scope
 bind:bindArgs (PySem.W.kla_fn "<lambda>" q params body scope clos pm (.ref c) ctv) ⟨[],[]⟩=pure []
 cl:∀x c',clos.lookup x=some c'→(∃v,s.heap.IsCell c' v)∧H c'=none∧c' ∉ frs outer
 inj:∀x y c',clos.lookup x=some c'→clos.lookup y=some c'→x=y
 has:∀x,scope.names.lookup x=some .free→∃c',clos.lookup x=some c'
 val:∀(i:Nat) (x:Str) (v:V),N[i]? = some x→σ[i]? = some (some v)→∃c' u,scope.names.lookup x=some .free∧clos.lookup x=some c'∧s.heap.IsCell c' (some u)∧RelV v u
 len:σ.length=N.length
section
variable{X:Cx}{E:XK}{f c:Addr}{q:Str}{params:Arguments}{body:Expr}{scope:Scope}{clos:List (Str×Addr)}{pm ctv:Value}{N:List Str}{σ3:L2.St}{k i:Nat}{x:Str}{p pos:Pos}{t3:TE}
theorem O6(hex:X.ex=[])(L:LamAt X.K X.outer X.s₀ X.H₀ f q params body scope clos pm c ctv N σ3)(hr:Room k X.A)(hx:Cd (CX1 X.prog X.w) X E)(hb:∀s H,PE (Do (CX1 X.prog X.w) X.prog X.w X.K X.mg X.base N q scope f (.ref c) clos X.A X.stack s H E) body t3)(hN:X.N[i]? = some x:=by rfl)(hv:Vis X.env.scope x:=by first|exact Or.inl rfl|exact Or.inr (Or.inl rfl)|exact Or.inr (Or.inr rfl))(hd:(x == ("__debug__" : Str))=false:=by decide)(hcd:(x == ("__classdict__" : Str))=false:=by decide) :
  PE X (.Call (.Name x p) [] [] pos) (fun σ H Q=>σ[i]? = some (some (.ref f))∧t3 σ3 H Q):=by
 intro pins s σ H Q I ⟨hσ,h⟩
 refine wpAny_Call_Name_kw (thn (Kc hN hv hd hcd pins s σ H (fun v H1=>v=.ref f∧H1=H) I ⟨_,hσ,rfl,rfl⟩) fun u s1 ⟨v,H1,I1,r,e1,e2⟩=>?_)
 subst e1 e2
 obtain rfl:u=Value.ref f:=r
 have no:∀b:Addr,b ∉ X.ex:=fun b=>by rw[hex];simp
 have fo:s1.heap.get? f=some (lamO q params body scope clos pm (.ref c) ctv):=(I1.hok f _ (I1.base.frzs _ _ _ L.fn)).1
 obtain⟨oc,uc,hcH,vs,t,hd1,hd2⟩:=L.code
 have co:s1.heap.get? c=some oc:=(I1.hok c _ (I1.base.frzs _ _ _ hcH)).1
 have cellk:∀x c',clos.lookup x=some c'→∀v,X.s₀.heap.IsCell c' v→s1.heap.IsCell c' v:=fun x c' hx v ⟨o,a1,a2⟩=>⟨o,I1.base.keep _ _ a1 (L.cl x c' hx).2.1 (L.cl x c' hx).2.2 (no _),a2⟩
 refine PySem.W.callWith_F0 ⟨_,_,_,_,fo⟩ (wpAny_call (codeAny_mono (Q8 (E:=E) (t:=t3) (Q:=Q) (N:=N) (σ:=σ3) hr I1.env0 fo ⟨c,oc,vs,t,rfl,co,hd1,hd2⟩ L.sc L.bind (fun x c' hx=>?_) L.inj L.has (fun i x v h1 h2=>?_) L.len (hb s1 H1) h) fun r s' hq=>?_))
 ·obtain⟨⟨v,o,a1,a2⟩,b2,b3⟩:=L.cl x c' hx
  exact⟨⟨v,cellk x c' hx v ⟨o,a1,a2⟩⟩,I1.base.free _ _ a1 b2 (no _)⟩
 ·obtain⟨c',u,a1,a2,a3,a4⟩:=L.val i x v h1 h2
  exact⟨c',u,a1,a2,cellk x c' a2 _ a3,a4⟩
 ·cases r with
  |error e=>exact hx pins σ H1 s1 e s' I1 hq
  |ok fl=>
   cases fl with
   |ret u=>exact I1.after hq
   |next=>exact False.elim hq
   |brk=>exact False.elim hq
   |cont=>exact False.elim hq
end
section
variable{X:Cx}{CX:CXT}{k:Nat}{f:Addr}{fd:FuncData}{ps:List Str}{sp:List Env→Shared→Sp}{E:XK}{x:Str}{p pos:Pos}{e:Expr}{es:List Expr}{t:TA}
theorem Iv(F:FnS X.prog X.w X.K X.mg X.base CX k f fd ps sp)(hr:Room k X.A)(hm:X.mg x=some (.ref f))(hk:PySem.W.keepIn X.K (.ref f)=true)(hb:Binds X.K fd ps [])(hx:Cd CX X E)(ha:PA X (e::es) t)(hg:Gl X x:=by rfl)(hdb:(x == ("__debug__" : Str))=false:=by decide)(he:starEach (e::es) X.env=(false,eval e X.env)::starEach es X.env:=by rfl)(hpl:(backTo pos (starEach es X.env)).any (·.1)=false:=by rfl) :
  PE X (.Call (.Name x p) (e::es) [] pos) (fun σ H Q=>t σ H fun vs H1=>∀pins s1,Inv X pins σ H1 s1→sp X.stack s1 vs H1 Q E):=by
 intro pins s σ H Q I h
 refine wpAny_Call_Name_kw (Dr I hg hm ?_ hdb)
 refine PySem.W.callWith_K (h₀:=X.base) I.ok.mod.kin hk (thn (ha pos pins s σ H _ I h) fun us s1 ⟨vs,H1,I1,r,q⟩=>⟨I1.kIn,?_⟩) he hpl
 have q:=q pins s1 I1
 have hl:us.length=ps.length:=by rw[←r.length];exact F.len _ _ _ _ _ _ q
 have bd:=hb s1 us I1.kIn (by rw[List.append_nil];exact hl)
 rw[List.append_nil] at bd
 refine wpAny_call (codeAny_mono (F.run X.A X.stack s1 H1 ⟨us,[]⟩ us vs Q E hr I1.env0 bd r q) fun r s' hq=>?_)
 cases r with
 |error e=>exact hx pins σ H1 s1 e s' I1 hq
 |ok fl=>
  cases fl with
  |ret u=>exact I1.after hq
  |next=>exact False.elim hq
  |brk=>exact False.elim hq
  |cont=>exact False.elim hq
end
section
variable{P:Program}{w:World}{K:W.Frag}{mg:Str→Option Value}{base:Heap}
end
def AllP{α:Type}(f:α→Prop):List α→Prop
 |[]=>True
 |a::l=>f a∧AllP f l
theorem AllP.get{α:Type}{f:α→Prop}:∀{l:List α},AllP f l→∀a∈l,f a
 |a::l,h,b,hb=>by
  rcases List.mem_cons.mp hb with rfl|hb
  ·exact h.1
  ·exact AllP.get h.2 b hb
def excIs(C:Addr)(H:Hp)(a:Addr):Prop:=∃o u,H a=some (.frz o u)∧Nt o C
def whX(K:PySem.W.Frag)(M:Addr)(wD:DSp)(Q:DK):DX:=fun c G=>∃C x tl,c=.ref C∧ExcK K x C∧mroK K C=some (.ref C::tl)∧(Value.ref C::tl).contains (.ref M)=true∧∀a,G a=none→wD [.ref a] (Ab G a (.any (excIs C))) Q noX
section
variable{X:Cx}
end
structure ExcCl(K:PySem.W.Frag)(C:Addr):Prop where
 ga:PySem.W.findIn K (.ref C) "__getattribute__" = some (some (.builtin "BaseException.__getattribute__"))
 gt:PySem.W.findIn K (.ref C) "__getattr__" = some none
 cl:PySem.W.findIn K (.ref C) "__class__" = some (some (.builtin "object.__class__"))
 ob:PySem.W.mroIn K C (.type "object")=some true
 be:PySem.W.mroIn K C (.type "BaseException")=some true
theorem Oq{K:W.Frag}:PySem.W.specialIn K (.builtin "object.__class__") "__get__" = some (some (.builtin "getset_descriptor.__get__")):=by kernel_rfl
theorem Op{K:W.Frag}:PySem.W.takesIn K (.builtin "object.__class__")=some true:=by kernel_rfl
def Gg(C a:Addr)(h:Heap):Prop:=∃o,h.get? a=some o∧o.cls=.ref C
section
variable{P:Program}{w:World}{A:Around}{E:Value→Shared→Prop}{K:W.Frag}{C a:Addr}{s:Shared}
theorem C1{M:Model}{h:Heap}(p:Gg C a h):PySem.W.Looks M h (typeOf (.ref a)) (.ref C):=by
 obtain⟨o,e,c⟩:=p
 exact c ▸ (PySem.W.Looks.ld e).andThen .now
theorem Re{R:Result→Shared→Prop}(X:K.In s.heap)(I:Gg C a s.heap)(O:ExcCl K C)(h:R (.ok (.ret (.ref C))) s) :
  codeAny (model P w) A (.call (.builtin "getset_descriptor.__get__") ⟨[.builtin "object.__class__",.ref a,.ref C],[]⟩) R s:=by
 obtain⟨h1,h2,h3,h4,h5⟩:=s
 have l0:=C1 (M:=model P w) I
 have l1:=PySem.W.looks_mroIn (M:=model P w) X O.ob
 have sl:=PySem.W.KF.slot_gs
 refine codeAny_call_builtin sl.plain PySem.W.KF.entry_gs (sl.check _ _ _ _ _ _ _ _ PySem.W.KF.type_class (PySem.W.KF.args_gs _ _ _) ?_)
 unfold Builtin.«getset_descriptor.__get__» Builtin.Getset_descriptor.descrGet
 rw[PySem.W.dga_obj];refine wpAny_bind (wpAny_pure ?_)
 unfold Builtin.Getset_descriptor.descrGetter Builtin.Getset_descriptor.descrCheckInstance
 unfold Builtin.Getset_descriptor.descrNameAndClass isInstance
 simp only[PySem.W.KF.owner_class]
 repeat lk
 refine⟨Code.quiet_builtin _ (by decide +kernel),codeAny_builtin PySem.W.KF.entry_class ?_⟩
 unfold Builtin.«object.__class__» shownTypeOf;repeat lk
 exact h
theorem Pn{M:Model}(X:K.In s.heap)(O:ExcCl K C):PySem.W.Looks M s.heap (Builtin.ObjectAttr.find (.ref a) (.ref C) "__class__") (.bind (.builtin "getset_descriptor.__get__") (.builtin "object.__class__")):=by
 have l1:=PySem.W.looks_findIn (M:=M) X O.cl
 have l2:=PySem.W.looks_specialIn (M:=M) X (Oq (K:=K))
 have l3:=PySem.W.looks_takesIn (M:=M) X (Op (K:=K))
 refine l1.andThen (PySem.W.Looks.andThen (f:=_) (show PySem.W.Looks M s.heap (Builtin.ObjectAttr.getOf (some (.builtin "object.__class__"))) _ from l2) ?_)
 refine PySem.W.Looks.andThen (a:=some (.builtin "getset_descriptor.__get__",.builtin "object.__class__")) ?_ (PySem.W.Looks.tag .now)
 exact l3.andThen .now
theorem Po{tk:Tok}{Q:Fin→Shared→Prop}(X:K.In s.heap)(I:Gg C a s.heap)(O:ExcCl K C)(h:Q (.done (.ret (.ref C))) s) :
  wpAny (model P w) A (Builtin.«object.__getattribute__» ⟨[.ref a,.str "__class__" tk],[]⟩) Q E s:=by
 obtain⟨h1,h2,h3,h4,h5⟩:=s
 have l0:=C1 (M:=model P w) I
 have l1:=Pn (M:=model P w) (a:=a) (s:=⟨h1,h2,h3,h4,h5⟩) X O
 refine wpAny_bind (wpAny_pure (wpAny_bind (wpAny_pure (wpAny_bind (l0.at (wpAny_bind (l1.at ?_)))))))
 show wpAny _ _ (holding [.builtin "object.__class__"] (call (.builtin "getset_descriptor.__get__") [.builtin "object.__class__",.ref a,.ref C]) >>= ret) _ _ _
 exact wpAny_bind (wpAny_holding (wpAny_call (Re (s:=⟨h1,h2,h3,h4,h5⟩) X I O (wpAny_pure h))))
theorem Mw{M:Model}{nm:Value}{Q:Unit→Shared→Prop}(X:K.In s.heap)(I:Gg C a s.heap)(O:ExcCl K C)(h:Q () s):wpAny M A (checkBuiltinCall "BaseException.__getattribute__" ⟨[.ref a,nm],[]⟩) Q E s:=by
 obtain⟨h1,h2,h3,h4,h5⟩:=s
 have l0:=C1 (M:=M) I
 have l1:=PySem.W.looks_mroIn (M:=M) X O.be
 have ha:=F.args_bexc_ga (.ref a) nm
 have hk:builtinKind "BaseException.__getattribute__" = some .slot:=by decide +kernel
 have hs:splitId "BaseException.__getattribute__" = some ("BaseException", "__getattribute__"):=by decide +kernel
 simp only[checkBuiltinCall,hk,hs]
 refine wpAny_bind (PySem.W.Looks.at (r:=true) (l0.andThen l1) ?_)
 rw[if_neg (by decide)]
 unfold argsOk at ha
 cases q:Manifest.signature? "BaseException.__getattribute__" with
 |none=>exact wpAny_pure h
 |some sig=>
  simp only[q] at ha ⊢
  rw[ha]
  exact wpAny_pure h
theorem Rf{Q:Option Value→Shared→Prop}(X:K.In s.heap)(I:Gg C a s.heap)(O:ExcCl K C)(h:Q (some (.ref C)) { s with toks:=s.toks+1 }):wpAny (model P w) A (getAttr? (.ref a) "__class__") Q E s:=by
 obtain⟨h1,h2,h3,h4,h5⟩:=s
 have l0:=C1 (M:=model P w) I
 have l1:=PySem.W.looks_findIn (M:=model P w) X O.ga
 have l2:=PySem.W.looks_findIn (M:=model P w) X O.gt
 unfold getAttr? getAttrBy?
 refine wpAny_bind (wpAny_mkText (wpAny_bind (wpAny_attempt (wpAny_holding (wpAny_bind (l0.at (wpAny_bind (l1.at ?_))))))))
 have n:(onTheHeap (Value.ref C)&&Value.builtin "BaseException.__getattribute__" == Value.builtin "object.__getattribute__")=false:=by
  rw[show(Value.builtin "BaseException.__getattribute__" == Value.builtin "object.__getattribute__")=false from by decide +kernel,Bool.and_false]
 show wpAny _ _ (if (onTheHeap (Value.ref C)&&Value.builtin "BaseException.__getattribute__" == Value.builtin "object.__getattribute__")=true then _ else _) _ _ _
 rw[n,if_neg (by decide)]
 unfold getAttrByItsOwn
 refine wpAny_bind (l2.at (wpAny_bind (wpAny_attempt (wpAny_holding ?_))))
 show wpAny _ _ (boundAndCalled _ _ _) _ _ _
 unfold boundAndCalled
 rw[F.excAttr_ValueError.ga.bind]
 refine wpAny_bind (wpAny_pure (wpAny_call (codeAny_call_builtin F.excAttr_ValueError.ga.plain F.entry_bexc_ga (Mw (s:=⟨h1,h2,h3,h4+1,h5⟩) X I O (Po (s:=⟨h1,h2,h3,h4+1,h5⟩) X I O ?_)))))
 show wpAny _ _ (handedOut (.ref C)) _ _ _
 exact PySem.W.handed_on rfl (wpAny_pure h)
theorem Ph(O:ExcCl K C):PySem.W.KitX K (.ref a) (.ref C) (Gg C a):=by
 obtain⟨cd,hc,_⟩:=Option.bind_eq_some_iff.mp O.ob
 have lk:∃b1 b2 b3,K.lookup C=some ⟨b1,b2,.cls cd,b3⟩:=by
  unfold PySem.W.clsIn at hc
  split at hc
  ·rename_i b1 b2 b3 b4 ho;cases hc;exact⟨_,_,_,ho⟩
  ·cases hc
 obtain⟨b1,b2,b3,lk⟩:=lk
 refine⟨fun M h X p=>C1 p,fun M h X p A Q E s k q=>?_,fun h tp dd its n sl X e=>Bool.eq_false_iff.mpr fun q=>?_,fun X p k=>Rf X p O k⟩
 ·unfold isType loadHead
  exact wpAny_bind (wpAny_loadPart (k _ _ (X _ _ lk)) (wpAny_pure q))
 ·cases beq_iff_eq.mp q
  rw[X _ _ lk] at e;cases e
end
structure OwnK(K:PySem.W.Frag)(D:Addr):Prop where
 ty:PySem.W.typeIn K (.ref D)=some (.type "type")
 ob:PySem.W.mroIn K D (.type "object")=some true
section
variable{X:Cx}
theorem Oc{pins:List (Addr×Obj)}{σ:List (Option V)}{H:Hp}{s:Shared}{Q:Value→Shared→Prop}{E:Value→Shared→Prop}{a C:Addr}{c:Value}{b:Bool}(I:Inv X pins σ H s)(O:ExcCl X.K C)(ha:excIs C H a)(hk:PySem.W.kitOne X.K (.ref C) c=some b)(h:∀tk,Q (.bool b) { s with toks:=tk }) :
  wpAny (model X.prog X.w) X.A (call (.builtin "isinstance") [.ref a,c]) Q E s:=by
 obtain⟨o,u,e,ho⟩:=ha
 exact PySem.W.kia_one (Ph O) I.kIn ⟨o,(I.hok a _ e).1,ho.1⟩ hk (by intro z;cases z) h
def Ur(K:PySem.W.Frag):DRC:=fun ds G Q=>∃a C D b,ds=[.ref a,.ref D]∧G a=some (.any (excIs C))∧ExcCl K C∧OwnK K D∧PySem.W.mroIn K C (.ref D)=some b∧(C=D→b=true)∧Q (.bl b) G
def rIsV(K:PySem.W.Frag):DRC:=fun ds G Q=>∃a C b,ds=[.ref a,.ty "ValueError"]∧G a=some (.any (excIs C))∧ExcCl K C∧PySem.W.mroIn K C (.type "ValueError")=some b∧Q (.bl b) G
theorem c_isexc:QC X (.builtin "isinstance") (Ur X.K):=by
 intro pins s σ H xs us Q I r ⟨ds,G,Q',dv,rg,⟨a,C,D,b,e,hG,O,hD,hm,hs,q⟩,cl⟩
 subst e
 obtain⟨v,w,rfl,d1,d2⟩:=dv.two
 cases d1;cases d2
 obtain⟨u1,u2,rfl,r1,r2⟩:=Ga r
 cases r1;cases r2
 have hk:PySem.W.kitOne X.K (.ref C) (.ref D)=some b:=by
  unfold PySem.W.kitOne
  split
  ·rename_i z
   rw[hs (Value.ref.inj (beq_iff_eq.mp z))]
  ·obtain⟨cd,hc,_⟩:=Option.bind_eq_some_iff.mp hD.ob
   show(if _ then _ else _)=_
   rw[if_pos (by rw[hD.ty,hc];rfl)]
   exact hm
 refine Oc I O ((rg a _ hG).2 H (Ext.refl H)) hk fun tk=>?_
 exact⟨.bl b,H,I.tok _,rfl,cl _ G q H (Ext.refl H) rg _ (.bl _)⟩
theorem Q4:PySem.W.kitMeta "ValueError" = true:=by decide +kernel
theorem c_isexcV:QC X (.builtin "isinstance") (rIsV X.K):=by
 intro pins s σ H xs us Q I r ⟨ds,G,Q',dv,rg,⟨a,C,b,e,hG,O,hm,q⟩,cl⟩
 subst e
 obtain⟨v,w,rfl,d1,d2⟩:=dv.two
 cases d1;cases d2
 obtain⟨u1,u2,rfl,r1,r2⟩:=Ga r
 cases r1;cases r2
 have hk:PySem.W.kitOne X.K (.ref C) (.type "ValueError")=some b:=by
  unfold PySem.W.kitOne
  rw[if_neg (fun z=>by cases beq_iff_eq.mp z)]
  show(if PySem.W.kitMeta "ValueError" = true then _ else none)=_
  rw[if_pos Q4]
  exact hm
 refine Oc I O ((rg a _ hG).2 H (Ext.refl H)) hk fun tk=>?_
 exact⟨.bl b,H,I.tok _,rfl,cl _ G q H (Ext.refl H) rg _ (.bl _)⟩
end
def isT:Value→Bool
 |.bool b=>b
 |_=>false
theorem Hd:∀{bs:List Bool} {us:List Value},Vals (bs.map V.bl) us→us=bs.map Value.bool
 |[],_,.nil=>rfl
 |b::bs,_,.cons h t=>by
  have e:=Hd t
  cases h
  rw[e];rfl
theorem Ho{K:W.Frag}{H:Hp}:∀{bs:List Bool} {xs:List V},DVs K H (bs.map D.bl) xs→xs=bs.map V.bl
 |[],_,.nil=>rfl
 |b::bs,_,.cons h t=>by
  have e:=Ho t
  cases h
  rw[e];rfl
theorem Vu(bs:List Bool):(bs.map Value.bool).countP isT=bs.count true:=by
 induction bs with
 |nil=>rfl
 |cons b bs ih=>cases b<;>simp[List.countP_cons,isT,ih]
theorem Ux{A:Around}{s:Shared}{bs:List Bool}(y:Value)(h:y∈(bs.map Value.bool).toArray):PySem.SeqAt.EqAt A s y (.bool true) (isT y):=by
 have h:y∈bs.map Value.bool:=by simpa using h
 obtain⟨b,_,rfl⟩:=List.mem_map.mp h
 have z:=PySem.SeqAt.EqAt.bool_bool (A:=A) (s:=s) b true
 cases b<;>exact z
section
variable{X:Cx}{e:Expr}{ta:DTE}
theorem Mj:MtM X "list.count" (fun x vs H Q=>∃(l:Addr) (bs:List Bool),x=.ref l∧vs=[.bl true]∧H l=some (.lst (bs.map V.bl))∧Q (.int (bs.count true:Nat)) H):=by
 intro pins s σ H x vs v us Q I rx rv h
 obtain⟨l,bs,rfl,rfl,hH,q⟩:=h
 cases rx
 obtain⟨u,rfl,ru⟩:=rv.one
 cases ru
 obtain⟨z,its,n,r,hl,e⟩:=I.lstM hH
 obtain rfl:=Hd r
 refine call_meets PySem.F.slot_list_count ⟨_,e,rfl⟩ PySem.F.entry_list_count (PySem.F.args_list_count_2 _ _) (PySem.SeqAt.list_countAt l _ n _ _ (.bool true) isT) ⟨e,fun y hy=>Ux y hy,?_⟩
 rw[Vu]
 exact⟨.int _,H,I.tok _,⟨_,rfl⟩,q⟩
theorem Mi:MtM X "list.index" (fun x vs H Q=>∃(l:Addr) (bs:List Bool) (j:Nat),x=.ref l∧vs=[.bl true]∧H l=some (.lst (bs.map V.bl))∧bs[j]? = some true∧(∀m,m<j→bs[m]? = some false)∧Q (.int (j:Nat)) H):=by
 intro pins s σ H x vs v us Q I rx rv h
 obtain⟨l,bs,j,rfl,rfl,hH,hj,hno,q⟩:=h
 cases rx
 obtain⟨u,rfl,ru⟩:=rv.one
 cases ru
 obtain⟨z,its,n,r,hl,e⟩:=I.lstM hH
 obtain rfl:=Hd r
 have jl:j<bs.length:=by
  rcases Nat.lt_or_ge j bs.length with q|q
  ·exact q
  ·rw[List.getElem?_eq_none q] at hj;cases hj
 have sz:bs.length≤sizeLine:=by simpa using z
 rw[sizeLine_eq] at sz
 refine call_meets PySem.F.slot_list_index ⟨_,e,rfl⟩ PySem.F.entry_list_index (PySem.F.args_list_index_2 _ _) (PySem.SeqAt.list_indexAt l _ n _ _ (.bool true) isT j (by simpa using jl) (by omega) ?_ fun m hm hlt=>?_) ⟨e,fun y hy=>Ux y hy,?_⟩
 ·have:bs[j]=true:=by rw[List.getElem?_eq_getElem jl] at hj;exact Option.some.inj hj
  simp[isT,this]
 ·have ml:m<bs.length:=by omega
  have:=hno m hlt
  rw[List.getElem?_eq_getElem ml] at this
  have:bs[m]=false:=Option.some.inj this
  simp[isT,this]
 ·exact⟨.int _,H,I.tok _,⟨_,rfl⟩,q⟩
def Uv(to ta:DTE):DTE:=fun σ G Q=>to σ G fun x G1=>∃p,x=.ref p∧(∃ds,G1 p=some (.lst ds))∧ta σ G1 fun y G2=>y=.bl true∧∃bs:List Bool,G2 p=some (.lst (bs.map D.bl))∧Q (.int (bs.count true:Nat)) G2
def Uu(to ta:DTE):DTE:=fun σ G Q=>to σ G fun x G1=>∃p,x=.ref p∧(∃ds,G1 p=some (.lst ds))∧ta σ G1 fun y G2=>y=.bl true∧∃(bs:List Bool) (j:Nat),G2 p=some (.lst (bs.map D.bl))∧bs[j]? = some true∧(∀m,m<j→bs[m]? = some false)∧Q (.int j) G2
theorem S0{o:Expr}{to:DTE}{apos cpos:Pos}(ho:QE X o to)(ha:QE X e ta)(hbase:attributeBase o "count" X.env (eval o X.env)=eval o X.env:=by rfl)(hfew:((backTo cpos (starEach [e] X.env)).all (fun x=>!x.1)&&(backToKw cpos (keywordEach [] X.env)).all (fun x=>x.1.isSome)
   && decide (([e]:List Expr).length+([]:List Keyword).length+(if ([]:List Keyword).isEmpty then 0 else 1)<30))=true:=by rfl)(hline:(apos.endLine == cpos.line)=true:=by rfl)(hs:starEach [e] X.env=(false,eval e X.env)::starEach [] X.env:=by rfl)(hplain:(backTo cpos (starEach [] X.env)).any (·.1)=false:=by rfl) :
  QE X (.Call (.Attribute o "count" apos) [e] [] cpos) (Uv to ta):=
 (Nl PySem.F.plainAttrs_list PySem.F.slot_list_count PySem.F.type_list_count Mj ho (Et ha qa_nil hs) hbase hfew hline hs hplain).imp fun σ H Q ⟨σD,G,Q',rs,rg,h,cl⟩=>by
 refine⟨σD,G,_,rs,rg,h,fun d G1 ⟨p,ep,⟨ds,eg⟩,h1⟩ H1 x1 rg1 v dv=>?_⟩
 subst ep;cases dv
 obtain⟨xs,ex,r⟩:=rg1 p _ eg
 refine⟨.inl ⟨rfl,xs,.inl (.inl ex)⟩,σD,G1,fun ds' G2=>∃y,ds'=[y]∧y=.bl true∧∃bs:List Bool,G2 p=some (.lst (bs.map D.bl))∧Q' (.int (bs.count true:Nat)) G2,rs.ext x1,rg1,?_,?_⟩
 ·show ta σD G1 fun x G1=>Ao σD G1 fun xs G2=>_
  exact cast (by congr 1;funext y G2;simp[Ao]) h1
 ·rintro ds' G2 ⟨y,rfl,rfl,bs,eg2,q⟩ H2 x2 rg2 vs dvs
  obtain⟨v,rfl,dv⟩:=dvs.one
  cases dv
  obtain⟨xs2,ex2,r2⟩:=rg2 p _ eg2
  rw[Ho r2] at ex2
  exact⟨p,bs,rfl,rfl,ex2,cl _ _ q _ (x1.trans x2) rg2 _ (.int _)⟩
theorem Sx{o:Expr}{to:DTE}{apos cpos:Pos}(ho:QE X o to)(ha:QE X e ta)(hbase:attributeBase o "index" X.env (eval o X.env)=eval o X.env:=by rfl)(hfew:((backTo cpos (starEach [e] X.env)).all (fun x=>!x.1)&&(backToKw cpos (keywordEach [] X.env)).all (fun x=>x.1.isSome)
   && decide (([e]:List Expr).length+([]:List Keyword).length+(if ([]:List Keyword).isEmpty then 0 else 1)<30))=true:=by rfl)(hline:(apos.endLine == cpos.line)=true:=by rfl)(hs:starEach [e] X.env=(false,eval e X.env)::starEach [] X.env:=by rfl)(hplain:(backTo cpos (starEach [] X.env)).any (·.1)=false:=by rfl) :
  QE X (.Call (.Attribute o "index" apos) [e] [] cpos) (Uu to ta):=
 (Nl PySem.F.plainAttrs_list PySem.F.slot_list_index PySem.F.type_list_index Mi ho (Et ha qa_nil hs) hbase hfew hline hs hplain).imp fun σ H Q ⟨σD,G,Q',rs,rg,h,cl⟩=>by
 refine⟨σD,G,_,rs,rg,h,fun d G1 ⟨p,ep,⟨ds,eg⟩,h1⟩ H1 x1 rg1 v dv=>?_⟩
 subst ep;cases dv
 obtain⟨xs,ex,r⟩:=rg1 p _ eg
 refine⟨.inl ⟨rfl,xs,.inl (.inl ex)⟩,σD,G1,fun ds' G2=>∃y,ds'=[y]∧y=.bl true∧∃(bs:List Bool) (j:Nat),G2 p=some (.lst (bs.map D.bl))∧bs[j]? = some true∧(∀m,m<j→bs[m]? = some false)∧Q' (.int j) G2,rs.ext x1,rg1,?_,?_⟩
 ·show ta σD G1 fun x G1=>Ao σD G1 fun xs G2=>_
  exact cast (by congr 1;funext y G2;simp[Ao]) h1
 ·rintro ds' G2 ⟨y,rfl,rfl,bs,j,eg2,hj,hno,q⟩ H2 x2 rg2 vs dvs
  obtain⟨v,rfl,dv⟩:=dvs.one
  cases dv
  obtain⟨xs2,ex2,r2⟩:=rg2 p _ eg2
  rw[Ho r2] at ex2
  exact⟨p,bs,j,rfl,rfl,ex2,hj,hno,cl _ _ q _ (x1.trans x2) rg2 _ (.int _)⟩
end
section
variable{P:Program}{w:World}{K:W.Frag}{mg:Str→Option Value}{base:Heap}
end
section
variable{P:Program}{w:World}{A:Around}{E:Value→Shared→Prop}{s:Shared}{t:Addr}{items:Array Value}
end
def IsRv(h:Heap)(a t:Addr)(i:Int):Prop:=∃o,h.get? a=some o∧o.cls=.type "reversed"∧o.data=.fields #[.ref t,rawInt i]
section
variable{P:Program}{w:World}{A:Around}{E:Value→Shared→Prop}{s:Shared}{a t:Addr}{items:Array Value}
theorem IsRv.at{h h':Heap}{i:Int}(x:IsRv h a t i)(k:∀o,h.get? a=some o→h'.get? a=some o):IsRv h' a t i:=let ⟨o,ho,hc⟩:=x;⟨o,k o ho,hc⟩
end
section
variable{X:Cx}{tg e:Expr}
end
section
variable{X:Cx}{a:Expr}{body:List Stmt}{pos:Pos}
end
end D3
namespace D3
open PySem PySem.Spec
open PyProof.Rows hiding St
open L2 hiding St
open PySem.W (kdl_call kdl_dict)
section
variable{P:Program}{w:World}{A:Around}{E:Value→Shared→Prop}{s:Shared}
end
section
variable{X:Cx}{o e:Expr}{to:DTE}{apos cpos pos p:Pos}
end
end D3
namespace D3
open PySem PySem.Spec
open PyProof.Rows
def P5(rk:Keyed→Int)(arr:Array Keyed)(i:Nat):Int:=rk (arr.getD i (.none,.none))
section
variable{P:Program}{w:World}{A:Around}{E:Value→Shared→Prop}{s:Shared}{kd:SortKind}{ok:Keyed→Prop}{rk:Keyed→Int}
end
end D3
namespace D3
section
variable{α:Type}{rk:α→Int}
def Up(rk:α→Int)(l:List α):Prop:=l.Pairwise fun x y=>rk x≤rk y
def Merged(rk:α→Int)(la lb res:List α):Prop:=res.Perm (la++lb)∧Up rk res
theorem Qb{l:List α}(u:Up (fun x=>- rk x) l):Up rk l.reverse:=by
 rw[Up,List.pairwise_reverse]
 exact u.imp fun {a b} h=>by have h : - rk a≤- rk b:=h;omega
theorem Merged.back{la lb res:List α}(h:Merged (fun x=>- rk x) la.reverse lb.reverse res):Merged rk la lb res.reverse:=by
 refine⟨?_,Qb h.2⟩
 have:=h.1
 rw[←List.reverse_append] at this
 exact(List.reverse_perm res).trans (this.trans ((List.reverse_perm _).trans List.perm_append_comm))
end
end D3
namespace D3
open PySem PySem.Spec
open PyProof.Rows
section
variable{rk:Keyed→Int}{a b out:Array Keyed}{ia ib k:Nat}
theorem Nv{a:Array Keyed}{i:Nat}(h:i<a.size):P5 rk a i=rk (a.toList[i]'(by simpa using h)):=by
 unfold P5;simp[h]
end
structure Like(st st':SortSt):Prop where
 kind:kindOf st'=kindOf st
 arr:arrOf st'=arrOf st
 pend:pendingOf st'=pendingOf st
 failed:failedOf st'=failedOf st
theorem Like.trans{st st' st'':SortSt}(h:Like st st')(h2:Like st' st''):Like st st'':=⟨h2.kind.trans h.kind,h2.arr.trans h.arr,h2.pend.trans h.pend,h2.failed.trans h.failed⟩
section
variable{P:Program}{w:World}{A:Around}{E:Value→Shared→Prop}{s:Shared}{kd:SortKind}{ok:Keyed→Prop}{rk:Keyed→Int}
end
section
variable{rk:Keyed→Int}{a b out:Array Keyed}{na nb:Nat}
end
section
variable{P:Program}{w:World}{A:Around}{E:Value→Shared→Prop}{s:Shared}{kd:SortKind}{ok:Keyed→Prop}{rk:Keyed→Int}
end
structure Bas(rk:Keyed→Int)(kd:SortKind)(ok:Keyed→Prop)(a0:Array Keyed)(st:SortSt):Prop where
 kind:kindOf st=kd
 perm:(arrOf st).Perm a0
 fail:failedOf st=none
 okA:∀x∈a0,ok x
 dist:(a0.toList.map rk).Nodup
section
variable{P:Program}{w:World}{A:Around}{E:Value→Shared→Prop}{s:Shared}{kd:SortKind}{ok:Keyed→Prop}{rk:Keyed→Int}{a0:Array Keyed}{st:SortSt}
theorem Bas.ne(b:Bas rk kd ok a0 st){i j:Nat}(hij:i<j)(hj:j<(arrOf st).size):P5 rk (arrOf st) i≠P5 rk (arrOf st) j:=by
 have nd:((arrOf st).toList.map rk).Nodup:=((Array.perm_iff_toList_perm.mp b.perm).map rk).nodup_iff.mpr b.dist
 rw[Nv (show i<(arrOf st).size by omega),Nv hj]
 have:=List.pairwise_iff_getElem.mp nd i j (by simp;omega) (by simp;omega) hij
 simpa using this
structure Ahead(lo:Nat)(st st':SortSt):Prop where
 at_:∀i,i<lo→(arrOf st')[i]? = (arrOf st)[i]?
 pend:pendingOf st'=pendingOf st
theorem Ahead.trans{lo:Nat}{st st' st'':SortSt}(h:Ahead lo st st')(g:Ahead lo st' st''):Ahead lo st st'':=⟨fun i hi=>(g.at_ i hi).trans (h.at_ i hi),g.pend.trans h.pend⟩
end
section
variable{P:Program}{w:World}{A:Around}{E:Value→Shared→Prop}{s:Shared}{kd:SortKind}{ok:Keyed→Prop}{rk:Keyed→Int}{a0:Array Keyed}{st:SortSt}
end
section
variable{P:Program}{w:World}{A:Around}{E:Value→Shared→Prop}{s:Shared}{kd:SortKind}{ok:Keyed→Prop}{rk:Keyed→Int}{a0:Array Keyed}{st:SortSt}
end
section
variable{P:Program}{w:World}{A:Around}{E:Value→Shared→Prop}{s:Shared}{kd:SortKind}{ok:Keyed→Prop}{rk:Keyed→Int}
end
def RawD(h:Heap)(d:Addr)(es:Array DictEntry)(ep:Nat):Prop:=∃o,h.get? d=some o∧o.ExactDict∧o.data=.dict es ep
theorem RawD.keep{h g:Heap}{d:Addr}{es:Array DictEntry}{ep:Nat}(r:RawD h d es ep)(k:∀o,h.get? d=some o→g.get? d=some o):RawD g d es ep:=let ⟨o,a,b⟩:=r;⟨o,k o a,b⟩
theorem RawD.lt{h:Heap}{d:Addr}{es:Array DictEntry}{ep:Nat}(r:RawD h d es ep):d<h.objs.size:=let ⟨_,a,_⟩:=r;Heap.lt_size a
section
variable{P:Program}{w:World}{A:Around}{E:Value→Shared→Prop}{s:Shared}{d it:Addr}{es:Array DictEntry}{ep i:Nat}
theorem RawD.ty(r:RawD s.heap d es ep):s.TypeIs (.ref d) "dict":=let ⟨o,a,b,_⟩:=r;⟨o,a,b.1⟩
end
end D3
namespace D3
open PySem PySem.Spec
open PyProof.Rows hiding St
open L2 hiding St
section
variable{P:Program}{w:World}{A:Around}{E:Value→Shared→Prop}{s:Shared}{d:Addr}{es:Array DictEntry}{ep:Nat}
end
def Nr(k:Int×Int):List Key:=[.inl k.1,.inl k.2]
open Classical in
section
variable{X:Cx}
end
section
variable{X:Cx}{k:Nat}
end
theorem Pp{P:Program}{w:World}{A:Around}{E:Value→Shared→Prop}{s:Shared}{env:Env}{k v:Expr}{pos:Pos}{Q:Value→Shared→Prop}(h:wpAny (model P w) A (eval k env) (fun kv s1=>wpAny (model P w) A (eval v env) (fun vv s2=>wpAny (model P w) A (dictSet s.heap.objs.size kv vv) (fun _ s3=>Q (.ref s.heap.objs.size) s3) E s2) E s1) E
   { s with heap:=s.heap.push { cls:=.type "dict",data:=.dict #[] } }):wpAny (model P w) A (eval (.Dict [some k] [v] pos) env) Q E s:=by
 rw[arm_eval_Dict,zip_pairTrees [some k] [v] env pos rfl rfl,dictDisplay_pairs _ (by intro z;cases z) (by rw[pairTrees_length [some k] [v] env pos rfl rfl];exact(by decide:1<17))]
 refine wpAny_bind (wpAny_standAt (wpAny_bind ?_))
 unfold subDict
 refine wpAny_bind (wpAny_alloc (wpAny_bind (wpAny_holding ?_)))
 rw[if_pos (by rw[pairTrees_length [some k] [v] env pos rfl rfl];exact(by decide:1≤15))]
 refine wpAny_bind (pairTrees_cons_walk (wpAny_mono h (fun kv s1 h1=>wpAny_mono h1 (fun vv s2 h2=>pairTrees_nil_walk ?_) fun _ _ e=>e) fun _ _ e=>e))
 refine wpAny_holding (wpAny_bind ?_)
 rw[List.forIn_cons]
 refine wpAny_bind (wpAny_bind (wpAny_mono h2 (fun _ s3 h3=>wpAny_pure ?_) fun _ _ e=>e))
 dsimp only
 rw[List.forIn_nil]
 exact wpAny_pure (wpAny_pure (wpAny_pure (wpAny_pure h3)))
section
variable{X:Cx}{k:Nat}
end
section
variable{X:Cx}{pins:List (Addr×Obj)}{σ:L2.St}{H:Hp}{p a it:Addr}{ys:List V}{es:List (List Key×V)}
end
section
variable{X:Cx}{n:Nat}{a b:Expr}{ta tb:DTE}{pos:Pos}
end
section
variable{X:Cx}{n:Nat}
end
section
variable{X:Cx}{n:Nat}{a b:Expr}{pos:Pos}
def Sj(tk tv:TE):TE:=fun σ H Q=>∀p,H p=none→tk σ (upd H p (.dK [])) fun x H1=>tv σ H1 fun y H2=>H2 p=some (.dK [])∧∃k,x=kV k∧Q (.ref p) (upd H2 p (.dK [(k,y)]))
theorem O4{ta tb:TE}(ha:PE X a ta)(hb:PE X b tb):PE X (.Dict [some a] [b] pos) (Sj ta tb):=by
 intro pins s σ H Q I q
 have hn:=I.hok.fresh (Nat.le_refl s.heap.objs.size)
 have I1:=I.laid (a:=s.heap.objs.size) (o:=.dK []) (h':=s.heap.push { cls:=.type "dict",data:=.dict #[] }) (t':=s.toks) (fun _ _ q=>Heap.get?_push_of_some _ q) (Nat.le_refl _) (Jf s.heap I.big)
 refine Pp (thn (ha pins _ σ _ _ I1 (q _ hn)) fun u s1 ⟨x,H1,I2,rx,q1⟩=>thn (hb pins s1 σ H1 _ I2 q1) fun u2 s2 ⟨y,H2,I3,ry,e0,k,ex,q2⟩=>?_)
 subst ex
 exact Mx I3 e0 (by decide +kernel) rx ry fun s3 I4=>⟨.ref s.heap.objs.size,_,I4,rfl,q2⟩
def N6(tk tv:DTE):DTE:=fun σ G Q=>∀p,G p=none→tk σ (Ab G p (.dkk [])) fun x G1=>tv σ G1 fun y G2=>G2 p=some (.dkk [])∧∃k,P9 x=some k∧Q (.ref p) (Ab G2 p (.dkk [(k,y)]))
theorem Qk{ta tb:DTE}(ha:QE X a ta)(hb:QE X b tb):QE X (.Dict [some a] [b] pos) (N6 ta tb):=(O4 ha hb).imp fun σ H Q ⟨σD,G,Q',rs,rg,h,cl⟩=>by
 intro p hp
 refine⟨σD,_,_,rs.ext (Ext.fresh hp),rg.dkN hp,h p (rg.free hp),fun x G1 h1 H1 x1 rg1 v dv=>?_⟩
 refine⟨σD,G1,_,(rs.ext (Ext.fresh hp)).ext x1,rg1,h1,fun y G2 ⟨eg,k,ek,q⟩ H2 x2 rg2 v2 dv2=>?_⟩
 obtain⟨ks,eh,r⟩:=rg2 p _ eg
 cases r
 exact⟨eh,k,Q9 ek dv,cl _ _ q _ (((Ext.fresh hp).trans x1).trans (x2.trans (Ob eh))) (rg2.dkW eh (.cons ⟨rfl,dv2⟩ .nil)) _ (.ref p)⟩
end
mutual
inductive RepK (G:Gp):D→PyData→Prop where
 |non:RepK G .non .none
 |bl (b:Bool):RepK G (.bl b) (.bool b)
 |int (i:Int):RepK G (.int i) (.int i)
 |str (x:Str):RepK G (.str x) (.str x)
 |tup {ds:List D} {ps:List PyData} (r:RepKs G ds ps):RepK G (.tup ds) (.tuple ps)
 |lst {a:Addr} {ds:List D} {ps:List PyData} (e:G a=some (.lst ds)) (r:RepKs G ds ps):RepK G (.ref a) (.list ps)
 |dct0 {a:Addr} (e:G a=some (.dkk [])):RepK G (.ref a) (.dict [])
 |dct1 {a:Addr} {x:Str} {i:Int} (e:G a=some (.dkk [(.inr x,.int i)])):RepK G (.ref a) (.dict [(.str x,.int i)])
inductive RepKs (G:Gp):List D→List PyData→Prop where
 |nil:RepKs G [] []
 |cons {d:D} {p:PyData} {ds:List D} {ps:List PyData} (h:RepK G d p) (t:RepKs G ds ps):RepKs G (d::ds) (p::ps)
end
section
variable{P:Program}{w:World}{K:W.Frag}{H:Hp}{G:Gp}{h:Heap}
mutual
theorem Gh(rg:RelG K H G)(ok:HOk P w H h):∀{d:D} {p:PyData} {v:V} {u:Value},RepK G d p→DV K H d v→RelV v u→∃as,Reads h u p as∧∀b∈as,H b≠none
 |_,_,_,_,.non,dv,r=>by cases dv;cases r;exact⟨_,.none,by simp⟩
 |_,_,_,_,.bl b,dv,r=>by cases dv;cases r;exact⟨_,.bool b,by simp⟩
 |_,_,_,_,.int i,dv,r=>by cases dv;obtain⟨t,rfl⟩:=r;exact⟨_,.int i t,by simp⟩
 |_,_,_,_,.str x,dv,r=>by cases dv;obtain⟨t,rfl⟩:=r;exact⟨_,.str x t,by simp⟩
 |_,_,_,_,.tup rs,dv,r=>by
  cases dv with
  |@tup _ a xs e ds=>
   cases r
   obtain⟨_,its,rv,o,h1,h2,n,h3⟩:=(show ObjOk P w H h a (.tup xs) from ok a _ e)
   obtain⟨as,ra,hb⟩:=Co rg ok rs ds rv
   exact⟨_,.tuple h1 h2 h3 (by simpa using ra),hb⟩
 |_,_,_,_,@RepK.lst _ a _ _ e rs,dv,r=>by
  cases dv with
  |ref=>
   cases r
   obtain⟨xs,ex,ds⟩:=rg _ _ e
   obtain⟨_,its,n,rv,h1⟩:=(show ObjOk P w H h a (.lst xs) from ok a _ ex)
   obtain⟨as,ra,hb⟩:=Co rg ok rs ds rv
   refine⟨_,.list h1 rfl rfl (by simpa using ra),fun b hm=>?_⟩
   rcases List.mem_cons.mp hm with z|z
   ·subst z;rw[ex];simp
   ·exact hb b z
 |_,_,_,_,@RepK.dct0 _ a e,dv,r=>by
  cases dv with
  |ref=>
   cases r
   obtain⟨ks,ex,ds⟩:=rg _ _ e
   cases ds
   obtain⟨_,_,vs,rv,o,es,ep,h1,h2,h3,_,h4,_⟩:=(show ObjOk P w H h a (.dK []) from ok a _ ex)
   cases rv
   have he:es.toList=[]:=by
    revert h4
    cases es.toList with
    |nil=>intro _;rfl
    |cons x r=>intro h4;exact absurd h4 (by intro z;cases z)
   refine⟨_,.dict (kvs:=[]) h1 h2.1 h3 (by rw[he];exact .nil) (by rw[he];exact .nil),fun b hm=>?_⟩
   have:b=a:=by simpa using hm
   subst this
   rw[ex];simp
 |_,_,_,_,@RepK.dct1 _ a x i e,dv,r=>by
  cases dv with
  |ref=>
   cases r
   obtain⟨ks,ex,ds⟩:=rg _ _ e
   cases ds with
   |cons h0 t0=>
    cases t0
    rename_i q
    obtain⟨q1,q2⟩:=q
    obtain⟨rfl,dv⟩:=h0
    cases dv
    obtain⟨_,_,vs,rv,o,es,ep,h1,h2,h3,_,h4,_⟩:=(show ObjOk P w H h a (.dK [(.inr x,.int i)]) from ok a _ ex)
    obtain⟨k1,k2,rfl,rfl,t,rfl⟩:∃k1 k2,vs=[(k1,k2)]∧(Sum.inr x:Key)=k1∧RelV (.int i) k2:=by
     cases rv with
     |cons r0 t1=>cases t1;exact⟨_,_,rfl,r0.1,r0.2⟩
    generalize hes:es.toList=el at h4
    cases h4 with
    |cons g1 g2 g3=>
     cases g3
     have g1:Fa (Sum.inr x) _=true:=g1
     rcases Aq g1 with ⟨j,u,z,_⟩|⟨y,u,z,hk⟩
     ·cases z
     ·cases z
      refine⟨_,.dict (kvs:=[(.str x,.int i)]) h1 h2.1 h3 (by rw[hes];show ReadsAll h [DictEntry.key _] [PyData.str x] _;rw[hk];exact .cons (.str x u) .nil) (by rw[hes];show ReadsAll h [DictEntry.val _] [PyData.int i] _;rw[g2];exact .cons (.int i t) .nil),fun b hm=>?_⟩
      have:b=a:=by simpa using hm
      subst this
      rw[ex];simp
theorem Co(rg:RelG K H G)(ok:HOk P w H h):∀{ds:List D} {ps:List PyData} {vs:List V} {us:List Value},RepKs G ds ps→DVs K H ds vs→Vals vs us→∃as,ReadsAll h us ps as∧∀b∈as,H b≠none
 |_,_,_,_,.nil,dv,r=>by cases dv;cases r;exact⟨_,.nil,by simp⟩
 |_,_,_,_,.cons hd tl,dv,r=>by
  cases dv with
  |cons d1 d2=>
   cases r with
   |cons r1 r2=>
    obtain⟨as,a,ha⟩:=Gh rg ok hd d1 r1
    obtain⟨bs,b,hb⟩:=Co rg ok tl d2 r2
    exact⟨_,.cons a b,fun x hx=>(List.mem_append.mp hx).elim (ha x) (hb x)⟩
end
end
section
variable{X:Cx}{k:Nat}
theorem c_reprK(hr:Room k X.A):QC X (.builtin "repr") (fun ds G Q=>∃d,ds=[d]∧∃p,RepK G d p∧p.showable=true∧p.shown.length≤sizeLine∧p.depth≤99∧Q (.str p.shown) G):=by
 intro pins s σ H xs us Q I r ⟨ds,G,Q',dv,rg,⟨d,e,p,rp,h1,h2,h3,q⟩,cl⟩
 subst e
 obtain⟨v,rfl,d1⟩:=dv.one
 obtain⟨u,rfl,r1⟩:=Gb r
 have fin:∀(h':Heap) (tk:Nat) (t:Tok),(∀b o,s.heap.get? b=some o→h'.get? b=some o)→EP X pins σ Q (.str p.shown t) { s with heap:=h',toks:=tk }:=fun h' tk t kp=>
  ⟨.str p.shown,H,I.kept kp,⟨t,rfl⟩,cl _ G q H (Ext.refl H) rg _ (.str _)⟩
 obtain⟨as,ra,hfa⟩:=Gh rg I.hok rp d1 r1
 cases ra with
 |none=>exact PySem.P.repr_of_none (fin s.heap _ _ fun _ _ e=>e)
 |bool b=>exact PySem.P.repr_of_bool (fin s.heap _ _ fun _ _ e=>e)
 |int i t=>exact PySem.P.repr_of_int (of_decide_eq_true h1) (fin s.heap _ _ fun _ _ e=>e)
 |str x t=>exact PySem.P.repr_of_str (fin s.heap _ _ fun _ _ e=>e) h2
 |list a1 a2 a3 a4=>exact repr_of_reads' (.list a1 a2 a3 a4) h1 (fun _ z=>hfa _ z (He I)) hr.gd (by have:=hr.un;omega) (fun _ _ e=>e) (fun h' u tk kp=>fin h' tk u kp) h2
 |tuple a1 a2 a3 a4=>exact repr_of_reads' (.tuple a1 a2 a3 a4) h1 (fun _ z=>hfa _ z (He I)) hr.gd (by have:=hr.un;omega) (fun _ _ e=>e) (fun h' u tk kp=>fin h' tk u kp) h2
 |dict a1 a2 a3 a4 a5=>exact repr_of_reads' (.dict a1 a2 a3 a4 a5) h1 (fun _ z=>hfa _ z (He I)) hr.gd (by have:=hr.un;omega) (fun _ _ e=>e) (fun h' u tk kp=>fin h' tk u kp) h2

end
section
variable{P:Program}{w:World}{K:W.Frag}{mg:Str→Option Value}{base:Heap}
def Kf(P:Program)(w:World)(K:PySem.W.Frag)(mg:Str→Option Value)(base:Heap)(kr:Nat)(M:Addr)(told:Str)(spW:Sp):List Env→Shared→Sp:=fun outer s vs H Q _=>∃f q params body scope clos pm c ctv N σ3 t3 E1,vs=[V.ref f]∧LamAt K outer s H f q params body scope clos pm c ctv N σ3∧
 (∀A outer s H,Room kr A→PE (Do (CX1 P w) P w K mg base N q scope f (.ref c) clos A outer s H E1) body t3)∧t3 σ3 H (fun _ H'=>Q (.str told) H')∧
 ∀C H' a o,Ext H H'→E1 (.ref C) none H'→H' a=none→Nt o C→∃x tl,ExcK K x C∧mroK K C=some (.ref C::tl)∧(Value.ref C::tl).contains (.ref M)=true∧spW [.ref a] (upd H' a (.frz o topO)) Q E0
abbrev Jc(cn mn en told:Str)(j:Nat)(b0:Stmt)(suite:List Stmt)(p1 p2 p3 p4 p5 p6 p7 p8:Pos):List Stmt:=
 [.Try [.Expr (.Call (.Name cn p1) [] [] p2) p3] [.ExceptHandler (some (.Name mn p4)) (some en) (b0::suite) p5] [] [] p6,.Return (some (.Constant (.str told) j p7)) p8]
theorem Pa{k j:Nat}{f M:Addr}{name qual cn mn en told:Str}{L:List Str}{b0:Stmt}{suite:List Stmt}{ts:TS}{params:Arguments}{scope:Scope}{dV kV doc pm cdv ct oc:Value}{an od:Option Addr}{osl:Array (Option Value)}{spW:Sp}{tm:List Value}{p1 p2 p3 p4 p5 p6 p7 p8:Pos}(lk:K.lookup f=some ⟨oc,od,.func (PySem.W.fnOf name qual params (Jc cn mn en told j b0 suite p1 p2 p3 p4 p5 p6 p7 p8) scope dV kV doc pm an cdv ct),osl⟩)(hcd:PySem.W.codeIn K cdv qual=true)(S:FnScope (cn::en::L) [cn] scope)(hM:ExcK K mn M)(hmg:mg mn=some (.ref M))(hmM:mroK K M=some (.ref M::tm))(hB:tm.contains (.type "BaseException")=true)(hW:∀A outer s H E e xe' pn',Room k (A.deeper (envOfC qual scope s.heap.objs.size f cdv))→PSs { Bz (CX1 P w) P w K mg base (cn::en::L) qual scope f cdv A outer s H E with A:=(A.deeper (envOfC qual scope s.heap.objs.size f cdv)).mark (some (.ref e)),calm:=false,xe:=xe',pn:=pn' } (b0::suite) ts)(hT:∀H a Q,spW [.ref a] H Q E0→ts { nx:=fun _ _=>False,rt:=Q } ((List.replicate (L.length+2) none).set 1 (some (.ref a))) H){kr:Nat}(hk2:kr≤k)(hc1:scope.names.lookup cn=some .local)(hc2:scope.names.lookup en=some .local)(hgm:∀L cd,(envOfC qual scope L f cd).kindOf mn=some .globalImplicit)(d1:(cn == ("__debug__" : Str))=false)(d2:(cn == ("__classdict__" : Str))=false)(d3:(mn == ("__debug__" : Str))=false) :
  FnS P w K mg base (CX1 P w) (k+1) f (PySem.W.fnOf name qual params (Jc cn mn en told j b0 suite p1 p2 p3 p4 p5 p6 p7 p8) scope dV kV doc pm an cdv ct) [cn] (Kf P w K mg base kr M told spW):=by
 refine Ua lk hcd S (fun outer s vs H Q E ⟨_,_,_,_,_,_,_,_,_,_,_,_,_,e,_⟩=>by rw[e];rfl) fun A outer s H vs Q E hr ⟨fl,q,ps,body,sc,clos,pm',c,ctv,N,σ3,t3,E1,e,L3,hb,ht,hE⟩=>?_
 subst e
 have try_:=S4 (X:=Bz (CX1 P w) P w K mg base (cn::en::L) qual scope f cdv A outer s H E) (E:=E1) (M:=M) (mn:=mn) (n:=en) (i:=1) (np:=p4) (hpos:=p5) (pos:=p6) (b0:=b0) (suite:=suite)
  (body:=[.Expr (.Call (.Name cn p1) [] [] p2) p3]) (tm:=tm) rfl rfl rfl rfl S.nd rfl hc2 hmg hM hmM hB (fun xe' pn' hx=>Hi (Lg (O6 (i:=0) (x:=cn) (E:=E1) (t3:=t3) rfl L3 hr hx (fun s' H'=>hb _ _ s' H' (hr.mono hk2)) rfl (.inl hc1) d1 d2)))
  (fun e xe' pn'=>hW A outer s H E e xe' pn' hr) (hgm _ _) d3
 refine⟨_,Ir try_ (Hi (Ny N0)),⟨⟨rfl,ht⟩,fun C H' a o z0 z1 z2 z3=>?_⟩⟩
 obtain⟨x,tl,h1,h2,h3,h4⟩:=hE C H' a o z0 z1 z2 z3
 exact⟨x,tl,h1,h2,h3,hT _ _ _ h4⟩
end
structure Kind(P:Program)(w:World)(K:PySem.W.Frag)(mg:Str→Option Value)(base:Heap)(k kr:Nat)(x:Str)(M:Addr)(told:Str)(wD:DSp):Prop where
 ex:∃f fd cn,FnS P w K mg base (CX1 P w) k f fd [cn] (Kf P w K mg base kr M told (Ag K wD))∧mg x=some (.ref f)∧PySem.W.keepIn K (.ref f)=true∧Binds K fd [cn] []
def Vo(K:PySem.W.Frag)(M:Addr)(told:Str)(wD:DSp)(T:Addr)(q:Str)(idx:List Nat)(tb:DX→DTE):DTE:=fun σ G Q=>G T=some (.tbl q)∧
 tb (whX K M wD Q) (idx.map fun i=>(σ[i]?).join) G (fun _ G'=>Q (.str told) G')
section
variable{X:Cx}
theorem q_kind{k kr:Nat}{x told:Str}{M T c0:Addr}{wD:DSp}{params:Arguments}{body:Expr}{scope:Scope}{clos:List (Str×Addr)}{N:List Str}{idx:List Nat}{tb:DX→DTE}{p lp pos:Pos}(S:Kind X.prog X.w X.K X.mg X.base k kr x M told wD)(hr:Room k X.A)(hcode:X.env.code=.ref c0)(hC:PySem.W.codeHdIn X.K c0 T=true)(hst:X.stack=X.env::X.outer)(hfr:X.env.frame=some X.env.locals)(hfn:∀x,X.fn x=true)(hb:∀E f c A outer s H,Room kr A→QE (Do (CX1 X.prog X.w) X.prog X.w X.K X.mg X.base N (X.env.qual ++ "<lambda>") scope f (.ref c) clos A outer s H (Cq X.K E)) body (tb E))(hcl:closureFor scope X.env=pure clos)(hdef:defaultsOf params X.env=([],[]))(hsub:AllP (fun p:Str×Addr=>X.env.cells.lookup p.1=some p.2) clos)(hN:AllP (fun x:Str=>scope.names.lookup x=some .free∧X.env.kindOf x=some .cell∧clos.lookup x=X.env.cells.lookup x) N)(hix:idx.map (fun i=>X.N[i]?)=N.map some)(hfv:(scope.names.all fun p=>p.2 != .free||N.contains p.1)=true)(hS:LamScope scope)(hbind:∀q clos pm cv ctv,bindArgs (PySem.W.kla_fn "<lambda>" q params body scope clos pm cv ctv) ⟨[],[]⟩=pure [])(hg:Gl X x:=by rfl)(hdb:(x == ("__debug__" : Str))=false:=by decide)(he:starEach [.Lambda params body scope lp] X.env=(false,eval (.Lambda params body scope lp) X.env)::starEach [] X.env:=by rfl)(hpl:(backTo pos (starEach [] X.env)).any (·.1)=false:=by rfl) :
  QE X (.Call (.Name x p) [.Lambda params body scope lp] [] pos) (Vo X.K M told wD T (X.env.qual ++ "<lambda>") idx tb):=by
 obtain⟨fs,fd,cn,F,hm,hk,hbi⟩:=S.ex
 refine(Iv (E:=Cq X.K noX) F hr hm hk hbi passF (Hj (N1 hdef hcl hcode hC) pa_nil he) hg hdb he hpl).imp fun σ H Q ⟨σD,G,Q',rs,rg,⟨eT,h⟩,cl⟩=>?_
 have key:∀H1 f c oc u ctv,Ext H H1→RelG X.K H1 G→H1 f=some (.frz (lamO (X.env.qual ++ "<lambda>") params body scope clos ((X.mg "__name__").getD .none) (.ref c) ctv) topO)→H1 c=some (.frz oc u)→CodeIs oc (X.env.qual ++ "<lambda>")→∀pins s1,Inv X pins σ H1 s1→
   Kf X.prog X.w X.K X.mg X.base kr M told (Ag X.K wD) X.stack s1 [.ref f] H1 Q (Cq X.K noX):=fun H1 f c oc u ctv x1 rg1 hf hc hci pins s1 I=>by
  have nl:∀(i:Nat) y,N[i]? = some y→∃j,idx[i]? = some j∧X.N[j]? = some y:=fun i y e=>by
   have z:=congrArg (fun l=>l[i]?) hix
   simp only[List.getElem?_map,e,Option.map_some] at z
   cases q:idx[i]? with
   |none=>rw[q] at z;cases z
   |some j=>rw[q] at z;exact⟨j,rfl,by simpa using z⟩
  have il:idx.length=N.length:=by have:=congrArg List.length hix;simpa using this
  refine⟨f,_,params,body,scope,clos,_,c,ctv,N,idx.map fun i=>(σ[i]?).join,Bx X.K (tb (whX X.K M wD Q')),Cq X.K (whX X.K M wD Q'),rfl,⟨hf,⟨oc,u,hc,hci⟩,hS,hbind _ _ _ _ _,fun y c' e=>?_,fun y z c' e1 e2=>?_,fun y e=>?_,fun i y v e1 e2=>?_,by rw[List.length_map,il]⟩,fun A outer s H hr=>hb _ f c A outer s H hr,?_,fun C H' a o x2 ⟨G',rg2,C',y,tl,ec,hx,hmx,hin,h2⟩ ha ho=>?_⟩
  ·have e':=hsub.get _ (PySem.mem_of_lookup e)
   obtain⟨v,o,hv1,hv2⟩:=I.cell y c' e'
   refine⟨⟨v,o,hv1,hv2⟩,I.freeC y c' e',fun m=>?_⟩
   rw[hst] at m
   rcases(C0 hfr).mp m with z|z
   ·obtain⟨m,⟨o',es,ep,n1,n2,_⟩,_⟩:=I.loc
    rw[←z,hv1] at n1;cases n1
    rw[hv2] at n2;cases n2
   ·obtain⟨_,o',e2,_⟩:=I.ok.funs.mem z
    exact absurd (Nat.lt_of_lt_of_le (Heap.lt_size e2) (I.ok.cab y c' (hfn y) e')) (Nat.lt_irrefl _)
  ·exact I.ok.inj y z c' (hsub.get _ (PySem.mem_of_lookup e1)) (hsub.get _ (PySem.mem_of_lookup e2))
  ·have z:=List.all_eq_true.mp hfv _ (PySem.mem_of_lookup e)
   have z:y∈N:=by simpa using z
   obtain⟨_,kc,el⟩:=hN.get y z
   obtain⟨c',ec⟩:=I.ok.has y (.inl kc)
   exact⟨c',by rw[el];exact ec⟩
  ·obtain⟨j,ej,en⟩:=nl i y e1
   rw[List.getElem?_map,ej] at e2
   have e2:σ[j]? = some (some v):=by
    cases q:σ[j]? with
    |none=>simp[q] at e2
    |some w=>simp[q] at e2;rw[e2]
   obtain⟨f1,kc,el⟩:=hN.get y (List.mem_of_getElem? e1)
   obtain⟨m,n1,n2⟩:=I.loc
   obtain⟨u,r,lk⟩:=n2 j y v en e2 (.inr (.inl kc))
   rcases lk with ⟨k1,_⟩|⟨_,c',k2,k3⟩
   ·rw[kc] at k1;cases k1
   ·exact⟨c',u,f1,by rw[el];exact k2,k3,r⟩
  ·refine⟨idx.map fun i=>(σD[i]?).join,G,_,⟨by simp,fun i d e=>?_⟩,rg1,h,fun d G' q H2 x2 rg2 v dv=>cl _ _ q _ (x1.trans x2) rg2 _ (.str _)⟩
   rw[List.getElem?_map] at e ⊢
   cases q:idx[i]? with
   |none=>rw[q] at e;cases e
   |some j=>
    rw[q] at e
    have e:σD[j]? = some (some d):=by
     cases q:σD[j]? with
     |none=>simp[q] at e
     |some w=>simp[q] at e;rw[e]
    obtain⟨v,e1,dv⟩:=rs.2 j d e
    exact⟨v,by simp[e1],dv.ext x1⟩
  ·cases ec
   have x3:Ext H' (upd H' a (.frz o topO)):=Ext.fresh ha
   refine⟨y,tl,hx,hmx,hin,[.ref a],_,Q',noX,.cons (.ref a) .nil,rg2.new (o:=.any (excIs C)) ha ⟨⟨o,topO,Ad⟩,fun H3 x4=>⟨o,topO,x4.frz _ _ _ Ad,ho⟩⟩,h2 a (rg2.free ha),fun d G1 q=>(cl d G1 q).go (x1.trans (x2.trans x3)),fun c G1 z=>z.elim⟩
 obtain⟨ps,e,ht,ok⟩:=rg T _ eT
 refine⟨ps,e,ht,fun cv ctv f hf hn=>?_,fun c o ctv f hf hc hn hne hci=>?_⟩
 ·obtain⟨c,oc,u,rfl,hcH,hci⟩:=ok _ _ hf
  exact key _ f c oc u ctv (Ext.fresh hn) (rg.tup hn) Ad ((Ext.fresh hn).frz _ _ _ hcH) hci
 ·have nT:∀{b:Addr},H b=none→b≠T:=fun {b} n z=>by rw[z,e] at n;cases n
  have x1:Ext H (upd H T (.tbl (ps ++ #[rawInt lp.line,rawInt lp.col,.ref c]))):=Ext.tbl e
  have c1:(upd H T (.tbl (ps ++ #[rawInt lp.line,rawInt lp.col,.ref c]))) c=none:=by rw[Ac (nT hc)];exact hc
  have x2:Ext _ (upd (upd H T (.tbl (ps ++ #[rawInt lp.line,rawInt lp.col,.ref c]))) c (.frz o topO)):=Ext.fresh c1
  have f2:(upd (upd H T (.tbl (ps ++ #[rawInt lp.line,rawInt lp.col,.ref c]))) c (.frz o topO)) f=none:=by rw[Ac hne.symm,Ac (nT hn)];exact hn
  have x12:=x1.trans x2
  have rg2:RelG X.K (upd (upd H T (.tbl (ps ++ #[rawInt lp.line,rawInt lp.col,.ref c]))) c (.frz o topO)) G:=fun b u eb=>by
   by_cases hb:b=T
   ·subst hb
    rw[eT] at eb;cases eb
    refine⟨ps ++ #[rawInt lp.line,rawInt lp.col,.ref c],by rw[Ac (nT hc).symm,Ad],by simpa using TriplesOk_snoc _ _ _ _ ht,fun p cv q=>?_⟩
    rcases Gv _ ht (by simpa using q) with q|q
    ·obtain⟨c',o',u',a1,a2,a3⟩:=ok p cv q
     exact⟨c',o',u',a1,x12.frz _ _ _ a2,a3⟩
    ·exact⟨c,o,topO,q,Ad,hci⟩
   ·exact((rg b u eb).upd x1 (.inr hb)).upd x2 (.inl c1)
  exact key _ f c o topO ctv (x12.trans (Ext.fresh f2)) (rg2.tup f2) Ad ((Ext.fresh f2).frz _ _ _ Ad) hci
end
section
variable{X:Cx}
def Lb(q:Str)(params:Arguments)(body:Expr)(scope:Scope)(clos:List (Str×Addr))(pm:Value)(H:Hp)(f:Addr):Prop:=∃c ctv oc u,H f=some (.frz (lamO q params body scope clos pm (.ref c) ctv) topO)∧H c=some (.frz oc u)∧CodeIs oc q
def Rq(T:Addr)(q:Str)(params:Arguments)(body:Expr)(scope:Scope)(clos:List (Str×Addr))(pm:Value):DTE:=fun σ G Q=>G T=some (.tbl q)∧∀f,G f=none→Q (.ref f) (Ab G f (.any (Lb q params body scope clos pm)))
theorem Nx{T c0:Addr}{params:Arguments}{body:Expr}{scope:Scope}{clos:List (Str×Addr)}{pos:Pos}(hdef:defaultsOf params X.env=([],[]))(hcl:closureFor scope X.env=pure clos)(hcode:X.env.code=.ref c0)(hC:PySem.W.codeHdIn X.K c0 T=true) :
  QE X (.Lambda params body scope pos) (Rq T (X.env.qual ++ "<lambda>") params body scope clos ((X.mg "__name__").getD .none)):=(N1 hdef hcl hcode hC).imp fun σ H Q ⟨σD,G,Q',rs,rg,⟨eT,h⟩,cl⟩=>by
 have key:∀H1 f c oc u ctv,Ext H H1→RelG X.K H1 G→G f=none→H1 f=some (.frz (lamO (X.env.qual ++ "<lambda>") params body scope clos ((X.mg "__name__").getD .none) (.ref c) ctv) topO)→H1 c=some (.frz oc u)→CodeIs oc (X.env.qual ++ "<lambda>")→Q (.ref f) H1:=fun H1 f c oc u ctv x1 rg1 gf hf hc hci=>
  cl _ _ (h f gf) _ x1 (fun b o eb=>by
   by_cases z:b=f
   ·subst z
    rw[Aa] at eb;cases eb
    exact⟨⟨_,_,hf⟩,fun H' x=>⟨c,ctv,oc,u,x.frz _ _ _ hf,x.frz _ _ _ hc,hci⟩⟩
   ·rw[As z] at eb;exact rg1 b o eb) _ (.ref f)
 obtain⟨ps,e,ht,ok⟩:=rg T _ eT
 refine⟨ps,e,ht,fun cv ctv f hf hn=>?_,fun c o ctv f hf hc hn hne hci=>?_⟩
 ·obtain⟨c,oc,u,rfl,hcH,hci⟩:=ok _ _ hf
  exact key _ f c oc u ctv (Ext.fresh hn) (rg.tup hn) (rg.free hn) Ad ((Ext.fresh hn).frz _ _ _ hcH) hci
 ·have nT:∀{b:Addr},H b=none→b≠T:=fun {b} n z=>by rw[z,e] at n;cases n
  have x1:Ext H (upd H T (.tbl (ps ++ #[rawInt pos.line,rawInt pos.col,.ref c]))):=Ext.tbl e
  have c1:(upd H T (.tbl (ps ++ #[rawInt pos.line,rawInt pos.col,.ref c]))) c=none:=by rw[Ac (nT hc)];exact hc
  have x2:Ext _ (upd (upd H T (.tbl (ps ++ #[rawInt pos.line,rawInt pos.col,.ref c]))) c (.frz o topO)):=Ext.fresh c1
  have f2:(upd (upd H T (.tbl (ps ++ #[rawInt pos.line,rawInt pos.col,.ref c]))) c (.frz o topO)) f=none:=by rw[Ac hne.symm,Ac (nT hn)];exact hn
  have x12:=x1.trans x2
  have rg2:RelG X.K (upd (upd H T (.tbl (ps ++ #[rawInt pos.line,rawInt pos.col,.ref c]))) c (.frz o topO)) G:=fun b u eb=>by
   by_cases hb:b=T
   ·subst hb
    rw[eT] at eb;cases eb
    refine⟨ps ++ #[rawInt pos.line,rawInt pos.col,.ref c],by rw[Ac (nT hc).symm,Ad],by simpa using TriplesOk_snoc _ _ _ _ ht,fun p cv q=>?_⟩
    rcases Gv _ ht (by simpa using q) with q|q
    ·obtain⟨c',o',u',a1,a2,a3⟩:=ok p cv q
     exact⟨c',o',u',a1,x12.frz _ _ _ a2,a3⟩
    ·exact⟨c,o,topO,q,Ad,hci⟩
   ·exact((rg b u eb).upd x1 (.inr hb)).upd x2 (.inl c1)
  exact key _ f c o topO ctv (x12.trans (Ext.fresh f2)) (rg2.tup f2) (rg.free hn) Ad ((Ext.fresh f2).frz _ _ _ Ad) hci
end
def Qg{τ:Type}(n:Nat)(R:τ→St→Hp→Prop)(wi:TI)(g:TG)(tf:TT)(te:τ→TE):TE:=fun σ H Q=>wi σ H fun J H1=>∀p,H1 p=none→∃τ0,R τ0 σ (upd H1 p (.lst []))∧∃W:Nat→Nat→St→Hp→Prop,(∃m,W 0 m (List.replicate n none++σ) (upd H1 p (.lst [])))∧∀i m σ1 H,W i m σ1 H→
 ((J.stop i H∧Q (.ref p) H)∨(J.go i H∧∃N:St→Hp→Prop,(∀σ' H',N σ' H'→∃m',m'<m∧W (i+1) m' σ' H')∧
  ∀x H',J.yld i H x H'→g x σ1 H' fun σ2 H2=>tf σ2 H2 fun b H3=>if b=true then te τ0 σ2 H3 fun y H4=>∃ys,H4 p=some (.lst ys)∧ys.length<sizeLine∧N σ2 (upd H4 p (.lst (ys++[y]))) else N σ2 H3))
theorem Md{τ:Type}{R:τ→St→Hp→Prop}{X:Cx}{elt iter tg:Expr}{ifs:List Expr}{scope:Scope}{cl:List (Str×Addr)}{pos:Pos}{wi:TI}{g:TG}{tf:TT}{te:τ→TE}{T M:List Str}(hc:X.calm=true)(ok:CompOz X scope cl T M)(hi:PI X tg iter wi)(hg:∀s H fp,PG (Af X scope cl T M s H fp) tg g)(hf:∀s H fp,PF (Af X scope cl T M s H fp) ifs tf)(he:∀τ0 pins σ s H fp,Inv X pins σ H s→(∀b∈fp,Dg X pins H b)→R τ0 σ H→PE (Af X scope cl T M s H fp) elt (te τ0))(hs:∀x,foldedSetIterable iter X.env x=pure x:=by intro _;rfl):PE X (.ListComp elt [⟨tg,iter,ifs,0⟩] scope pos) (Qg T.length R wi g tf te):=by
 intro pins s σ H Q I h
 rw[eval_ListComp]
 refine wpAny_comprehension_free (use:=none) (cl:=cl) rfl hs ok.clos ok.kind ok.names (thn (hi pins s σ H _ I h) fun v s1 h1=>thn h1 fun itv s2 h2=>?_)
 obtain⟨it,fp,tn,J,H2,e,I2,Tn,st2,f2,q⟩:=h2
 subst e
 have q:=q s2.heap.objs.size (I2.hok.fresh (Nat.le_refl _))
 refine wpAny_newObj_type ?_
 -- the new list,tracked
 have I3:Inv X pins σ (upd H2 s2.heap.objs.size (.lst [])) { s2 with heap:=s2.heap.push { cls:=.type "list",dict:=none,data:=.seq ([]:List Value).toArray } }:=
  I2.laid (t':=s2.toks) (fun b u e=>Heap.get?_push_of_some _ e) (Nat.le_refl _) ⟨Nat.zero_le _,[],0,.nil,Heap.get?_push_size _ rfl⟩
 generalize hH3:upd H2 s2.heap.objs.size (.lst [])=H3 at I3 q
 generalize hs3:({ s2 with heap:=s2.heap.push { cls:=.type "list",dict:=none,data:=.seq ([]:List Value).toArray } }:Shared)=s3 at I3
 have fpl:∀b∈fp,b<s2.heap.objs.size:=fun b hb=>let ⟨o,e,_⟩:=Tn.obj 0 _ st2 b hb;Heap.lt_size e
 have sz3:s2.heap.objs.size≤s3.heap.objs.size:=by rw[←hs3];show _≤(s2.heap.push _).objs.size;rw[Heap.size_push];exact Nat.le_succ _
 have fok:∀b∈fp,Dg X pins H3 b:=fun b hb=>⟨by rw[←hH3,Ac (Nat.ne_of_lt (fpl b hb))];exact(f2 b hb).1,(f2 b hb).2⟩
 have k23:∀b o,s2.heap.get? b=some o→s3.heap.get? b=some o:=fun b o e=>by rw[←hs3];exact Heap.get?_push_of_some _ e
 have st3:tn 0 s3.heap:=Tn.keep _ _ _ st2 fun b _ o e=>k23 b o e
 refine Iy ok.kind (fun h4 hns4 k34 okc=>?_)
 have oldc:∀x c,cl.lookup x=some c→c<s3.heap.objs.size:=fun x c e=>by
  obtain⟨v,o,ho,_⟩:=I3.cell x c (ok.sub x c e).1
  exact Heap.lt_size ho
 have hc1:=Lx (h':=h4) ok okc oldc
 have hc2:=Lw (h':=h4) ok okc oldc
 have I4:Inv (Af X scope cl T M s3 H3 fp) [] (Nb T σ) H3 { s3 with heap:=h4 }:=
  Gq ok I3 (fun b hb=>⟨fok b hb,Nat.lt_of_lt_of_le (fpl b hb) sz3⟩) hns4 k34 rfl rfl hc1 hc2
 have st4:tn 0 h4:=Tn.keep _ _ _ st3 fun b _ o e=>k34 b o e
 obtain⟨τ0,hR,W,⟨m0,w0⟩,turn⟩:=q
 have cfpc:∀b∈fp,∀x c,(Au scope cl s3.heap.objs.size).lookup x=some c→c≠b:=fun b hb x c e=>by
  rcases B8 ok s3.heap.objs.size x c e with ⟨_,a2⟩|⟨a1,_⟩
  ·exact Nat.ne_of_gt (Nat.lt_of_lt_of_le (Nat.lt_of_lt_of_le (fpl b hb) sz3) (Nat.le_of_succ_le a2))
  ·exact(fok b hb).2.2.2.2.1 x c (ok.sub x c a1).1
 have cfp:∀{H':Hp},(∀b∈fp,H' b=none)→∀b∈fp,Dg (Af X scope cl T M s3 H3 fp) [] H' b:=fun hn b hb=>by
  refine⟨hn b hb,Nat.ne_of_lt (Nat.lt_of_lt_of_le (fpl b hb) sz3),fun z=>?_,.inl hb,fun x c e=>cfpc b hb x c e,fun p hp=>absurd (show p∈([]:List (Addr×Obj)) from hp) (by simp)⟩
  rcases List.mem_cons.mp (I3.stkSub b z) with e|e
  ·exact(fok b hb).2.1 e
  ·exact(fok b hb).2.2.1 e
 have fin:∀(σ':St) (H':Hp) (s':Shared),Inv (Af X scope cl T M s3 H3 fp) [] σ' H' s'→Q (.ref s2.heap.objs.size) H'→compPost (model X.prog X.w) X.A X.xe none (EP X pins σ Q) (.ref s2.heap.objs.size) s3.heap.objs.size (.ok .next) s':=fun σ' H' s' J q=>by
  obtain⟨m',hm',_⟩:=J.loc
  refine⟨m',hm',fun h' hs'=>?_⟩
  have J0:Inv X pins σ H' s':=I3.call' (ch:=fp) J.os J.base J.hok J.bare fun b hb=>⟨(fok b hb).2.2.2.1,(fok b hb).2.1,(fok b hb).2.2.2.2.1,(fok b hb).2.2.2.2.2⟩
  have nC:=I3.fpOk (H':=H') (Nat.le_refl s3.heap.objs.size) J.free
  exact⟨.ref s2.heap.objs.size,H',J0.turned (t':=s'.toks) (fun b o hb e=>(hs'.2 b hb).trans e) nC.1 nC.2.1 nC.2.2.2.1 nC.2.2.2.2.1 nC.2.2.2.2.2,rfl,q⟩
 have loop:∀s5:Shared,s5={ s3 with heap:=h4 }→
   codeAny (model X.prog X.w) X.A (.compLoop (.ListComp elt [⟨tg,iter,ifs,0⟩] scope pos) 0 (.ref it) (.ref s2.heap.objs.size) (compEnvC scope (Au scope cl s3.heap.objs.size) s3.heap.objs.size X.env))
    (compPost (model X.prog X.w) X.A X.xe none (EP X pins σ Q) (.ref s2.heap.objs.size) s3.heap.objs.size) s5:=by
  rintro s5 rfl
  refine Em (fun k s'=>∃i σ' H',Inv (Af X scope cl T M s3 H3 fp) [] σ' H' s'∧tn i s'.heap∧(∀b∈fp,H' b=none)∧W i k σ' H') ?_ m0 ⟨0,Nb T σ,H3,I4,st4,fun b hb=>(fok b hb).1,w0⟩
  rintro k s6 ⟨i,σ6,H6,I6,st6,fr6,w6⟩
  rcases turn i k σ6 H6 w6 with ⟨stop,qn⟩|⟨go,N,hN,step⟩
  ·refine wpAny_mono (Tn.done (Af X scope cl T M s3 H3 fp) rfl rfl rfl hc i [] s6 _ H6 (fun _ _=>False) I6 (cfp fr6) st6 stop) (fun r s7 ⟨hr,I7⟩=>?_) fun _ _ z=>z.elim
   subst hr
   exact fin _ H6 s7 I7 qn
  ·refine wpAny_mono (Tn.item (Af X scope cl T M s3 H3 fp) rfl rfl rfl hc i [] s6 _ H6 (fun _ _=>False) I6 (cfp fr6) st6 go) (fun r s7 ⟨u,hr,h7⟩=>?_) fun _ _ z=>z.elim
   subst hr
   show Iq _ _ _ _ _ _ _ _ _ _ _ _ _;unfold Iq
   refine wpAny_mono h7 (fun _ s8 h8=>?_) fun _ _ z=>z.elim
   obtain⟨x7,H7,I7,r7,y7,st7,fr7⟩:=h8
   have I7':=I7.pinned (cfp fr7) (Tn.obj _ _ st7)
   have back:∀{σ8:St} {H8:Hp} {s9:Shared},Inv (Af X scope cl T M s3 H3 fp) ([]++Cv fp s8.heap) σ8 H8 s9→tn (i+1) s9.heap∧∀b∈fp,H8 b=none:=fun {σ8 H8 s9} I8=>by
    refine⟨Tn.keep _ _ _ st7 fun b hb o e=>(I8.pin (b,o) (List.mem_append_right _ (List.mem_append_right _ (Bt hb e)))).1,fun b hb=>?_⟩
    obtain⟨o,e,d⟩:=Tn.obj _ _ st7 b hb
    exact(I8.pin (b,o) (List.mem_append_right _ (List.mem_append_right _ (Bt hb e)))).2.1
   have again:∀{σ9:St} {H9:Hp} {s9:Shared},Inv (Af X scope cl T M s3 H3 fp) ([]++Cv fp s8.heap) σ9 H9 s9→N σ9 H9→
     ∃m,m<k∧∃i σ' H',Inv (Af X scope cl T M s3 H3 fp) [] σ' H' s9∧tn i s9.heap∧(∀b∈fp,H' b=none)∧W i m σ' H':=fun {σ9 H9 s9} I9 n9=>by
    obtain⟨m',hm,w9⟩:=hN σ9 H9 n9
    obtain⟨b1,b2⟩:=back I9
    exact⟨m',hm,i+1,σ9,H9,I9.unpinned,b1,b2,w9⟩
   refine wpAny_mono (hg s3 H3 fp _ s8 σ6 H7 x7 u _ I7' r7 (step x7 H7 y7)) (fun _ s9 ⟨σ9,H9,I9,q9⟩=>?_) fun _ _ z=>z.elim
   refine wpAny_mono (hf s3 H3 fp _ s9 σ9 H9 _ I9 q9) (fun okb s10 ⟨H10,I10,q10⟩=>?_) fun _ _ z=>z.elim
   cases okb with
   |false=>
    rw[if_neg Bool.false_ne_true] at q10 ⊢
    exact again I10 q10
   |true=>
    rw[if_pos rfl] at q10 ⊢
    refine wpAny_mono (he τ0 pins σ s3 H3 fp I3 fok hR _ s10 σ9 H10 _ I10 q10) (fun y s11 ⟨yv,H11,I11,ry,ys,e11,l11,n11⟩=>?_) fun _ _ z=>z.elim
    refine wpAny_mono (Ec (X:=Af X scope cl T M s3 H3 fp) _ s11 σ9 H11 (.ref s2.heap.objs.size) [yv] (.ref s2.heap.objs.size) [y] (fun _ H12=>N σ9 H12) I11 rfl (.cons ry .nil) ⟨_,ys,yv,rfl,rfl,e11,l11,n11⟩) (fun _ s12 ⟨_,H12,I12,_,n12⟩=>?_) fun _ _ z=>z.elim
    exact again I12 n12
 exact codeAny_compStart_list (loop _ rfl) (Tn.self _ 0 _ _ _ st4 (loop _ rfl))


section
variable{X:Cx}{elt iter tg:Expr}{ifs:List Expr}{scope:Scope}{pos:Pos}{ti te:DTE}{tf:DTT}{g:DTG}{T M:List Str}
def Lj(n:Nat)(ti:DTE)(g:DTG)(tf:DTT)(te:DSt→DTE):DTE:=fun σ G Q=>ti σ G fun d G1=>∃ds,Az G1 d=some ds∧∀p,G1 p=none→Ip n p ds (fun G'=>Az G' d=some ds) g tf (te σ) σ (Ab G1 p (.lst [])) Q
theorem Ow{te:DSt→DTE}(hc:X.calm=true)(ok:CompOz X scope (Bh X.env.cells scope.names []) T M)(hi:QE X iter ti)(hg:QGz X scope T M tg g)(hf:QFz X scope T M ifs tf)(he:∀σD pins σ s H fp,Inv X pins σ H s→(∀b∈fp,Dg X pins H b)→RelS X.K H σD σ→QE (Af X scope (Bh X.env.cells scope.names []) T M s H fp) elt (te σD))(hs:∀x,foldedSetIterable iter X.env x=pure x:=by intro _;rfl):QE X (.ListComp elt [⟨tg,iter,ifs,0⟩] scope pos) (Lj T.length ti g tf te):=
 (Md (R:=fun σD σ H=>RelS X.K H σD σ) (g:=E9 X.K g) (tf:=Ei X.K tf) (te:=fun σD=>Bx X.K (te σD)) hc ok (Kb hi) hg hf he hs).imp fun σ H Q ⟨σD,G,Q',rs,rg,h,cl⟩=>by
 refine⟨σD,G,_,rs,rg,h,fun d G1 ⟨ds,ei,L⟩ H1 x1 rg1 v dv=>?_⟩
 obtain⟨a,rfl⟩:=Fo ei dv
 refine⟨a,rfl,?_⟩
 have lp:=fun p hp=>C3 (J:=jOf X.K d a) (rs.ext x1) rg1 hp (fun d' G' q=>(cl d' G' q).go x1) (fun H' G' x' rg' s'=>Ed (Dx rg' s' (dv.ext x'))) (L p (rg1.free hp))
 cases dv with
 |tup e r=>exact .inr ⟨⟨_,.inl (.inl e)⟩,fun p hp=>⟨σD,(rs.ext x1).ext (Ext.fresh hp),lp p hp⟩⟩
 |lint e=>exact .inl ⟨⟨_,e.sq⟩,fun p hp=>⟨σD,(rs.ext x1).ext (Ext.fresh hp),lp p hp⟩⟩
 |ref=>
  simp only[Az] at ei
  split at ei
  ·rename_i ds' q
   obtain⟨xs,e,r⟩:=rg1 a _ q
   exact .inl ⟨⟨_,.inl (.inl e)⟩,fun p hp=>⟨σD,(rs.ext x1).ext (Ext.fresh hp),lp p hp⟩⟩
  ·cases ei
end
structure LamR(X:Cx)(kr:Nat)(q:Str)(params:Arguments)(body:Expr)(scope:Scope)(clos:List (Str×Addr))(N:List Str)(idx:List Nat)(tb:DX→DTE):Prop where
 hb:∀E f c A outer s H,Room kr A→QE (Do (CX1 X.prog X.w) X.prog X.w X.K X.mg X.base N q scope f (.ref c) clos A outer s H (Cq X.K E)) body (tb E)
 hsub:AllP (fun p:Str×Addr=>X.env.cells.lookup p.1=some p.2) clos
 hN:AllP (fun x:Str=>scope.names.lookup x=some .free∧X.env.kindOf x=some .cell∧clos.lookup x=X.env.cells.lookup x) N
 hix:idx.map (fun i=>X.N[i]?)=N.map some
 hfv:(scope.names.all fun p=>p.2 != .free||N.contains p.1)=true
 hS:LamScope scope
 hbind:∀q clos pm cv ctv,bindArgs (PySem.W.kla_fn "<lambda>" q params body scope clos pm cv ctv) ⟨[],[]⟩=pure []
def N5(X:Cx)(kr:Nat)(M:Addr)(told:Str)(wD:DSp)(σ0:DSt)(i:Nat):DTE:=fun σ G Q=>∃f,σ[i]? = some (some (.ref f))∧∃q params body scope clos pm N idx tb,LamR X kr q params body scope clos N idx tb∧G f=some (.any (Lb q params body scope clos pm))∧
 tb (whX X.K M wD Q) (idx.map fun j=>(σ0[j]?).join) G (fun _ G'=>Q (.str told) G')
theorem q_kindN{X:Cx}{k kr i:Nat}{x y told:Str}{M:Addr}{wD:DSp}{scC:Scope}{clC:List (Str×Addr)}{T Mn:List Str}{s:Shared}{H:Hp}{fp:List Addr}{pins:List (Addr×Obj)}{σV:St}{σD:DSt}{p p' pos:Pos}(S:Kind X.prog X.w X.K X.mg X.base k kr x M told wD)(hr:Room k X.A)(hst:X.stack=X.env::X.outer)(hfr:X.env.frame=some X.env.locals)(hfn:∀x,X.fn x=true)(I:Inv X pins σV H s)(fok:∀b∈fp,Dg X pins H b)(rs:RelS X.K H σD σV)(hy:(Af X scC clC T Mn s H fp).N[i]? = some y)(hv:Vis (Af X scC clC T Mn s H fp).env.scope y)(hd:(y == ("__debug__" : Str))=false)(hcd:(y == ("__classdict__" : Str))=false)(hg:Gl (Af X scC clC T Mn s H fp) x)(hdb:(x == ("__debug__" : Str))=false)(he:starEach [.Name y p'] (Af X scC clC T Mn s H fp).env=(false,eval (.Name y p') (Af X scC clC T Mn s H fp).env)::starEach [] (Af X scC clC T Mn s H fp).env)(hpl:(backTo pos (starEach [] (Af X scC clC T Mn s H fp).env)).any (·.1)=false) :
  QE (Af X scC clC T Mn s H fp) (.Call (.Name x p) [.Name y p'] [] pos) (N5 X kr M told wD σD i):=by
 obtain⟨fs,fd,cn,F,hm,hk,hbi⟩:=S.ex
 refine(Iv (X:=Af X scC clC T Mn s H fp) (E:=Cq X.K noX) F hr hm hk hbi passF (Hj (Kc hy hv hd hcd) pa_nil he) hg hdb he hpl).imp fun σ1 H1 Q ⟨σ1D,G,Q',rs1,rg,⟨f,ef,q,params,body,scope,clos,pm,N,idx,tb,L,eG,h⟩,cl⟩=>?_
 obtain⟨v,e1,dv⟩:=rs1.2 i _ ef
 cases dv
 obtain⟨_,hla⟩:=rg f _ eG
 obtain⟨c,ctv,oc,u,hf,hc,hci⟩:=hla H1 (Ext.refl _)
 refine⟨_,e1,fun pins1 s1 I1=>?_⟩
 have x1:Ext H H1:=Ff I1.base
 have nfr:∀y c',X.env.cells.lookup y=some c'→c' ∉ frs X.stack:=fun y c' e' m=>by
  obtain⟨v,o,hv1,hv2⟩:=I.cell y c' e'
  rw[hst] at m
  rcases(C0 hfr).mp m with z|z
  ·obtain⟨m,⟨o',es,ep,n1,n2,_⟩,_⟩:=I.loc
   rw[←z,hv1] at n1;cases n1
   rw[hv2] at n2;cases n2
  ·obtain⟨_,o',e2,_⟩:=I.ok.funs.mem z
   exact absurd (Nat.lt_of_lt_of_le (Heap.lt_size e2) (I.ok.cab y c' (hfn y) e')) (Nat.lt_irrefl _)
 have nfp:∀y c',X.env.cells.lookup y=some c'→c' ∉ fp:=fun y c' e' m=>(fok c' m).2.2.2.2.1 y c' e' rfl
 have cellk:∀y c',X.env.cells.lookup y=some c'→∀v,s.heap.IsCell c' v→s1.heap.IsCell c' v:=fun y c' e' v ⟨o,a1,a2⟩=>⟨o,I1.base.keep _ _ a1 (I.freeC y c' e') (nfr y c' e') (nfp y c' e'),a2⟩
 have nl:∀(i:Nat) y,N[i]? = some y→∃j,idx[i]? = some j∧X.N[j]? = some y:=fun i y e=>by
  have z:=congrArg (fun l=>l[i]?) L.hix
  simp only[List.getElem?_map,e,Option.map_some] at z
  cases q:idx[i]? with
  |none=>rw[q] at z;cases z
  |some j=>rw[q] at z;exact⟨j,rfl,by simpa using z⟩
 have il:idx.length=N.length:=by have:=congrArg List.length L.hix;simpa using this
 refine⟨f,q,params,body,scope,clos,pm,c,ctv,N,idx.map fun i=>(σV[i]?).join,Bx X.K (tb (whX X.K M wD Q')),Cq X.K (whX X.K M wD Q'),rfl,⟨hf,⟨oc,u,hc,hci⟩,L.hS,L.hbind _ _ _ _ _,fun y c' e=>?_,fun y z c' e1 e2=>?_,fun y e=>?_,fun i y v e1 e2=>?_,by rw[List.length_map,il]⟩,fun A outer s H hr=>L.hb _ f c A outer s H hr,?_,fun C H' a o x2 ⟨G',rg2,C',y,tl,ec,hx,hmx,hin,h2⟩ ha ho=>?_⟩
 ·have e':=L.hsub.get _ (PySem.mem_of_lookup e)
  obtain⟨v,o,hv1,hv2⟩:=I.cell y c' e'
  exact⟨⟨v,cellk y c' e' v ⟨o,hv1,hv2⟩⟩,I1.base.free _ _ hv1 (I.freeC y c' e') (nfp y c' e'),nfr y c' e'⟩
 ·exact I.ok.inj y z c' (L.hsub.get _ (PySem.mem_of_lookup e1)) (L.hsub.get _ (PySem.mem_of_lookup e2))
 ·have z:=List.all_eq_true.mp L.hfv _ (PySem.mem_of_lookup e)
  have z:y∈N:=by simpa using z
  obtain⟨_,kc,el⟩:=L.hN.get y z
  obtain⟨c',ec⟩:=I.ok.has y (.inl kc)
  exact⟨c',by rw[el];exact ec⟩
 ·obtain⟨j,ej,en⟩:=nl i y e1
  rw[List.getElem?_map,ej] at e2
  have e2:σV[j]? = some (some v):=by
   cases q:σV[j]? with
   |none=>simp[q] at e2
   |some w=>simp[q] at e2;rw[e2]
  obtain⟨f1,kc,el⟩:=L.hN.get y (List.mem_of_getElem? e1)
  obtain⟨m,n1,n2⟩:=I.loc
  obtain⟨u,r,lk⟩:=n2 j y v en e2 (.inr (.inl kc))
  rcases lk with ⟨k1,_⟩|⟨_,c',k2,k3⟩
  ·rw[kc] at k1;cases k1
  ·exact⟨c',u,f1,by rw[el];exact k2,cellk y c' k2 _ k3,r⟩
 ·refine⟨idx.map fun i=>(σD[i]?).join,G,_,⟨by simp,fun i d e=>?_⟩,rg,h,fun d G' q H2 x2 rg2 v dv=>cl _ _ q _ x2 rg2 _ (.str _)⟩
  rw[List.getElem?_map] at e ⊢
  cases q:idx[i]? with
  |none=>rw[q] at e;cases e
  |some j=>
   rw[q] at e
   have e:σD[j]? = some (some d):=by
    cases q:σD[j]? with
    |none=>simp[q] at e
    |some w=>simp[q] at e;rw[e]
   obtain⟨v,e1,dv⟩:=rs.2 j d e
   exact⟨v,by simp[e1],dv.ext x1⟩
 ·cases ec
  have x3:Ext H' (upd H' a (.frz o topO)):=Ext.fresh ha
  refine⟨y,tl,hx,hmx,hin,[.ref a],_,Q',noX,.cons (.ref a) .nil,rg2.new (o:=.any (excIs C)) ha ⟨⟨o,topO,Ad⟩,fun H3 x4=>⟨o,topO,x4.frz _ _ _ Ad,ho⟩⟩,h2 a (rg2.free ha),fun d G1 q=>(cl d G1 q).go (x2.trans x3),fun c G1 z=>z.elim⟩
end D3
namespace K2
open PySem L2 D3
def top(i:Nat):Stmt:=PySem.Challenge.pw_laidmarks_k01_seas_known.main.body.getD i (.Pass ⟨0,0,0,0⟩)
abbrev Ji:List Str:=["len", "range", "abs", "divmod", "max", "min", "tuple", "int", "bool", "list", "isinstance", "all", "sorted", "repr", "ValueError"]
theorem exPow{p:Int→Int→Prop}{i j:Int}:(∃a b,D.int i=D.int a∧D.int j=D.int b∧p a b)↔p i j:=⟨fun⟨_,_,e1,e2,h⟩=>by cases e1;cases e2;exact h,fun h=>⟨i,j,rfl,rfl,h⟩⟩
theorem Dt{α:Type}{xs:List α}{i:Int}(h0:0≤i)(h1:i<xs.length):∃x,atI xs i=some x∧x∈xs:=by
 obtain⟨k,rfl⟩:=Int.eq_ofNat_of_zero_le h0
 have hk:k<xs.length:=by omega
 exact⟨xs[k],Ca (List.getElem?_eq_getElem hk),List.getElem_mem hk⟩
section
variable{P:Program}{w:World}{K:W.Frag}{mg:Str→Option Value}{base:Heap}
structure Blt(mg:Str→Option Value):Prop where
 blt:∀{x:Str},x∈Ji→mg x=none
def Ct(o:Option GO):Prop:=∃b c,o=some (.lst [.int b,.int c])
abbrev s_L_box:Stmt:=top 50
abbrev Rn:List Str:=["_law_script", "_law_k", "_law_here", "_law_number", "_law_j", "_law_piece"]
abbrev p_L_box:List Str:=["_law_script", "_law_k"]
theorem sc_L_box:FnScope Rn p_L_box (defScope s_L_box):=⟨rfl,rfl,rfl,by decide +kernel,rfl,by decide +kernel,by decide +kernel⟩
def spBox:DSp:=fun ds G Q _=>∃ns k,ds=[.lint ns,.int k]∧(0≤k∧k<1000)∧∀p,G p=none→∀b c,Q (.ref p) (Ab G p (.lst [.int b,.int c]))
theorem Tv{f:Addr}{fd:FuncData}(F:Fun K "_law_box" "_law_box" s_L_box f fd)(T:Blt mg):FnOk P w K mg base CX0 1 f fd p_L_box (Ag K spBox):=by
 refine okD F sc_L_box (fun ds G Q E h=>?_) (fun cdv A outer s H XE ds G Q E hr h=>?_)
 ·obtain⟨ns,k,rfl,_⟩:=h;rfl
 ·obtain⟨ns,k,rfl,⟨k0,k1⟩,q⟩:=h
  refine⟨_,(@qss_cons _ _ _ _ _ (@qs_set _ _ _ _ 2 _ _ sc_L_box.nd (@q_op _ _ _ _ _ _ _ _ (@o_addD _) (@q_op _ _ _ _ _ _ _ _ (@Dm _) (@q_int _ _ _ _) (@q_v1 _ _ 1 _ (by exact⟨rfl,rfl,rfl,rfl⟩))) (@q_int _ _ _ _)) (by rfl) (by exact .inl rfl) (by rfl) (by exact .inl rfl)) (@qss_cons _ _ _ _ _ (@Nw _ _ _ _ _ _ _ _ (@qt_cmp _ _ _ _ _ _ _ _ (@P6 _) (@q_v1 _ _ 1 _ (by exact⟨rfl,rfl,rfl,rfl⟩)) (@q_callB _ _ _ _ _ _ _ _ _ (@c_len _) (T.blt (by decide)) (by decide +kernel) (@qa_consP _ _ _ _ _ (@q_v1 _ _ 0 _ (by exact⟨rfl,rfl,rfl,rfl⟩)) (@qa_nil _) (by rfl)) (by rfl) (by decide) (by decide) (by rfl) (by rfl)) (nomark _)) (@qss_one _ _ _ (@qs_set _ _ _ _ 2 _ _ sc_L_box.nd (@q_ix _ _ _ _ _ _ (@q_v1 _ _ 0 _ (by exact⟨rfl,rfl,rfl,rfl⟩)) (@q_v1 _ _ 1 _ (by exact⟨rfl,rfl,rfl,rfl⟩)) (by intro _ _ ;rfl)) (by rfl) (by exact .inl rfl) (by rfl) (by exact .inl rfl))) (@qss_nil _)) (@qss_cons _ _ _ _ _ (@qs_if _ _ _ _ _ _ _ _ (@qt_cmp _ _ _ _ _ _ _ _ (@Gw _) (@q_op _ _ _ _ _ _ _ _ (@Dn _) (@q_v1 _ _ 2 _ (by exact⟨rfl,rfl,rfl,rfl⟩)) (@q_int _ _ _ _)) (@q_int _ _ _ _) (nomark _)) (@qss_one _ _ _ (@qs_ret _ _ _ _ (@q_lst _ _ _ _ (@qa_consP _ _ _ _ _ (@q_op _ _ _ _ _ _ _ _ (@N3 _) (@q_v1 _ _ 2 _ (by exact⟨rfl,rfl,rfl,rfl⟩)) (@q_int _ _ _ _)) (@qa_consP _ _ _ _ _ (@q_op _ _ _ _ _ _ _ _ (@Dn _) (@q_callB _ _ _ _ _ _ _ _ _ (@R0 _) (T.blt (by decide)) (by decide +kernel) (@qa_consP _ _ _ _ _ (@q_v1 _ _ 2 _ (by exact⟨rfl,rfl,rfl,rfl⟩)) (@qa_nil _) (by rfl)) (by rfl) (by decide) (by decide) (by rfl) (by rfl)) (@q_int _ _ _ _)) (@qa_nil _) (by rfl)) (by rfl))))) (@qss_nil _)) (@qss_cons _ _ _ _ _ (@qs_set _ _ _ _ 3 _ _ sc_L_box.nd (@q_int _ _ _ _) (by rfl) (by exact .inl rfl) (by rfl) (by exact .inl rfl)) (@qss_cons _ _ _ _ _ (@qs_forR _ _ _ _ _ _ _ _ _ _ PassesOwn.never rfl (T.blt (by decide)) (@qa_consP _ _ _ _ _ (@q_int _ _ _ _) (@qa_nil _) (by rfl)) (@qg_name _ _ 4 _ sc_L_box.nd (by rfl) (by exact .inl rfl) (by exact .inl rfl)) (@qss_cons _ _ _ _ _ (@qs_set _ _ _ _ 5 _ _ sc_L_box.nd (@q_op _ _ _ _ _ _ _ _ (@Dn _) (@q_op _ _ _ _ _ _ _ _ (@o_addD _) (@q_op _ _ _ _ _ _ _ _ (@o_addD _) (@q_op _ _ _ _ _ _ _ _ (@Dm _) (@q_op _ _ _ _ _ _ _ _ (@Dn _) (@q_v1 _ _ 2 _ (by exact⟨rfl,rfl,rfl,rfl⟩)) (@q_int _ _ _ _)) (@q_int _ _ _ _)) (@q_op _ _ _ _ _ _ _ _ (@Dm _) (@q_int _ _ _ _) (@q_v1 _ _ 4 _ (by exact⟨rfl,rfl,rfl,rfl⟩)))) (@q_int _ _ _ _)) (@q_int _ _ _ _)) (by rfl) (by exact .inl rfl) (by rfl) (by exact .inl rfl)) (@qss_cons _ _ _ _ _ (@qs_set _ _ _ _ 5 _ _ sc_L_box.nd (@q_op _ _ _ _ _ _ _ _ (@Dn _) (@q_op _ _ _ _ _ _ _ _ (@Dm _) (@q_v1 _ _ 5 _ (by exact⟨rfl,rfl,rfl,rfl⟩)) (@q_v1 _ _ 5 _ (by exact⟨rfl,rfl,rfl,rfl⟩))) (@q_int _ _ _ _)) (by rfl) (by exact .inl rfl) (by rfl) (by exact .inl rfl)) (@qss_one _ _ _ (@qs_set _ _ _ _ 3 _ _ sc_L_box.nd (@q_op _ _ _ _ _ _ _ _ (@o_addD _) (@q_op _ _ _ _ _ _ _ _ (@Dm _) (@q_v1 _ _ 3 _ (by exact⟨rfl,rfl,rfl,rfl⟩)) (@q_int _ _ _ _)) (@q_op _ _ _ _ _ _ _ _ (@Dn _) (@q_op _ _ _ _ _ _ _ _ (@Dm _) (@q_v1 _ _ 5 _ (by exact⟨rfl,rfl,rfl,rfl⟩)) (@q_op _ _ _ _ _ _ _ _ (@o_addD _) (@q_v1 _ _ 5 _ (by exact⟨rfl,rfl,rfl,rfl⟩)) (@q_int _ _ _ _))) (@q_int _ _ _ _))) (by rfl) (by exact .inl rfl) (by rfl) (by exact .inl rfl))))) (by rfl) (by rfl) (by intro _ ;rfl)) (@qss_one _ _ _ (@qs_ret _ _ _ _ (@q_lst _ _ _ _ (@qa_consP _ _ _ _ _ (@q_v1 _ _ 3 _ (by exact⟨rfl,rfl,rfl,rfl⟩)) (@qa_consP _ _ _ _ _ (@q_op _ _ _ _ _ _ _ _ (@Dn _) (@q_callB _ _ _ _ _ _ _ _ _ (@R0 _) (T.blt (by decide)) (by decide +kernel) (@qa_consP _ _ _ _ _ (@q_v1 _ _ 2 _ (by exact⟨rfl,rfl,rfl,rfl⟩)) (@qa_nil _) (by rfl)) (by rfl) (by decide) (by decide) (by rfl) (by rfl)) (@q_int _ _ _ _)) (@qa_nil _) (by rfl)) (by rfl)))))))))),?_⟩
  obtain⟨k,rfl⟩:=Int.eq_ofNat_of_zero_le k0
  have sz:=sz2
  simp only[Bk,Cr,nOp,nC,Ap,Ak,List.map_cons,List.map_nil,List.length_cons,List.length_nil,Nat.zero_add,Nat.reduceAdd,Nat.reduceSub,List.replicate,List.cons_append,List.nil_append,List.getElem?_cons_succ,List.getElem?_cons_zero,Option.some.injEq,dI,D.int.injEq,CMul,Int.reducePow,Int.reduceNeg,A2,R7,Bg,List.set_cons_succ,List.set_cons_zero,nCB,Ah,Ao,List.cons.injEq,and_true,dI0,D.bl.injEq,dIx,exists_eq_left',Mt,A8,decide_eq_true_eq,Iz,Cb,dEq,eqS,A9,Eo,J1,Int.reduceLT,true_and,and_assoc,E6,Int.reduceLE,Int.reduceToNat,By,and_self,true_or]
  refine⟨fun σ G'=>∃n,σ=[some (.lint ns),some (.int k),some (.int n),none,none,none]∧G=G',?_,?_⟩
  ·by_cases h:k<ns.length
   ·refine it0 (by omega) ?_
    have e:ns[k]? = some ns[k]:=by simp[h]
    exact⟨_,Oj (by rw[List.getElem?_map,e];rfl),Fs.of ⟨_,rfl,rfl⟩⟩
   ·refine it1 (by omega) ?_
    exact Fs.of ⟨_,rfl,rfl⟩
  ·rintro σ' G' ⟨n,rfl,rfl⟩
   simp only[List.getElem?_cons_succ,List.getElem?_cons_zero,Option.some.injEq,sz,true_and,exists_eq_left',D.int.injEq,List.set_cons_succ,List.set_cons_zero]
   by_cases h:n % 2=0
   ·refine it0 h ?_
    exact fun p hp=>Fq.of (q p hp _ _)
   ·refine it1 h ?_
    refine Bu (fun i σ G'=>∃m v v',σ=[some (.lint ns),some (.int k),some (.int n),some (.int m),v,v']∧G=G') ⟨0,none,none,rfl,rfl⟩ ?_ ?_
    ·rintro i σ G' hi ⟨m,v,v',rfl,rfl⟩
     simp only[A2,Bk,Cr,nOp,Ap,List.set_cons_succ,List.set_cons_zero,List.getElem?_cons_succ,List.getElem?_cons_zero,Option.some.injEq,nC,dI,D.int.injEq,CMul,Int.reducePow,Int.reduceNeg,By,exists_eq_left',Int.reduceLT,true_and,and_self,or_true,true_or]
     have p1:∀x:Int,0≤x % 2147483647∧x % 2147483647<2147483647:=fun x=>⟨Int.emod_nonneg _ (by decide),Int.emod_lt_of_pos _ (by decide)⟩
     have p2:∀x:Int,0≤x % 2147483629∧x % 2147483629<2147483629:=fun x=>⟨Int.emod_nonneg _ (by decide),Int.emod_lt_of_pos _ (by decide)⟩
     exact⟨.inl ⟨Int.lt_of_lt_of_le (by decide) (p1 _).1,Int.lt_trans (p1 _).2 (by decide)⟩,.inl ⟨Int.lt_of_lt_of_le (by decide) (p2 _).1,Int.lt_trans (p2 _).2 (by decide)⟩,Fs.of ⟨_,_,_,rfl,rfl⟩⟩
    ·rintro σ G' ⟨m,v,v',rfl,rfl⟩
     simp only[A9,Eo,Ah,Ap,List.getElem?_cons_succ,List.getElem?_cons_zero,Option.some.injEq,nOp,nCB,Ao,List.cons.injEq,and_true,nC,dI,D.int.injEq,List.length_cons,List.length_nil,Nat.zero_add,Nat.reduceAdd,sz,true_and,exists_eq_left',Int.reduceLT]
     exact fun p hp=>Fq.of (q p hp _ _)
abbrev s_L_more:Stmt:=top 51
abbrev P1:List Str:=["_law_box_here", "_law_number", "_law_j"]
abbrev Cg:List Str:=["_law_box_here"]
theorem sc_L_more:FnScope P1 Cg (defScope s_L_more):=⟨rfl,rfl,rfl,by decide +kernel,rfl,by decide +kernel,by decide +kernel⟩
def Gz:DSp:=fun ds G Q _=>∃a,ds=[.ref a]∧∃b c,G a=some (.lst [.int b,.int c])∧∀n c',Q (.int n) (Ab G a (.lst [.int b,.int c']))
theorem Qx{f:Addr}{fd:FuncData}(F:Fun K "_law_more" "_law_more" s_L_more f fd)(T:Blt mg):FnOk P w K mg base CX0 1 f fd Cg (Ag K Gz):=by
 refine okD F sc_L_more (fun ds G Q E h=>?_) (fun cdv A outer s H XE ds G Q E hr h=>?_)
 ·obtain⟨a,rfl,_⟩:=h;rfl
 ·obtain⟨a,rfl,b,c,hG,k⟩:=h
  refine⟨_,(@qss_cons _ _ _ _ _ (@qs_set _ _ _ _ 1 _ _ sc_L_more.nd (@q_int _ _ _ _) (by rfl) (by exact .inl rfl) (by rfl) (by exact .inl rfl)) (@qss_cons _ _ _ _ _ (@qs_forR _ _ _ _ _ _ _ _ _ _ PassesOwn.never rfl (T.blt (by decide)) (@qa_consP _ _ _ _ _ (@q_int _ _ _ _) (@qa_nil _) (by rfl)) (@qg_name _ _ 2 _ sc_L_more.nd (by rfl) (by exact .inl rfl) (by exact .inl rfl)) (@qss_cons _ _ _ _ _ (@D8 _ _ _ _ _ _ (@q_op _ _ _ _ _ _ _ _ (@Dn _) (@q_op _ _ _ _ _ _ _ _ (@o_addD _) (@q_op _ _ _ _ _ _ _ _ (@Dm _) (@q_ix _ _ _ _ _ _ (@q_v1 _ _ 0 _ (by exact⟨rfl,rfl,rfl,rfl⟩)) (@q_int _ _ _ _) (by intro _ _ ;rfl)) (@q_int _ _ _ _)) (@q_int _ _ _ _)) (@q_int _ _ _ _)) (@J8 _ _ _ _ _ _ _ (@q_v1 _ _ 0 _ (by exact⟨rfl,rfl,rfl,rfl⟩)) (@q_int _ _ _ _) (@J6 _) (by intro _ ;rfl)) (by rfl) (by rfl) (by rfl)) (@qss_one _ _ _ (@qs_set _ _ _ _ 1 _ _ sc_L_more.nd (@q_op _ _ _ _ _ _ _ _ (@o_addD _) (@q_op _ _ _ _ _ _ _ _ (@Dm _) (@q_v1 _ _ 1 _ (by exact⟨rfl,rfl,rfl,rfl⟩)) (@q_int _ _ _ _)) (@q_op _ _ _ _ _ _ _ _ (@Dn _) (@q_op _ _ _ _ _ _ _ _ (@N3 _) (@q_ix _ _ _ _ _ _ (@q_v1 _ _ 0 _ (by exact⟨rfl,rfl,rfl,rfl⟩)) (@q_int _ _ _ _) (by intro _ _ ;rfl)) (@q_int _ _ _ _)) (@q_int _ _ _ _))) (by rfl) (by exact .inl rfl) (by rfl) (by exact .inl rfl)))) (by rfl) (by rfl) (by intro _ ;rfl)) (@qss_one _ _ _ (@qs_ret _ _ _ _ (@q_v1 _ _ 1 _ (by exact⟨rfl,rfl,rfl,rfl⟩)))))),?_⟩
  obtain⟨G,rfl⟩:=N7 hG
  simp only[Bk,Cr,nC,A2,E6,Ah,Ao,List.cons.injEq,D.int.injEq,and_true,Int.reducePow,Int.reduceNeg,Ak,List.map_cons,List.map_nil,List.length_cons,List.length_nil,Nat.zero_add,Nat.reduceAdd,Nat.reduceSub,List.replicate,List.cons_append,List.nil_append,List.set_cons_succ,List.set_cons_zero,and_assoc,exists_eq_left',Int.reduceLE,Int.reduceLT,Int.reduceToNat,true_and]
  refine Bu (fun i σ G'=>∃c' n v,σ=[some (.ref a),some (.int n),v]∧G'=Ab G a (.lst [.int b,.int c'])) ⟨c,0,none,rfl,rfl⟩ ?_ ?_
  ·rintro i σ G' hi ⟨c',n,v,rfl,rfl⟩
   simp only[A2,Bk,Cr,nOp,Ap,List.set_cons_succ,List.set_cons_zero,List.getElem?_cons_zero,Option.some.injEq,nC,dIx,D.int.injEq,dI,CMul,Int.reducePow,Int.reduceNeg,R8,Nq,List.getElem?_cons_succ,J1,By,exists_eq_left',Int.reduceLT,true_and,and_assoc,and_self,or_true,D.ref.injEq,B6 Aa,Aa,GO.lst.injEq,Bm,List.length_cons,List.length_nil,Nat.zero_add,Nat.reduceAdd,ix1,atI1]
   exact Fs.of ⟨_,_,_,rfl,rfl⟩
  ·rintro σ G' ⟨c',n,v,rfl,rfl⟩
   simp only[A9,Ap,List.getElem?_cons_succ,List.getElem?_cons_zero,Option.some.injEq,exists_eq_left']
   have k:=k n c'
   rw[Bm] at k
   exact Fq.of k
abbrev s_L_take:Stmt:=top 52
abbrev P0:List Str:=["_law_box_here", "_law_count", "_law_rest_of", "_law_digit"]
abbrev p_L_take:List Str:=["_law_box_here", "_law_count"]
theorem sc_L_take:FnScope P0 p_L_take (defScope s_L_take):=⟨rfl,rfl,rfl,by decide +kernel,rfl,by decide +kernel,by decide +kernel⟩
def spTake:DSp:=fun ds G Q _=>∃a c,ds=[.ref a,.int c]∧Ct (G a)∧(0<c∧c<1073741824)∧∀r b' c',0≤r→r<c→Q (.int r) (Ab G a (.lst [.int b',.int c']))
theorem Qv{f:Addr}{fd:FuncData}(F:Fun K "_law_take" "_law_take" s_L_take f fd)(T:Blt mg)(W5:Def P w K mg base CX0 1 "_law_more" Cg Gz):FnOk P w K mg base CX0 2 f fd p_L_take (Ag K spTake):=by
 refine okD F sc_L_take (fun ds G Q E h=>?_) (fun cdv A outer s H XE ds G Q E hr h=>?_)
 ·obtain⟨a,c,rfl,_⟩:=h;rfl
 ·obtain⟨a,c,rfl,⟨b,d,hG⟩,⟨c0,c1⟩,q⟩:=h
  refine⟨_,(@qss_cons _ _ _ _ _ (@qs_if _ _ _ _ _ _ _ _ (@qt_chain _ _ _ _ _ _ _ _ _ _ _ _ (@o_le _) (@P6 _) (@q_int _ _ _ _) (@q_ix _ _ _ _ _ _ (@q_v1 _ _ 0 _ (by exact⟨rfl,rfl,rfl,rfl⟩)) (@q_int _ _ _ _) (by intro _ _ ;rfl)) (@q_v1 _ _ 1 _ (by exact⟨rfl,rfl,rfl,rfl⟩)) (by with_unfolding_all rfl)) (@qss_one _ _ _ (@D8 _ _ _ _ _ _ (@q_op _ _ _ _ _ _ _ _ (@o_addD _) (@q_ix _ _ _ _ _ _ (@q_v1 _ _ 0 _ (by exact⟨rfl,rfl,rfl,rfl⟩)) (@q_int _ _ _ _) (by intro _ _ ;rfl)) (@q_op _ _ _ _ _ _ _ _ (@Dm _) (@q_v1 _ _ 1 _ (by exact⟨rfl,rfl,rfl,rfl⟩)) (@q_call _ _ _ _ _ _ _ _ noX _ _ _ W5 (hr.mono (by decide)) (@passN _ _) (@qa_consP _ _ _ _ _ (@q_v1 _ _ 0 _ (by exact⟨rfl,rfl,rfl,rfl⟩)) (@qa_nil _) (by rfl)) (by rfl) (by decide) (by rfl) (by rfl)))) (@J8 _ _ _ _ _ _ _ (@q_v1 _ _ 0 _ (by exact⟨rfl,rfl,rfl,rfl⟩)) (@q_int _ _ _ _) (@J6 _) (by intro _ ;rfl)) (by rfl) (by rfl) (by rfl))) (@qss_nil _)) (@qss_cons _ _ _ _ _ (@D8 _ _ _ _ _ _ (@q_callB _ _ _ _ _ _ _ _ _ (@Pr _) (T.blt (by decide)) (by decide +kernel) (@qa_consP _ _ _ _ _ (@q_ix _ _ _ _ _ _ (@q_v1 _ _ 0 _ (by exact⟨rfl,rfl,rfl,rfl⟩)) (@q_int _ _ _ _) (by intro _ _ ;rfl)) (@qa_consP _ _ _ _ _ (@q_v1 _ _ 1 _ (by exact⟨rfl,rfl,rfl,rfl⟩)) (@qa_nil _) (by rfl)) (by rfl)) (by rfl) (by decide) (by decide) (by rfl) (by rfl)) (@J7 _ _ _ _ _ 2 rfl (@Ce _ _ _ _ _ (@qg_name _ _ 2 _ sc_L_take.nd (by rfl) (by exact .inl rfl) (by exact .inl rfl)) (@Ce _ _ _ _ _ (@qg_name _ _ 3 _ sc_L_take.nd (by rfl) (by exact .inl rfl) (by exact .inl rfl)) (@Hh _) (by rfl)) (by rfl)) (by rfl) (by rfl)) (by rfl) (by rfl) (by rfl)) (@qss_cons _ _ _ _ _ (@D8 _ _ _ _ _ _ (@q_v1 _ _ 2 _ (by exact⟨rfl,rfl,rfl,rfl⟩)) (@J8 _ _ _ _ _ _ _ (@q_v1 _ _ 0 _ (by exact⟨rfl,rfl,rfl,rfl⟩)) (@q_int _ _ _ _) (@J6 _) (by intro _ ;rfl)) (by rfl) (by rfl) (by rfl)) (@qss_one _ _ _ (@qs_ret _ _ _ _ (@q_v1 _ _ 3 _ (by exact⟨rfl,rfl,rfl,rfl⟩))))))),?_⟩
  have h2 : -18446744073709551616<c∧c<18446744073709551616:=by omega
  obtain⟨G,rfl⟩:=N7 hG
  simp only[Bk,Cb,Bg,Cc,nC,nOp,Ap,Ak,List.map_cons,List.map_nil,List.length_cons,List.length_nil,Nat.zero_add,Nat.reduceAdd,Nat.reduceSub,List.replicate,List.cons_append,List.nil_append,List.getElem?_cons_zero,Option.some.injEq,dIx,D.int.injEq,dI0,D.bl.injEq,List.getElem?_cons_succ,Cr,Ar,Ah,Ao,Gz,List.cons.injEq,and_true,dI,CMul,Int.reducePow,Int.reduceNeg,R8,Nq,nCB,J1,P7,D.tup.injEq,La,A2,P8,List.set_cons_succ,List.set_cons_zero,A9,exists_eq_left',D.ref.injEq,and_assoc,exists_and_left,true_and,c0,c1,B6 Aa,Aa,GO.lst.injEq,Bm,List.length_set,h2,and_self,true_or,Jz,By,ix0,A8,decide_eq_true_eq,reduceCtorEq,if_false]
  have fin:∀(n d':Int),Fq Q (.int (n % c)) (Ab G a (.lst [.int (n / c),.int d'])):=fun n d'=>by
   have:=q (n % c) (n / c) d' (Int.emod_nonneg _ (by omega)) (Int.emod_lt_of_pos _ c0)
   rw[Bm] at this
   exact Fq.of this
  by_cases h0:0≤b
  ·refine it0 h0 ?_
   by_cases h1:b<c
   ·refine it0 h1 ?_
    intro n d'
    exact fin _ _
   ·refine it1 h1 ?_
    exact fin _ _
  ·refine it1 h0 ?_
   exact fin _ _
def hid(G:Gp)(a:Addr):Gp:=fun b=>if b=a then none else G b
theorem Ra{G:Gp}{a:Addr}:Sub (hid G a) G:=fun b o h=>by
 unfold hid at h
 split at h
 ·cases h
 ·exact h
theorem Rc{G:Gp}{a:Addr}{o:GO}:hid (Ab G a o) a=hid G a:=by
 funext b;unfold hid Ab
 by_cases e:b=a<;>simp[e]
theorem Lo{G:Gp}{a p:Addr}{o:GO}(h:a≠p):hid (Ab G p o) a=Ab (hid G a) p o:=by
 funext b;unfold hid Ab
 by_cases e:b=a
 ·subst e;simp[h]
 ·simp[e]
theorem Ft{G:Gp}{a p:Addr}(h:G p=none):hid G a p=none:=by
 unfold hid;split<;>first|rfl|exact h
structure Step(a:Addr)(G G':Gp):Prop where
 box:Ct (G' a)
 sub:Sub (hid G a) (hid G' a)
theorem Step.trans{a:Addr}{G G1 G2:Gp}(x:Step a G G1)(y:Step a G1 G2):Step a G G2:=⟨y.box,x.sub.trans y.sub⟩
theorem Step.refl{a:Addr}{G:Gp}(h:Ct (G a)):Step a G G:=⟨h,Sub.refl _⟩
theorem Step.take{a:Addr}{G G1:Gp}(x:Step a G G1)(b c:Int):Step a G (Ab G1 a (.lst [.int b,.int c])):=⟨⟨b,c,Aa⟩,by rw[Rc];exact x.sub⟩
theorem Step.ne{a p:Addr}{G:Gp}(x:Ct (G a))(h:G p=none):a≠p:=fun e=>by subst e;obtain⟨b,c,hb⟩:=x;rw[h] at hb;cases hb
theorem Step.lay{a p:Addr}{G G1:Gp}{o:GO}(x:Step a G G1)(h:G1 p=none):Step a G (Ab G1 p o):=by
 have n:=Step.ne x.box h
 obtain⟨b,c,hb⟩:=x.box
 exact⟨⟨b,c,by rw[As n];exact hb⟩,by rw[Lo n];exact x.sub.skip (Ft h)⟩
theorem Step.get{a p:Addr}{G G1:Gp}{o:GO}(x:Step a G G1)(n:a≠p)(h:G p=some o):G1 p=some o:=by
 have e:hid G a p=some o:=by unfold hid;rw[if_neg (Ne.symm n)];exact h
 exact Ra _ _ (x.sub p o e)
theorem Step.back{a b:Addr}{G G1:Gp}(x:Step a G G1)(h:G1 b=none):G b=none:=by
 have n:=Step.ne x.box h
 have e:=x.sub.none (Ft (a:=a) h)
 unfold hid at e
 rwa [if_neg (Ne.symm n)] at e
theorem Step.write{a p:Addr}{G G1:Gp}{o:GO}(x:Step a G G1)(h:G p=none)(n:a≠p):Step a G (Ab G1 p o):=by
 obtain⟨b,c,hb⟩:=x.box
 refine⟨⟨b,c,by rw[As n];exact hb⟩,?_⟩
 rw[Lo n]
 intro d u e
 by_cases ed:d=p
 ·subst ed
  have:=Ft (a:=a) h
  rw[this] at e;cases e
 ·rw[As ed];exact x.sub d u e
theorem Al{G:Gp}{a p:Addr}{o u:GO}(g:G a=some o)(h:G p=none):Ab G p u a=some o:=by rw[As (gne g h)];exact g
theorem A5{G:Gp}{a:Addr}{c:Int}{Q:DK}{E:DX}(hb:Ct (G a))(c0:0<c)(c1:c<1073741824)(h:∀r G',0≤r→r<c→Step a G G'→Q (.int r) G'):spTake [.ref a,.int c] G Q E:=
 ⟨a,c,rfl,hb,⟨c0,c1⟩,fun r b' c' h0 h1=>h r _ h0 h1 ((Step.refl hb).take b' c')⟩
end
section
variable{P:Program}{w:World}{K:W.Frag}{mg:Str→Option Value}{base:Heap}
def Ae(lo hi:Int):D→Bool
 |.int i=>decide (lo≤i)&&decide (i≤hi)
 |_=>false
structure Nums(mg:Str→Option Value):Prop extends Blt mg where
 LEAST_COLUMNS:∃t,mg "LEAST_COLUMNS" = some (.int 2 t)
 MOST_COLUMNS:∃t,mg "MOST_COLUMNS" = some (.int 16 t)
 LEAST_ROWS:∃t,mg "LEAST_ROWS" = some (.int 1 t)
 MOST_ROWS:∃t,mg "MOST_ROWS" = some (.int 9 t)
 LAND:∃t,mg "LAND" = some (.int 0 t)
 MOST_DEPTH:∃t,mg "MOST_DEPTH" = some (.int 9 t)
 LEAST_DRAUGHT:∃t,mg "LEAST_DRAUGHT" = some (.int 1 t)
 MOST_DRAUGHT:∃t,mg "MOST_DRAUGHT" = some (.int 9 t)
 LAST_DAY:∃t,mg "LAST_DAY" = some (.int 400 t)
abbrev s_is_whole_within:Stmt:=top 21
abbrev D5:List Str:=["thing", "low", "high"]
abbrev Aj:List Str:=["thing", "low", "high"]
theorem Dk:FnScope D5 Aj (defScope s_is_whole_within):=⟨rfl,rfl,rfl,by decide +kernel,rfl,by decide +kernel,by decide +kernel⟩
def B0:DSp:=fun ds G Q _=>∃d lo hi,ds=[d,.int lo,.int hi]∧Kn G d∧Q (.bl (Ae lo hi d)) G
theorem O8{f:Addr}{fd:FuncData}(F:Fun K "is_whole_within" "is_whole_within" s_is_whole_within f fd)(T:Nums mg):FnOk P w K mg base CX0 1 f fd Aj (Ag K B0):=by
 refine okD F Dk (fun ds G Q E h=>?_) (fun cdv A outer s H XE ds G Q E hr h=>?_)
 ·obtain⟨d,lo,hi,rfl,_⟩:=h;rfl
 ·obtain⟨d,lo,hi,rfl,⟨t,ht⟩,k⟩:=h
  refine⟨_,(@qss_one _ _ _ (@qs_ret _ _ _ _ (@q_and _ _ _ _ _ _ _ (@q_callB _ _ _ _ _ _ _ _ _ (@c_isinst _) (T.blt (by decide)) (by decide +kernel) (@qa_consP _ _ _ _ _ (@q_v1 _ _ 0 _ (by exact⟨rfl,rfl,rfl,rfl⟩)) (@qa_consP _ _ _ _ _ (@q_globty _ _ _ "int" (T.blt (by decide)) (by decide +kernel) (by rfl) (by decide) (by decide)) (@qa_nil _) (by rfl)) (by rfl)) (by rfl) (by decide) (by decide) (by rfl) (by rfl)) (@q_and _ _ _ _ _ _ _ (@q_not _ _ _ _ (@q_callB _ _ _ _ _ _ _ _ _ (@c_isinst _) (T.blt (by decide)) (by decide +kernel) (@qa_consP _ _ _ _ _ (@q_v1 _ _ 0 _ (by exact⟨rfl,rfl,rfl,rfl⟩)) (@qa_consP _ _ _ _ _ (@q_globty _ _ _ "bool" (T.blt (by decide)) (by decide +kernel) (by rfl) (by decide) (by decide)) (@qa_nil _) (by rfl)) (by rfl)) (by rfl) (by decide) (by decide) (by rfl) (by rfl))) (@Ni _ _ _ _ _ (@Lf _ _ _ _ _ _ _ _ _ _ _ _ (@o_le _) (@o_le _) (@q_v1 _ _ 1 _ (by exact⟨rfl,rfl,rfl,rfl⟩)) (@q_v1 _ _ 0 _ (by exact⟨rfl,rfl,rfl,rfl⟩)) (@q_v1 _ _ 2 _ (by exact⟨rfl,rfl,rfl,rfl⟩)) (by with_unfolding_all rfl))))))),?_⟩
  simp only[A9,K9,nCB,Ah,Ap,Ak,List.map_cons,List.map_nil,List.length_cons,List.length_nil,Nat.zero_add,Nat.reduceAdd,Nat.reduceSub,List.replicate,List.cons_append,List.nil_append,List.getElem?_cons_zero,Option.some.injEq,nC,Ao,List.cons.injEq,D.ty.injEq,and_true,D.bl.injEq,Nn,Cc,List.getElem?_cons_succ,dI0,exists_eq_left',D.int.injEq,decide_eq_true_eq,and_assoc,exists_and_left,Ey,true_and,ht,Og]
  have other:(pyIs t "int" = false∨pyIs t "bool" = true)→Q (.bl false) G→if pyIs t "int" = true then if (!pyIs t "bool")=true then ∃j,d=D.int j∧if lo≤j then ∃i,d=D.int i∧Fq Q (D.bl (decide (i≤hi))) G else Fq Q (D.bl false) G else Fq Q (D.bl false) G else Fq Q (D.bl false) G:=fun h q=>by
   rcases h with h|h
   ·rw[h,if_neg Bool.false_ne_true];exact Fq.of q
   ·rw[h];split
    ·rw[if_neg (by decide)];exact Fq.of q
    ·exact Fq.of q
  cases d with
  |int i=>
   cases ht
   rw[if_pos (by decide),if_pos (by decide)]
   refine⟨i,rfl,?_⟩
   by_cases h:lo≤i
   ·rw[if_pos h]
    refine⟨i,rfl,Fq.of ?_⟩
    simpa[Ae,h] using k
   ·rw[if_neg h]
    refine Fq.of ?_
    simpa[Ae,h] using k
  |bl b=>cases ht;exact other (.inr (by decide)) k
  |non=>cases ht;exact other (.inl (by decide)) k
  |str x=>cases ht;exact other (.inl (by decide)) k
  |tup ds=>cases ht;exact other (.inl (by decide)) k
  |ty n=>cases ht
  |lint ns=>cases ht
  |ref a=>
   refine other (.inl ?_) k
   simp only[Ay] at ht
   split at ht<;>first|(cases ht;decide)|cases ht
def Bp(c:List Int):D:=.tup (c.map D.int)
def Bo(s:List (List Int)):D:=.tup (s.map Bp)
structure SeaOk(s:List (List Int))(h:Nat):Prop where
 wide:2≤s.length∧s.length≤16
 high:1≤h∧h≤9
 col:∀c∈s,c.length=h∧∀x∈c,0≤x∧x≤9
theorem Dq{G:Gp}{d:D}{t:String}(ht:Ay G d=some t)(h:t≠"tuple"):pyIs t "tuple" = false∧∀xs,d≠.tup xs:=by
 refine⟨?_,fun xs e=>by subst e;cases ht;exact h rfl⟩
 have:=Fv ht
 simp only[List.mem_cons,List.not_mem_nil,or_false] at this
 rcases this with rfl|rfl|rfl|rfl|rfl|rfl|rfl<;>first|rfl|exact absurd rfl h
theorem Dy{α:Type}{xs:List α}:xs.filter (fun _=>true)=xs:=List.filter_eq_self.mpr fun _ _=>rfl
def Cp(lo hi:Int):DSp:=fun ds G Q _=>∃d,ds=[d]∧Kn G d∧Q (.bl (Ae lo hi d)) G
abbrev s_is_depth:Stmt:=top 32
abbrev K0:List Str:=["thing"]
abbrev Br:List Str:=["thing"]
theorem Jk:FnScope K0 Br (defScope s_is_depth):=⟨rfl,rfl,rfl,by decide +kernel,rfl,by decide +kernel,by decide +kernel⟩
theorem Pc{f:Addr}{fd:FuncData}(F:Fun K "is_depth" "is_depth" s_is_depth f fd)(T:Nums mg)(Wx:Def P w K mg base CX0 1 "is_whole_within" Aj B0):FnOk P w K mg base CX0 2 f fd Br (Ag K (Cp 0 9)):=by
 refine okD F Jk (fun ds G Q E h=>?_) (fun cdv A outer s H XE ds G Q E hr h=>?_)
 ·obtain⟨d,rfl,_⟩:=h;rfl
 ·obtain⟨d,rfl,kn,k⟩:=h
  refine⟨_,(@qss_one _ _ _ (@qs_ret _ _ _ _ (@q_call _ _ _ _ _ _ _ _ noX _ _ _ Wx (hr.mono (by decide)) (@passN _ _) (@qa_consP _ _ _ _ _ (@q_v1 _ _ 0 _ (by exact⟨rfl,rfl,rfl,rfl⟩)) (@qa_consP _ _ _ _ _ (@q_globx _ _ _ _ T.LAND (by rfl) (by decide)) (@qa_consP _ _ _ _ _ (@q_globx _ _ _ _ T.MOST_DEPTH (by rfl) (by decide)) (@qa_nil _) (by rfl)) (by rfl)) (by rfl)) (by rfl) (by decide) (by rfl) (by rfl)))),?_⟩
  simp only[A9,Ar,Ah,Ap,Ak,List.map_cons,List.map_nil,List.length_cons,List.length_nil,Nat.zero_add,Nat.reduceSub,List.replicate,List.cons_append,List.nil_append,List.getElem?_cons_zero,Option.some.injEq,nC,Ao,B0,List.cons.injEq,D.int.injEq,and_true,and_assoc,exists_and_left,exists_eq_left',kn,true_and]
  exact Fq.of k
abbrev s_is_draught:Stmt:=top 33
abbrev Ic:List Str:=["thing"]
abbrev A7:List Str:=["thing"]
theorem F4:FnScope Ic A7 (defScope s_is_draught):=⟨rfl,rfl,rfl,by decide +kernel,rfl,by decide +kernel,by decide +kernel⟩
theorem Kq{f:Addr}{fd:FuncData}(F:Fun K "is_draught" "is_draught" s_is_draught f fd)(T:Nums mg)(Wx:Def P w K mg base CX0 1 "is_whole_within" Aj B0):FnOk P w K mg base CX0 2 f fd A7 (Ag K (Cp 1 9)):=by
 refine okD F F4 (fun ds G Q E h=>?_) (fun cdv A outer s H XE ds G Q E hr h=>?_)
 ·obtain⟨d,rfl,_⟩:=h;rfl
 ·obtain⟨d,rfl,kn,k⟩:=h
  refine⟨_,(@qss_one _ _ _ (@qs_ret _ _ _ _ (@q_call _ _ _ _ _ _ _ _ noX _ _ _ Wx (hr.mono (by decide)) (@passN _ _) (@qa_consP _ _ _ _ _ (@q_v1 _ _ 0 _ (by exact⟨rfl,rfl,rfl,rfl⟩)) (@qa_consP _ _ _ _ _ (@q_globx _ _ _ _ T.LEAST_DRAUGHT (by rfl) (by decide)) (@qa_consP _ _ _ _ _ (@q_globx _ _ _ _ T.MOST_DRAUGHT (by rfl) (by decide)) (@qa_nil _) (by rfl)) (by rfl)) (by rfl)) (by rfl) (by decide) (by rfl) (by rfl)))),?_⟩
  simp only[A9,Ar,Ah,Ap,Ak,List.map_cons,List.map_nil,List.length_cons,List.length_nil,Nat.zero_add,Nat.reduceSub,List.replicate,List.cons_append,List.nil_append,List.getElem?_cons_zero,Option.some.injEq,nC,Ao,B0,List.cons.injEq,D.int.injEq,and_true,and_assoc,exists_and_left,exists_eq_left',kn,true_and]
  exact Fq.of k
abbrev s_is_day:Stmt:=top 34
abbrev Pz:List Str:=["thing"]
abbrev Cf:List Str:=["thing"]
theorem Mb:FnScope Pz Cf (defScope s_is_day):=⟨rfl,rfl,rfl,by decide +kernel,rfl,by decide +kernel,by decide +kernel⟩
theorem Tt{f:Addr}{fd:FuncData}(F:Fun K "is_day" "is_day" s_is_day f fd)(T:Nums mg)(Wx:Def P w K mg base CX0 1 "is_whole_within" Aj B0):FnOk P w K mg base CX0 2 f fd Cf (Ag K (Cp 0 400)):=by
 refine okD F Mb (fun ds G Q E h=>?_) (fun cdv A outer s H XE ds G Q E hr h=>?_)
 ·obtain⟨d,rfl,_⟩:=h;rfl
 ·obtain⟨d,rfl,kn,k⟩:=h
  refine⟨_,(@qss_one _ _ _ (@qs_ret _ _ _ _ (@q_call _ _ _ _ _ _ _ _ noX _ _ _ Wx (hr.mono (by decide)) (@passN _ _) (@qa_consP _ _ _ _ _ (@q_v1 _ _ 0 _ (by exact⟨rfl,rfl,rfl,rfl⟩)) (@qa_consP _ _ _ _ _ (@q_int _ _ _ _) (@qa_consP _ _ _ _ _ (@q_globx _ _ _ _ T.LAST_DAY (by rfl) (by decide)) (@qa_nil _) (by rfl)) (by rfl)) (by rfl)) (by rfl) (by decide) (by rfl) (by rfl)))),?_⟩
  simp only[A9,Ar,Ah,Ap,Ak,List.map_cons,List.map_nil,List.length_cons,List.length_nil,Nat.zero_add,Nat.reduceSub,List.replicate,List.cons_append,List.nil_append,List.getElem?_cons_zero,Option.some.injEq,nC,Ao,B0,List.cons.injEq,D.int.injEq,and_true,and_assoc,exists_and_left,exists_eq_left',kn,true_and]
  exact Fq.of k
def Cs:D→Bool
 |.tup xs=>decide (1≤xs.length)&&decide (xs.length≤9)&&xs.all (Ae 0 9)
 |_=>false
def Ba:D→Nat
 |.tup xs=>xs.length
 |_=>0
def Dd:D→Bool
 |.tup cs=>decide (2≤cs.length)&&decide (cs.length≤16)&&(cs.all Cs&&cs.all fun c=>decide (Ba c=Ba (cs.headD .non)))
 |_=>false
def SzT(d:D):Prop:=∀xs,d=.tup xs→xs.length<sizeLine∧∀y∈xs,∀ys,y=.tup ys→ys.length<sizeLine
abbrev s_is_column:Stmt:=top 35
abbrev Jv:List Str:=["thing"]
abbrev Bi:List Str:=["thing"]
theorem Ht:FnScope Jv Bi (defScope s_is_column):=⟨rfl,rfl,rfl,by decide +kernel,rfl,by decide +kernel,by decide +kernel⟩
theorem F1:((["depth"]:List Str)++(["thing"]:List Str)).Nodup:=by decide +kernel
def K5:DSp:=fun ds G Q _=>∃d,ds=[d]∧KnT G 1 d∧(∀xs,d=.tup xs→xs.length<sizeLine)∧Q (.bl (Cs d)) G
theorem Tu{f:Addr}{fd:FuncData}(F:Fun K "is_column" "is_column" s_is_column f fd)(T:Nums mg)(W6:Def P w K mg base CX0 2 "is_depth" Br (Cp 0 9)):FnOk P w K mg base CX0 3 f fd Bi (Ag K K5):=by
 refine okD F Ht (fun ds G Q E h=>?_) (fun cdv A outer s H XE ds G Q E hr h=>?_)
 ·obtain⟨d,rfl,_⟩:=h;rfl
 ·obtain⟨d,rfl,kn,hz,k⟩:=h
  refine⟨_,(@qss_cons _ _ _ _ _ (@qs_if _ _ _ _ _ _ _ _ (@qt_of _ _ _ (@qw_or _ _ _ _ _ _ _ (@qt_not _ _ _ _ (@qt_tru _ _ _ (@q_callB _ _ _ _ _ _ _ _ _ (@c_isinst _) (T.blt (by decide)) (by decide +kernel) (@qa_consP _ _ _ _ _ (@q_v1 _ _ 0 _ (by exact⟨rfl,rfl,rfl,rfl⟩)) (@qa_consP _ _ _ _ _ (@q_globty _ _ _ "tuple" (T.blt (by decide)) (by decide +kernel) (by rfl) (by decide) (by decide)) (@qa_nil _) (by rfl)) (by rfl)) (by rfl) (by decide) (by decide) (by rfl) (by rfl)) (by intro _ ;rfl))) (@qw_or1 _ _ _ _ (@qt_not _ _ _ _ (@qt_chain _ _ _ _ _ _ _ _ _ _ _ _ (@o_le _) (@o_le _) (@q_globx _ _ _ _ T.LEAST_ROWS (by rfl) (by decide)) (@q_callB _ _ _ _ _ _ _ _ _ (@c_len _) (T.blt (by decide)) (by decide +kernel) (@qa_consP _ _ _ _ _ (@q_v1 _ _ 0 _ (by exact⟨rfl,rfl,rfl,rfl⟩)) (@qa_nil _) (by rfl)) (by rfl) (by decide) (by decide) (by rfl) (by rfl)) (@q_globx _ _ _ _ T.MOST_ROWS (by rfl) (by decide)) (by with_unfolding_all rfl)))))) (@qss_one _ _ _ (@qs_ret _ _ _ _ (@q_bl _ _ _ _))) (@qss_nil _)) (@qss_one _ _ _ (@qs_ret _ _ _ _ (@q_callB _ _ _ _ _ _ _ _ _ (@c_all _ rfl) (T.blt (by decide)) (by decide +kernel) (@qa_consP _ _ _ _ _ (@q_compz _ _ _ _ _ _ _ _ _ _ _ ["depth"] ["thing"] rfl (@compOz _ _ _ _ (by rfl) (by rfl) (by rfl) (by rfl) (by rfl)) (@q_v1 _ _ 0 _ (by exact⟨rfl,rfl,rfl,rfl⟩)) (fun _ _ _=>(@qg_name _ _ 0 _ F1 (by rfl) (by exact .inl rfl) (by exact .inr rfl))) (fun _ _ _=>(@qf_nil _)) (fun _ _ _=>(@q_call _ _ _ _ _ _ _ _ noX _ _ _ W6 (hr.mono (by decide)) (@passN _ _) (@qa_consP _ _ _ _ _ (@q_v1 _ _ 0 _ (by exact⟨rfl,rfl,rfl,rfl⟩)) (@qa_nil _) (by rfl)) (by rfl) (by decide) (by rfl) (by rfl))) (by intro _ ;rfl)) (@qa_nil _) (by rfl)) (by rfl) (by decide) (by decide) (by rfl) (by rfl))))),?_⟩
  obtain⟨t,ht⟩:=kn.kn
  simp only[Bk,Cb,nOr,Df,De,nCB,Ah,Ap,Ak,List.map_cons,List.map_nil,List.length_cons,List.length_nil,Nat.zero_add,Nat.reduceSub,List.replicate,List.cons_append,List.nil_append,List.getElem?_cons_zero,Option.some.injEq,nC,Ao,List.cons.injEq,D.ty.injEq,and_true,A9,A8,Hb,exists_eq_left',if_true,Bg,Cc,dI0,D.int.injEq,D.bl.injEq,Bool.not_false,decide_eq_true_eq,and_assoc,exists_and_left,B7,true_and,ht]
  refine⟨pyIs t "tuple",rfl,?_⟩
  by_cases htt:t = "tuple"
  ·subst htt
   obtain⟨xs,rfl⟩:=Fc ht
   refine it1 (by decide) ⟨xs.length,rfl,?_⟩
   have k2:Q (.bl (decide (1≤xs.length)&&decide (xs.length≤9)&&xs.all (Ae 0 9))) G:=k
   have hz1:=hz xs rfl
   by_cases h1:1≤xs.length
   ·refine it0 (by omega) ?_
    by_cases h9:xs.length≤9
    ·refine it1 (by simp;omega) ?_
     rw[decide_eq_true h1,decide_eq_true h9] at k2
     refine⟨xs,rfl,fun p hp=>?_⟩
     refine Cn (fun x=>.bl (Ae 0 9 x)) (fun _=>true) hz1 (fun _=>rfl) (by decide) (fun x ys hx hl R1 R2 g1 _=>?_) ?_
     ·have kx:Kn (Ab G p (.lst ys)) x:=Kn.new (kn.2 xs rfl x hx) hp
      simp only[E5,Ar,Ah,Ap,List.replicate,List.cons_append,List.nil_append,List.set_cons_zero,List.getElem?_cons_zero,Option.some.injEq,Ao,Cp,List.cons.injEq,and_true,Aa,hl,Bm,true_and,exists_eq_left',kx,if_true]
      exact Fg.of (g1 rfl)
     ·refine⟨p,rfl,xs.map (Ae 0 9),by rw[Aa,Dy,List.map_map];rfl,G,Sub.new hp,?_⟩
      simpa[List.all_map] using k2
    ·refine it0 (by simp;omega) (Fq.of ?_)
     simpa[h9] using k2
   ·refine it1 (by omega) (Fq.of ?_)
    simpa[h1] using k2
  ·obtain⟨e,nt⟩:=Dq ht htt
   rw[e]
   refine it0 (by decide) (Fq.of ?_)
   cases d with
   |tup xs=>exact absurd rfl (nt xs)
   |_=>exact k
abbrev s_is_sea:Stmt:=top 36
abbrev Py:List Str:=["thing"]
abbrev p_is_sea:List Str:=["thing"]
theorem Ma:FnScope Py p_is_sea (defScope s_is_sea):=⟨rfl,rfl,rfl,by decide +kernel,rfl,by decide +kernel,by decide +kernel⟩
theorem nd_is_sea_1:((["column"]:List Str)++(["thing"]:List Str)).Nodup:=by decide +kernel
theorem Jn:((["column"]:List Str)++(["thing"]:List Str)).Nodup:=by decide +kernel
def spSeaT:DSp:=fun ds G Q _=>∃d,ds=[d]∧KnT G 2 d∧SzT d∧Q (.bl (Dd d)) G
theorem Qw{f:Addr}{fd:FuncData}(F:Fun K "is_sea" "is_sea" s_is_sea f fd)(T:Nums mg)(W7:Def P w K mg base CX0 3 "is_column" Bi K5):FnOk P w K mg base CX0 4 f fd p_is_sea (Ag K spSeaT):=by
 refine okD F Ma (fun ds G Q E h=>?_) (fun cdv A outer s H XE ds G Q E hr h=>?_)
 ·obtain⟨d,rfl,_⟩:=h;rfl
 ·obtain⟨d,rfl,kn,hz,k⟩:=h
  refine⟨_,(@qss_cons _ _ _ _ _ (@qs_if _ _ _ _ _ _ _ _ (@qt_of _ _ _ (@qw_or _ _ _ _ _ _ _ (@qt_not _ _ _ _ (@qt_tru _ _ _ (@q_callB _ _ _ _ _ _ _ _ _ (@c_isinst _) (T.blt (by decide)) (by decide +kernel) (@qa_consP _ _ _ _ _ (@q_v2 _ _ 0 _ (by exact⟨rfl,rfl,rfl,rfl⟩)) (@qa_consP _ _ _ _ _ (@q_globty _ _ _ "tuple" (T.blt (by decide)) (by decide +kernel) (by rfl) (by decide) (by decide)) (@qa_nil _) (by rfl)) (by rfl)) (by rfl) (by decide) (by decide) (by rfl) (by rfl)) (by intro _ ;rfl))) (@qw_or1 _ _ _ _ (@qt_not _ _ _ _ (@qt_chain _ _ _ _ _ _ _ _ _ _ _ _ (@o_le _) (@o_le _) (@q_globx _ _ _ _ T.LEAST_COLUMNS (by rfl) (by decide)) (@q_callB _ _ _ _ _ _ _ _ _ (@c_len _) (T.blt (by decide)) (by decide +kernel) (@qa_consP _ _ _ _ _ (@q_v2 _ _ 0 _ (by exact⟨rfl,rfl,rfl,rfl⟩)) (@qa_nil _) (by rfl)) (by rfl) (by decide) (by decide) (by rfl) (by rfl)) (@q_globx _ _ _ _ T.MOST_COLUMNS (by rfl) (by decide)) (by with_unfolding_all rfl)))))) (@qss_one _ _ _ (@qs_ret _ _ _ _ (@q_bl _ _ _ _))) (@qss_nil _)) (@qss_cons _ _ _ _ _ (@qs_if _ _ _ _ _ _ _ _ (@qt_not _ _ _ _ (@qt_tru _ _ _ (@q_callB _ _ _ _ _ _ _ _ _ (@c_all _ rfl) (T.blt (by decide)) (by decide +kernel) (@qa_consP _ _ _ _ _ (@q_compz _ _ _ _ _ _ _ _ _ _ _ ["column"] ["thing"] rfl (@compOz _ _ _ _ (by rfl) (by rfl) (by rfl) (by rfl) (by rfl)) (@q_v2 _ _ 0 _ (by exact⟨rfl,rfl,rfl,rfl⟩)) (fun _ _ _=>(@qg_name _ _ 0 _ nd_is_sea_1 (by rfl) (by exact .inl rfl) (by exact .inr rfl))) (fun _ _ _=>(@qf_nil _)) (fun _ _ _=>(@q_call _ _ _ _ _ _ _ _ noX _ _ _ W7 (hr.mono (by decide)) (@passN _ _) (@qa_consP _ _ _ _ _ (@q_v1 _ _ 0 _ (by exact⟨rfl,rfl,rfl,rfl⟩)) (@qa_nil _) (by rfl)) (by rfl) (by decide) (by rfl) (by rfl))) (by intro _ ;rfl)) (@qa_nil _) (by rfl)) (by rfl) (by decide) (by decide) (by rfl) (by rfl)) (by intro _ ;rfl))) (@qss_one _ _ _ (@qs_ret _ _ _ _ (@q_bl _ _ _ _))) (@qss_nil _)) (@qss_one _ _ _ (@qs_ret _ _ _ _ (@q_callB _ _ _ _ _ _ _ _ _ (@c_all _ rfl) (T.blt (by decide)) (by decide +kernel) (@qa_consP _ _ _ _ _ (@q_compz _ _ _ _ _ _ _ _ _ _ _ ["column"] ["thing"] rfl (@compOz _ _ _ _ (by rfl) (by rfl) (by rfl) (by rfl) (by rfl)) (@q_v2 _ _ 0 _ (by exact⟨rfl,rfl,rfl,rfl⟩)) (fun _ _ _=>(@qg_name _ _ 0 _ Jn (by rfl) (by exact .inl rfl) (by exact .inr rfl))) (fun _ _ _=>(@qf_nil _)) (fun _ _ _=>(@Nk _ _ _ _ _ _ _ _ (@Gw _) (@q_callB _ _ _ _ _ _ _ _ _ (@c_len _) (T.blt (by decide)) (by decide +kernel) (@qa_consP _ _ _ _ _ (@q_v1 _ _ 0 _ (by exact⟨rfl,rfl,rfl,rfl⟩)) (@qa_nil _) (by rfl)) (by rfl) (by decide) (by decide) (by rfl) (by rfl)) (@q_callB _ _ _ _ _ _ _ _ _ (@c_len _) (T.blt (by decide)) (by decide +kernel) (@qa_consP _ _ _ _ _ (@q_ix _ _ _ _ _ _ (@q_v2 _ _ 1 _ (by exact⟨rfl,rfl,rfl,rfl⟩)) (@q_int _ _ _ _) (by intro _ _ ;rfl)) (@qa_nil _) (by rfl)) (by rfl) (by decide) (by decide) (by rfl) (by rfl)) (nomark _))) (by intro _ ;rfl)) (@qa_nil _) (by rfl)) (by rfl) (by decide) (by decide) (by rfl) (by rfl)))))),?_⟩
  obtain⟨t,ht⟩:=kn.kn
  simp only[Bk,Cb,nOr,Df,De,nCB,Ah,Ap,Ak,List.map_cons,List.map_nil,List.length_cons,List.length_nil,Nat.zero_add,Nat.reduceSub,List.replicate,List.cons_append,List.nil_append,List.getElem?_cons_zero,Option.some.injEq,nC,Ao,List.cons.injEq,D.ty.injEq,and_true,A9,A8,Hb,exists_eq_left',if_true,Bg,Cc,dI0,D.int.injEq,D.bl.injEq,Bool.not_false,decide_eq_true_eq,and_assoc,exists_and_left,B7,true_and,ht]
  refine⟨pyIs t "tuple",rfl,?_⟩
  by_cases htt:t = "tuple"
  ·subst htt
   obtain⟨xs,rfl⟩:=Fc ht
   refine it1 (by decide) ⟨xs.length,rfl,?_⟩
   have k2:Q (.bl (decide (2≤xs.length)&&decide (xs.length≤16)&&(xs.all Cs&&xs.all fun c=>decide (Ba c=Ba (xs.headD .non))))) G:=k
   obtain⟨hz1,hz2⟩:=hz xs rfl
   by_cases h1:2≤xs.length
   ·refine it0 (by omega) ?_
    by_cases h9:xs.length≤16
    ·refine it1 (by simp;omega) ?_
     rw[decide_eq_true h1,decide_eq_true h9] at k2
     refine⟨xs,rfl,fun p hp=>?_⟩
     refine Cn (fun x=>.bl (Cs x)) (fun _=>true) hz1 (fun _=>rfl) (by decide) (fun x ys hx hl R1 R2 g1 _=>?_) ?_
     ·have kx:KnT (Ab G p (.lst ys)) 1 x:=KnT.new hp (kn.2 xs rfl x hx)
      have zx:=hz2 x hx
      simp only[E5,Ar,Ah,Ap,List.replicate,List.cons_append,List.nil_append,List.set_cons_zero,List.getElem?_cons_zero,Option.some.injEq,Ao,K5,List.cons.injEq,and_true,Aa,hl,Bm,true_and,exists_eq_left',kx,if_true]
      exact⟨zx,Fg.of (g1 rfl)⟩
     ·refine⟨p,rfl,xs.map Cs,by rw[Aa,Dy,List.map_map];rfl,_,rfl,?_⟩
      have ea:(xs.map Cs).all id=xs.all Cs:=by simp[List.all_map]
      rw[ea]
      cases hc:xs.all Cs with
      |false=>
       rw[hc] at k2
       exact it0 (by decide) ⟨G,Sub.new hp,by simpa using k2⟩
      |true=>
       rw[hc] at k2
       have allT:∀x∈xs,∃ys,x=.tup ys:=fun x hx=>by
        have:=List.all_eq_true.mp hc x hx
        cases x with
        |tup ys=>exact⟨ys,rfl⟩
        |_=>exact absurd (show false=true from this) Bool.false_ne_true
       have sg:Sub G (Ab G p (.lst ((xs.filter fun _=>true).map fun x=>.bl (Cs x)))):=Sub.new hp
       generalize Ab G p (.lst ((xs.filter fun _=>true).map fun x=>.bl (Cs x)))=G1 at *
       refine it1 (by decide) ⟨xs,rfl,fun p2 hp2=>?_⟩
       obtain⟨y0,r0,e0⟩:∃y r,xs=y::r:=by cases xs with|nil=>simp at h1|cons y r=>exact⟨y,r,rfl⟩
       obtain⟨zs,hzs⟩:=allT y0 (by simp[e0])
       have at0:atI xs 0=some (.tup zs):=by rw[e0,hzs];exact Jz
       have hd0:xs.headD .non=.tup zs:=by rw[e0,hzs];rfl
       rw[hd0] at k2
       refine Cn (fun x=>.bl (decide (Ba x=zs.length))) (fun _=>true) hz1 (fun _=>rfl) (by decide) (fun x ys hx hl R1 R2 g1 _=>?_) ?_
       ·obtain⟨us,rfl⟩:=allT x hx
        simp only[E5,nOp,nCB,Ah,Ap,List.replicate,List.cons_append,List.nil_append,List.set_cons_zero,List.getElem?_cons_zero,Option.some.injEq,Ao,List.cons.injEq,and_true,List.getElem?_cons_succ,nC,dIx,D.int.injEq,dEq,eqS,Aa,hl,Bm,true_and,exists_eq_left',Ch,at0,Ew,if_true]
        have eb:decide (((us.length:Nat):Int)=((zs.length:Nat):Int))=decide (Ba (.tup us)=zs.length):=decide_eq_decide.mpr (by show _↔us.length=zs.length;omega)
        rw[eb]
        exact Fg.of (g1 rfl)
       ·refine⟨p2,rfl,xs.map fun x=>decide (Ba x=zs.length),by rw[Aa,Dy,List.map_map];rfl,G,sg.trans (Sub.new hp2),?_⟩
        rw[List.all_map];exact k2
    ·refine it0 (by simp;omega) (Fq.of ?_)
     simpa[h9] using k2
   ·refine it1 (by omega) (Fq.of ?_)
    simpa[h1] using k2
  ·obtain⟨e,nt⟩:=Dq ht htt
   rw[e]
   refine it0 (by decide) (Fq.of ?_)
   cases d with
   |tup xs=>exact absurd rfl (nt xs)
   |_=>exact k
abbrev s_check_sea:Stmt:=top 38
abbrev Jw:List Str:=["thing"]
abbrev p_check_sea:List Str:=["thing"]
theorem Hu:FnScope Jw p_check_sea (defScope s_check_sea):=⟨rfl,rfl,rfl,by decide +kernel,rfl,by decide +kernel,by decide +kernel⟩
def spCheckSea(CN:Addr):DSp:=fun ds G Q E=>∃d,ds=[d]∧KnT G 2 d∧SzT d∧(Dd d=true→Q .non G)∧(Dd d=false→E (.ref CN) G)
theorem Jl{f CN:Addr}{fd:FuncData}(F:Fun K "check_sea" "check_sea" s_check_sea f fd)(T:Nums mg)(O_NoSea:ExcK K "NoSea" CN)(W0:Def P w K mg base CX0 4 "is_sea" p_is_sea spSeaT):FnOk P w K mg base (CX1 P w) 5 f fd p_check_sea (Ag K (spCheckSea CN)):=by
 refine okX F Hu (fun ds G Q E h=>?_) (fun cdv A outer s H XE ds G Q E hr h hE=>?_)
 ·obtain⟨d,rfl,_⟩:=h;rfl
 ·obtain⟨d,rfl,kn,hz,k1,k2⟩:=h
  refine⟨_,(@qss_one _ _ _ (@qs_if _ _ _ _ _ _ _ _ (@qt_not _ _ _ _ (@qt_tru _ _ _ (@q_call _ _ _ _ _ _ _ _ noX _ _ _ W0 (hr.mono (by decide)) (@passN _ _) (@qa_consP _ _ _ _ _ (@q_v1 _ _ 0 _ (by exact⟨rfl,rfl,rfl,rfl⟩)) (@qa_nil _) (by rfl)) (by rfl) (by decide) (by rfl) (by rfl)) (by intro _ ;rfl))) (@qss_one _ _ _ (@Dw _ _ _ _ _ _ _ _ _ _ _ _ _ _ _ _ _ _ _ _ _ _ _ hE O_NoSea (@qa_consP _ _ _ _ _ (@q_str _ _ _ _) (@qa_nil _) (by rfl)) (by rfl) (by decide) (by rfl) (by rfl))) (@qss_nil _))),?_⟩
  simp only[Cb,Df,De,Ar,Ah,Ap,Ak,List.map_cons,List.map_nil,List.length_cons,List.length_nil,Nat.zero_add,Nat.reduceSub,List.replicate,List.cons_append,List.nil_append,List.getElem?_cons_zero,Option.some.injEq,Ao,spSeaT,List.cons.injEq,and_true,Fd,nC,A8,exists_eq_left',kn,true_and]
  refine⟨hz,_,rfl,?_⟩
  cases hc:Dd d with
  |true=>exact it1 (by decide) (Fq.of (k1 hc))
  |false=>exact it0 (by decide) ⟨szl (by decide),Fx.of (k2 hc)⟩
def spCheckN(CN:Addr)(lo hi:Int):DSp:=fun ds G Q E=>∃d,ds=[d]∧Kn G d∧(Ae lo hi d=true→Q .non G)∧(Ae lo hi d=false→E (.ref CN) G)
abbrev s_check_draught:Stmt:=top 40
abbrev Es:List Str:=["thing"]
abbrev p_check_draught:List Str:=["thing"]
theorem Ef:FnScope Es p_check_draught (defScope s_check_draught):=⟨rfl,rfl,rfl,by decide +kernel,rfl,by decide +kernel,by decide +kernel⟩
theorem Ep{f CN:Addr}{fd:FuncData}(F:Fun K "check_draught" "check_draught" s_check_draught f fd)(T:Nums mg)(O_NoDraught:ExcK K "NoDraught" CN)(W8:Def P w K mg base CX0 2 "is_draught" A7 (Cp 1 9)):FnOk P w K mg base (CX1 P w) 3 f fd p_check_draught (Ag K (spCheckN CN 1 9)):=by
 refine okX F Ef (fun ds G Q E h=>?_) (fun cdv A outer s H XE ds G Q E hr h hE=>?_)
 ·obtain⟨d,rfl,_⟩:=h;rfl
 ·obtain⟨d,rfl,kn,k1,k2⟩:=h
  refine⟨_,(@qss_one _ _ _ (@qs_if _ _ _ _ _ _ _ _ (@qt_not _ _ _ _ (@qt_tru _ _ _ (@q_call _ _ _ _ _ _ _ _ noX _ _ _ W8 (hr.mono (by decide)) (@passN _ _) (@qa_consP _ _ _ _ _ (@q_v1 _ _ 0 _ (by exact⟨rfl,rfl,rfl,rfl⟩)) (@qa_nil _) (by rfl)) (by rfl) (by decide) (by rfl) (by rfl)) (by intro _ ;rfl))) (@qss_one _ _ _ (@Dw _ _ _ _ _ _ _ _ _ _ _ _ _ _ _ _ _ _ _ _ _ _ _ hE O_NoDraught (@qa_consP _ _ _ _ _ (@q_str _ _ _ _) (@qa_nil _) (by rfl)) (by rfl) (by decide) (by rfl) (by rfl))) (@qss_nil _))),?_⟩
  simp only[Cb,Df,De,Ar,Ah,Ap,Ak,List.map_cons,List.map_nil,List.length_cons,List.length_nil,Nat.zero_add,Nat.reduceSub,List.replicate,List.cons_append,List.nil_append,List.getElem?_cons_zero,Option.some.injEq,Ao,Cp,List.cons.injEq,and_true,Fd,nC,A8,exists_eq_left',kn,true_and]
  refine⟨_,rfl,?_⟩
  cases hc:Ae 1 9 d with
  |true=>exact it1 (by decide) (Fq.of (k1 hc))
  |false=>exact it0 (by decide) ⟨szl (by decide),Fx.of (k2 hc)⟩
abbrev s_check_day:Stmt:=top 41
abbrev Jx:List Str:=["thing"]
abbrev Bj:List Str:=["thing"]
theorem Hv:FnScope Jx Bj (defScope s_check_day):=⟨rfl,rfl,rfl,by decide +kernel,rfl,by decide +kernel,by decide +kernel⟩
theorem Jm{f CN:Addr}{fd:FuncData}(F:Fun K "check_day" "check_day" s_check_day f fd)(T:Nums mg)(O_NoDay:ExcK K "NoDay" CN)(W9:Def P w K mg base CX0 2 "is_day" Cf (Cp 0 400)):FnOk P w K mg base (CX1 P w) 3 f fd Bj (Ag K (spCheckN CN 0 400)):=by
 refine okX F Hv (fun ds G Q E h=>?_) (fun cdv A outer s H XE ds G Q E hr h hE=>?_)
 ·obtain⟨d,rfl,_⟩:=h;rfl
 ·obtain⟨d,rfl,kn,k1,k2⟩:=h
  refine⟨_,(@qss_one _ _ _ (@qs_if _ _ _ _ _ _ _ _ (@qt_not _ _ _ _ (@qt_tru _ _ _ (@q_call _ _ _ _ _ _ _ _ noX _ _ _ W9 (hr.mono (by decide)) (@passN _ _) (@qa_consP _ _ _ _ _ (@q_v1 _ _ 0 _ (by exact⟨rfl,rfl,rfl,rfl⟩)) (@qa_nil _) (by rfl)) (by rfl) (by decide) (by rfl) (by rfl)) (by intro _ ;rfl))) (@qss_one _ _ _ (@Dw _ _ _ _ _ _ _ _ _ _ _ _ _ _ _ _ _ _ _ _ _ _ _ hE O_NoDay (@qa_consP _ _ _ _ _ (@q_str _ _ _ _) (@qa_nil _) (by rfl)) (by rfl) (by decide) (by rfl) (by rfl))) (@qss_nil _))),?_⟩
  simp only[Cb,Df,De,Ar,Ah,Ap,Ak,List.map_cons,List.map_nil,List.length_cons,List.length_nil,Nat.zero_add,Nat.reduceSub,List.replicate,List.cons_append,List.nil_append,List.getElem?_cons_zero,Option.some.injEq,Ao,Cp,List.cons.injEq,and_true,Fd,nC,A8,exists_eq_left',kn,true_and]
  refine⟨_,rfl,?_⟩
  cases hc:Ae 0 400 d with
  |true=>exact it1 (by decide) (Fq.of (k1 hc))
  |false=>exact it0 (by decide) ⟨szl (by decide),Fx.of (k2 hc)⟩
theorem Os{cs:List D}(h:Dd (.tup cs)=true):2≤cs.length∧cs.length≤16∧∃xs,atI cs 0=some (.tup xs)∧1≤xs.length∧xs.length≤9∧∀c∈cs,∃ys:List Int,c=.tup (ys.map D.int)∧ys.length=xs.length:=by
 unfold Dd at h
 simp only[Bool.and_eq_true,decide_eq_true_eq,List.all_eq_true] at h
 obtain⟨⟨h1,h2⟩,h3,h4⟩:=h
 have col:∀c∈cs,∃ys:List Int,c=.tup (ys.map D.int)∧1≤ys.length∧ys.length≤9:=fun c hc=>by
  have:=h3 c hc
  cases c with
  |tup us=>
   unfold Cs at this
   simp only[Bool.and_eq_true,decide_eq_true_eq,List.all_eq_true] at this
   obtain⟨⟨a1,a2⟩,a3⟩:=this
   have:∃ys:List Int,us=ys.map D.int:=by
    clear a1 a2 hc
    induction us with
    |nil=>exact⟨[],rfl⟩
    |cons x r ih=>
     obtain⟨ys,rfl⟩:=ih fun y hy=>a3 y (by simp[hy])
     have:=a3 x (by simp)
     cases x with
     |int i=>exact⟨i::ys,rfl⟩
     |_=>cases this
   obtain⟨ys,rfl⟩:=this
   exact⟨ys,rfl,by simpa using a1,by simpa using a2⟩
  |_=>cases this
 cases cs with
 |nil=>simp at h1
 |cons y r=>
  obtain⟨ys,rfl,b1,b2⟩:=col y (by simp)
  refine⟨h1,h2,_,Jz,by simpa using b1,by simpa using b2,fun c hc=>?_⟩
  obtain⟨zs,rfl,_,_⟩:=col c hc
  have:=h4 _ hc
  exact⟨zs,rfl,by simpa[Ba] using this⟩
def B5(cw ch:Nat):D→Bool
 |.tup [x,y]=>Ae 0 (cw-1) x&&Ae 0 (ch-1) y
 |_=>false
def Cw:D→Nat
 |.tup cs=>Ba (cs.headD .non)
 |_=>0
abbrev s_is_cell:Stmt:=top 37
abbrev M7:List Str:=["sea", "thing", "column", "row"]
abbrev B2:List Str:=["sea", "thing"]
theorem sc_is_cell:FnScope M7 B2 (defScope s_is_cell):=⟨rfl,rfl,rfl,by decide +kernel,rfl,by decide +kernel,by decide +kernel⟩
def Hg:DSp:=fun ds G Q _=>∃cs d,ds=[.tup cs,d]∧Dd (.tup cs)=true∧KnT G 1 d∧Q (.bl (B5 cs.length (Cw (.tup cs)) d)) G
theorem Pd{f:Addr}{fd:FuncData}(F:Fun K "is_cell" "is_cell" s_is_cell f fd)(T:Nums mg)(Wx:Def P w K mg base CX0 1 "is_whole_within" Aj B0):FnOk P w K mg base CX0 2 f fd B2 (Ag K Hg):=by
 refine okD F sc_is_cell (fun ds G Q E h=>?_) (fun cdv A outer s H XE ds G Q E hr h=>?_)
 ·obtain⟨_,_,rfl,_⟩:=h;rfl
 ·obtain⟨cs,d,rfl,sea,kn,k⟩:=h
  refine⟨_,(@qss_cons _ _ _ _ _ (@qs_if _ _ _ _ _ _ _ _ (@qt_of _ _ _ (@qw_or _ _ _ _ _ _ _ (@qt_not _ _ _ _ (@qt_tru _ _ _ (@q_callB _ _ _ _ _ _ _ _ _ (@c_isinst _) (T.blt (by decide)) (by decide +kernel) (@qa_consP _ _ _ _ _ (@q_v1 _ _ 1 _ (by exact⟨rfl,rfl,rfl,rfl⟩)) (@qa_consP _ _ _ _ _ (@q_globty _ _ _ "tuple" (T.blt (by decide)) (by decide +kernel) (by rfl) (by decide) (by decide)) (@qa_nil _) (by rfl)) (by rfl)) (by rfl) (by decide) (by decide) (by rfl) (by rfl)) (by intro _ ;rfl))) (@qw_or1 _ _ _ _ (@qt_cmp _ _ _ _ _ _ _ _ (@o_ne _) (@q_callB _ _ _ _ _ _ _ _ _ (@c_len _) (T.blt (by decide)) (by decide +kernel) (@qa_consP _ _ _ _ _ (@q_v1 _ _ 1 _ (by exact⟨rfl,rfl,rfl,rfl⟩)) (@qa_nil _) (by rfl)) (by rfl) (by decide) (by decide) (by rfl) (by rfl)) (@q_int _ _ _ _) (nomark _))))) (@qss_one _ _ _ (@qs_ret _ _ _ _ (@q_bl _ _ _ _))) (@qss_nil _)) (@qss_cons _ _ _ _ _ (@D8 _ _ _ _ _ _ (@q_v1 _ _ 1 _ (by exact⟨rfl,rfl,rfl,rfl⟩)) (@J7 _ _ _ _ _ 2 rfl (@Ce _ _ _ _ _ (@qg_name _ _ 2 _ sc_is_cell.nd (by rfl) (by exact .inl rfl) (by exact .inl rfl)) (@Ce _ _ _ _ _ (@qg_name _ _ 3 _ sc_is_cell.nd (by rfl) (by exact .inl rfl) (by exact .inl rfl)) (@Hh _) (by rfl)) (by rfl)) (by rfl) (by rfl)) (by rfl) (by rfl) (by rfl)) (@qss_one _ _ _ (@qs_ret _ _ _ _ (@q_and _ _ _ _ _ _ _ (@q_call _ _ _ _ _ _ _ _ noX _ _ _ Wx (hr.mono (by decide)) (@passN _ _) (@qa_consP _ _ _ _ _ (@q_v1 _ _ 2 _ (by exact⟨rfl,rfl,rfl,rfl⟩)) (@qa_consP _ _ _ _ _ (@q_int _ _ _ _) (@qa_consP _ _ _ _ _ (@q_op _ _ _ _ _ _ _ _ (@K7 _) (@q_callB _ _ _ _ _ _ _ _ _ (@c_len _) (T.blt (by decide)) (by decide +kernel) (@qa_consP _ _ _ _ _ (@q_v1 _ _ 0 _ (by exact⟨rfl,rfl,rfl,rfl⟩)) (@qa_nil _) (by rfl)) (by rfl) (by decide) (by decide) (by rfl) (by rfl)) (@q_int _ _ _ _)) (@qa_nil _) (by rfl)) (by rfl)) (by rfl)) (by rfl) (by decide) (by rfl) (by rfl)) (@Ni _ _ _ _ _ (@q_call _ _ _ _ _ _ _ _ noX _ _ _ Wx (hr.mono (by decide)) (@passN _ _) (@qa_consP _ _ _ _ _ (@q_v1 _ _ 3 _ (by exact⟨rfl,rfl,rfl,rfl⟩)) (@qa_consP _ _ _ _ _ (@q_int _ _ _ _) (@qa_consP _ _ _ _ _ (@q_op _ _ _ _ _ _ _ _ (@K7 _) (@q_callB _ _ _ _ _ _ _ _ _ (@c_len _) (T.blt (by decide)) (by decide +kernel) (@qa_consP _ _ _ _ _ (@q_ix _ _ _ _ _ _ (@q_v1 _ _ 0 _ (by exact⟨rfl,rfl,rfl,rfl⟩)) (@q_int _ _ _ _) (by intro _ _ ;rfl)) (@qa_nil _) (by rfl)) (by rfl) (by decide) (by decide) (by rfl) (by rfl)) (@q_int _ _ _ _)) (@qa_nil _) (by rfl)) (by rfl)) (by rfl)) (by rfl) (by decide) (by rfl) (by rfl)))))))),?_⟩
  obtain⟨w2,w16,xs,at0,x1,x9,-⟩:=Os sea
  have hh:Cw (.tup cs)=xs.length:=by
   cases cs with
   |nil=>simp at w2
   |cons y r=>rw[Jz] at at0;cases at0;rfl
  rw[hh] at k
  obtain⟨t,ht⟩:=kn.kn
  simp only[Bk,Cb,nOr,Df,De,nCB,Ah,Ap,Ak,List.map_cons,List.map_nil,List.length_cons,List.length_nil,Nat.zero_add,Nat.reduceAdd,Nat.reduceSub,List.replicate,List.cons_append,List.nil_append,List.getElem?_cons_succ,List.getElem?_cons_zero,Option.some.injEq,nC,Ao,List.cons.injEq,D.ty.injEq,and_true,A9,A8,Cr,P7,La,A2,P8,K9,Ar,List.set_cons_succ,List.set_cons_zero,nOp,dI0,D.int.injEq,dIx,exists_eq_left',Ch,at0,Ew,if_true,Bg,dNe,eqS,D.bl.injEq,and_assoc,exists_and_left,B7,true_and,ht]
  refine⟨pyIs t "tuple",rfl,?_⟩
  by_cases htt:t = "tuple"
  ·subst htt
   obtain⟨us,rfl⟩:=Fc ht
   refine it1 (by decide) ⟨_,rfl,?_⟩
   have other:us.length≠2→B5 cs.length xs.length (.tup us)=false:=fun h=>by
    match us,h with
    |[],_=>rfl
    |[_],_=>rfl
    |[_,_],h=>exact absurd rfl h
    |_::_::_::_,_=>rfl
   by_cases h2:us.length=2
   ·match us,h2,kn,k with
    |[x,y],_,kn,k=>
     refine it1 (by simp) ⟨_,rfl,rfl,x,_,rfl,y,_,rfl,rfl,x,0,_,rfl,kn.2 _ rfl x (by simp),_,rfl,?_⟩
     have k:Q (.bl (Ae 0 (cs.length-1) x&&Ae 0 (xs.length-1) y)) G:=k
     cases hx:Ae 0 (cs.length-1) x with
     |true=>
      rw[hx] at k
      exact it0 rfl ⟨y,0,_,rfl,kn.2 _ rfl y (by simp),Fq.of k⟩
     |false=>
      rw[hx] at k
      exact it1 (by decide) (Fq.of k)
   ·rw[other h2] at k
    exact it0 (by simp;omega) (Fq.of k)
  ·obtain⟨e,nt⟩:=Dq ht htt
   rw[e]
   refine it0 (by decide) (Fq.of ?_)
   cases d with
   |tup xs=>exact absurd rfl (nt xs)
   |_=>exact k
abbrev s_check_cell:Stmt:=top 39
abbrev Ie:List Str:=["sea", "thing"]
abbrev p_check_cell:List Str:=["sea", "thing"]
theorem F5:FnScope Ie p_check_cell (defScope s_check_cell):=⟨rfl,rfl,rfl,by decide +kernel,rfl,by decide +kernel,by decide +kernel⟩
def spCheckCell(CN:Addr):DSp:=fun ds G Q E=>∃cs d,ds=[.tup cs,d]∧Dd (.tup cs)=true∧KnT G 1 d∧(B5 cs.length (Cw (.tup cs)) d=true→Q .non G)∧(B5 cs.length (Cw (.tup cs)) d=false→E (.ref CN) G)
theorem Hx{f CN:Addr}{fd:FuncData}(F:Fun K "check_cell" "check_cell" s_check_cell f fd)(T:Nums mg)(O_NoCell:ExcK K "NoCell" CN)(Xa:Def P w K mg base CX0 2 "is_cell" B2 Hg):FnOk P w K mg base (CX1 P w) 3 f fd p_check_cell (Ag K (spCheckCell CN)):=by
 refine okX F F5 (fun ds G Q E h=>?_) (fun cdv A outer s H XE ds G Q E hr h hE=>?_)
 ·obtain⟨_,_,rfl,_⟩:=h;rfl
 ·obtain⟨cs,d,rfl,sea,kn,k1,k2⟩:=h
  refine⟨_,(@qss_one _ _ _ (@qs_if _ _ _ _ _ _ _ _ (@qt_not _ _ _ _ (@qt_tru _ _ _ (@q_call _ _ _ _ _ _ _ _ noX _ _ _ Xa (hr.mono (by decide)) (@passN _ _) (@qa_consP _ _ _ _ _ (@q_v1 _ _ 0 _ (by exact⟨rfl,rfl,rfl,rfl⟩)) (@qa_consP _ _ _ _ _ (@q_v1 _ _ 1 _ (by exact⟨rfl,rfl,rfl,rfl⟩)) (@qa_nil _) (by rfl)) (by rfl)) (by rfl) (by decide) (by rfl) (by rfl)) (by intro _ ;rfl))) (@qss_one _ _ _ (@Dw _ _ _ _ _ _ _ _ _ _ _ _ _ _ _ _ _ _ _ _ _ _ _ hE O_NoCell (@qa_consP _ _ _ _ _ (@q_str _ _ _ _) (@qa_nil _) (by rfl)) (by rfl) (by decide) (by rfl) (by rfl))) (@qss_nil _))),?_⟩
  simp only[Cb,Df,De,Ar,Ah,Ap,Ak,List.map_cons,List.map_nil,List.length_cons,List.length_nil,Nat.zero_add,Nat.reduceAdd,Nat.reduceSub,List.replicate,List.cons_append,List.nil_append,List.getElem?_cons_zero,Option.some.injEq,List.getElem?_cons_succ,Ao,Fd,nC,A8,exists_eq_left']
  refine⟨cs,d,rfl,sea,kn,_,rfl,?_⟩
  cases hc:B5 cs.length (Cw (.tup cs)) d with
  |true=>exact it1 (by decide) (Fq.of (k1 hc))
  |false=>exact it0 (by decide) ⟨szl (by decide),Fx.of (k2 hc)⟩
def Di(s:List (List Int))(c r:Nat):Int:=(s.getD c []).getD r 0
abbrev s_depth_at:Stmt:=top 42
abbrev K1:List Str:=["sea", "cell", "column", "row"]
abbrev Bs:List Str:=["sea", "cell"]
theorem sc_depth_at:FnScope K1 Bs (defScope s_depth_at):=⟨rfl,rfl,rfl,by decide +kernel,rfl,by decide +kernel,by decide +kernel⟩
def Eb:DSp:=fun ds G Q _=>∃s c r,ds=[Bo s,.tup [.int (c:Nat),.int (r:Nat)]]∧c<s.length∧r<(s.getD c []).length∧Q (.int (Di s c r)) G
theorem Kr{f:Addr}{fd:FuncData}(F:Fun K "depth_at" "depth_at" s_depth_at f fd)(T:Nums mg):FnOk P w K mg base CX0 1 f fd Bs (Ag K Eb):=by
 refine okD F sc_depth_at (fun ds G Q E h=>?_) (fun cdv A outer s H XE ds G Q E hr h=>?_)
 ·obtain⟨_,_,_,rfl,_⟩:=h;rfl
 ·obtain⟨s,c,r,rfl,hc,hr',k⟩:=h
  refine⟨_,(@qss_cons _ _ _ _ _ (@D8 _ _ _ _ _ _ (@q_v1 _ _ 1 _ (by exact⟨rfl,rfl,rfl,rfl⟩)) (@J7 _ _ _ _ _ 2 rfl (@Ce _ _ _ _ _ (@qg_name _ _ 2 _ sc_depth_at.nd (by rfl) (by exact .inl rfl) (by exact .inl rfl)) (@Ce _ _ _ _ _ (@qg_name _ _ 3 _ sc_depth_at.nd (by rfl) (by exact .inl rfl) (by exact .inl rfl)) (@Hh _) (by rfl)) (by rfl)) (by rfl) (by rfl)) (by rfl) (by rfl) (by rfl)) (@qss_one _ _ _ (@qs_ret _ _ _ _ (@q_ix _ _ _ _ _ _ (@q_ix _ _ _ _ _ _ (@q_v1 _ _ 0 _ (by exact⟨rfl,rfl,rfl,rfl⟩)) (@q_v1 _ _ 2 _ (by exact⟨rfl,rfl,rfl,rfl⟩)) (by intro _ _ ;rfl)) (@q_v1 _ _ 3 _ (by exact⟨rfl,rfl,rfl,rfl⟩)) (by intro _ _ ;rfl))))),?_⟩
  unfold Bo
  simp only[Bk,Cr,Ap,Ak,List.map_cons,List.map_nil,List.length_cons,List.length_nil,Nat.zero_add,Nat.reduceAdd,Nat.reduceSub,List.replicate,List.cons_append,List.nil_append,List.getElem?_cons_succ,List.getElem?_cons_zero,Option.some.injEq,P7,La,A2,P8,A9,nOp,List.set_cons_succ,List.set_cons_zero,dIx,exists_eq_left',Ch,D.tup.injEq,List.cons.injEq,and_assoc,exists_and_left,true_and,D.int.injEq]
  refine⟨Bp (s.getD c []),Ca (by simp[hc]),.int (Di s c r),?_,Fq.of k⟩
  show atI ((s.getD c []).map D.int) (r:Int)=_
  unfold Di
  generalize s.getD c []=col at *
  refine Ca ?_
  rw[List.getElem?_map,List.getElem?_eq_getElem hr',List.getD_eq_getElem?_getD,List.getElem?_eq_getElem hr'];rfl
theorem Sv{c:List Int}(h:∀x∈c,0≤x∧x≤9):(c.map D.int).all (Ae 0 9)=true:=by
 rw[List.all_map,List.all_eq_true]
 intro x hx
 have:=h x hx
 simp[Ae,this]
theorem J5{s:List (List Int)}{h:Nat}(ok:SeaOk s h):Dd (Bo s)=true∧Cw (Bo s)=h:=by
 have hw:=ok.wide
 have hh:=ok.high
 obtain⟨y,r,e⟩:∃y r,s=y::r:=by cases s with|nil=>simp at hw|cons y r=>exact⟨y,r,rfl⟩
 have hy:=(ok.col y (by simp[e])).1
 have hd:(s.map Bp).headD .non=Bp y:=by rw[e];rfl
 have hl:∀c:List Int,Ba (Bp c)=c.length:=fun c=>List.length_map ..
 refine⟨?_,by show Ba ((s.map Bp).headD .non)=h;rw[hd,hl,hy]⟩
 unfold Dd Bo
 dsimp only
 rw[hd,hl,hy]
 simp only[Bool.and_eq_true,decide_eq_true_eq,List.all_eq_true,List.length_map]
 refine⟨⟨hw.1,hw.2⟩,fun c hc=>?_,fun c hc=>?_⟩
 ·obtain⟨u,hu,rfl⟩:=List.mem_map.mp hc
  obtain⟨e1,e2⟩:=ok.col u hu
  show(decide (1≤(u.map D.int).length)&&decide ((u.map D.int).length≤9)&&(u.map D.int).all (Ae 0 9))=true
  rw[Sv e2,List.length_map,e1,decide_eq_true hh.1,decide_eq_true hh.2];rfl
 ·obtain⟨u,hu,rfl⟩:=List.mem_map.mp hc
  rw[hl];exact(ok.col u hu).1
abbrev s_is_shoal:Stmt:=top 44
abbrev Kz:List Str:=["sea", "cell", "draught"]
abbrev Bq:List Str:=["sea", "cell", "draught"]
theorem Jj:FnScope Kz Bq (defScope s_is_shoal):=⟨rfl,rfl,rfl,by decide +kernel,rfl,by decide +kernel,by decide +kernel⟩
def Hf:DSp:=fun ds G Q _=>∃s c r i,ds=[Bo s,.tup [.int (c:Nat),.int (r:Nat)],.int i]∧c<s.length∧r<(s.getD c []).length∧Q (.bl (decide (Di s c r<i))) G
theorem O9{f:Addr}{fd:FuncData}(F:Fun K "is_shoal" "is_shoal" s_is_shoal f fd)(T:Nums mg)(Xb:Def P w K mg base CX0 1 "depth_at" Bs Eb):FnOk P w K mg base CX0 2 f fd Bq (Ag K Hf):=by
 refine okD F Jj (fun ds G Q E h=>?_) (fun cdv A outer s H XE ds G Q E hr h=>?_)
 ·obtain⟨_,_,_,_,rfl,_⟩:=h;rfl
 ·obtain⟨s,c,r,i,rfl,hc,hr',k⟩:=h
  refine⟨_,(@qss_one _ _ _ (@qs_ret _ _ _ _ (@Nk _ _ _ _ _ _ _ _ (@P6 _) (@q_call _ _ _ _ _ _ _ _ noX _ _ _ Xb (hr.mono (by decide)) (@passN _ _) (@qa_consP _ _ _ _ _ (@q_v1 _ _ 0 _ (by exact⟨rfl,rfl,rfl,rfl⟩)) (@qa_consP _ _ _ _ _ (@q_v1 _ _ 1 _ (by exact⟨rfl,rfl,rfl,rfl⟩)) (@qa_nil _) (by rfl)) (by rfl)) (by rfl) (by decide) (by rfl) (by rfl)) (@q_v1 _ _ 2 _ (by exact⟨rfl,rfl,rfl,rfl⟩)) (nomark _)))),?_⟩
  simp only[A9,nOp,Ar,Ah,Ap,Ak,List.map_cons,List.map_nil,List.length_cons,List.length_nil,Nat.zero_add,Nat.reduceAdd,Nat.reduceSub,List.replicate,List.cons_append,List.nil_append,List.getElem?_cons_zero,Option.some.injEq,List.getElem?_cons_succ,Ao,dI0,exists_eq_left',D.int.injEq]
  exact⟨s,c,r,rfl,hc,hr',_,rfl,Fq.of k⟩
def Chk(CS CC CD:Addr)(lo hi:Int)(G:Gp)(E:DX)(d c t:D)(R:Prop):Prop:=KnT G 2 d∧SzT d∧(Dd d=false→E (.ref CS) G)∧(Dd d=true→∃cs,d=.tup cs∧KnT G 1 c∧(B5 cs.length (Cw d) c=false→E (.ref CC) G)∧(B5 cs.length (Cw d) c=true→Kn G t∧(Ae lo hi t=false→E (.ref CD) G)∧(Ae lo hi t=true→R)))
abbrev s_drift:Stmt:=top 48
abbrev Rk:List Str:=["sea", "cell", "days", "reached", "edge", "left"]
abbrev C5:List Str:=["sea", "cell", "days"]
theorem Ot:FnScope Rk C5 (defScope s_drift):=⟨rfl,rfl,rfl,by decide +kernel,rfl,by decide +kernel,by decide +kernel⟩
def Dv(CS CC CD:Addr):DSp:=fun ds G Q E=>∃d c t,ds=[d,c,t]∧Chk CS CC CD 0 400 G E d c t False
theorem Pb{f CS CC CD:Addr}{fd:FuncData}(F:Fun K "drift" "drift" s_drift f fd)(T:Nums mg)(W1:Def P w K mg base (CX1 P w) 5 "check_sea" p_check_sea (spCheckSea CS))(W2:Def P w K mg base (CX1 P w) 3 "check_cell" p_check_cell (spCheckCell CC))(Xc:Def P w K mg base (CX1 P w) 3 "check_day" Bj (spCheckN CD 0 400)):FnOk P w K mg base (CX1 P w) 6 f fd C5 (Ag K (Dv CS CC CD)):=by
 refine okX F Ot (fun ds G Q E h=>?_) (fun cdv A outer s H XE ds G Q E hr h hE=>?_)
 ·obtain⟨_,_,_,rfl,_⟩:=h;rfl
 ·obtain⟨d,c,t,rfl,kd,zd,e1,h1⟩:=h
  refine⟨_,(@qss_cons _ _ _ _ _ (@Bv _ _ _ _ (@q_call _ _ _ _ _ _ _ _ (Fx E) _ _ _ W1 (hr.mono (by decide)) (Gc hE) (@qa_consP _ _ _ _ _ (@q_v1 _ _ 0 _ (by exact⟨rfl,rfl,rfl,rfl⟩)) (@qa_nil _) (by rfl)) (by rfl) (by decide) (by rfl) (by rfl)) (by rfl)) (@qss_cons _ _ _ _ _ (@Bv _ _ _ _ (@q_call _ _ _ _ _ _ _ _ (Fx E) _ _ _ W2 (hr.mono (by decide)) (Gc hE) (@qa_consP _ _ _ _ _ (@q_v1 _ _ 0 _ (by exact⟨rfl,rfl,rfl,rfl⟩)) (@qa_consP _ _ _ _ _ (@q_v1 _ _ 1 _ (by exact⟨rfl,rfl,rfl,rfl⟩)) (@qa_nil _) (by rfl)) (by rfl)) (by rfl) (by decide) (by rfl) (by rfl)) (by rfl)) (@qss_cons _ _ _ _ _ (@Bv _ _ _ _ (@q_call _ _ _ _ _ _ _ _ (Fx E) _ _ _ Xc (hr.mono (by decide)) (Gc hE) (@qa_consP _ _ _ _ _ (@q_v1 _ _ 2 _ (by exact⟨rfl,rfl,rfl,rfl⟩)) (@qa_nil _) (by rfl)) (by rfl) (by decide) (by rfl) (by rfl)) (by rfl)) (@Sw _ _)))),?_⟩
  simp only[Bk,E7,Ar,Ah,Ap,Ak,List.map_cons,List.map_nil,List.length_cons,List.length_nil,Nat.zero_add,Nat.reduceAdd,Nat.reduceSub,List.replicate,List.cons_append,List.nil_append,List.getElem?_cons_zero,Option.some.injEq,Ao,List.getElem?_cons_succ,exists_eq_left']
  refine⟨d,rfl,kd,zd,fun z=>?_,fun z=>Fx.of (e1 z)⟩
  obtain⟨cs,rfl,kc,e2,h2⟩:=h1 z
  refine⟨cs,c,rfl,z,kc,fun z2=>?_,fun z2=>Fx.of (e2 z2)⟩
  obtain⟨kt,e3,h3⟩:=h2 z2
  exact⟨t,rfl,kt,fun z3=>(h3 z3).elim,fun z3=>Fx.of (e3 z3)⟩
abbrev s_is_bank:Stmt:=top 45
abbrev M8:List Str:=["sea", "cell", "draught"]
abbrev p_is_bank:List Str:=["sea", "cell", "draught"]
theorem Kl:FnScope M8 p_is_bank (defScope s_is_bank):=⟨rfl,rfl,rfl,by decide +kernel,rfl,by decide +kernel,by decide +kernel⟩
def spBank(CS CC CD:Addr):DSp:=fun ds G Q E=>∃d c t,ds=[d,c,t]∧Chk CS CC CD 1 9 G E d c t (∃s x y i,d=Bo s∧c=.tup [.int (x:Nat),.int (y:Nat)]∧t=.int i∧x<s.length∧y<(s.getD x []).length∧Q (.bl (decide (Di s x y<i))) G)
theorem Q0{f CS CC CD:Addr}{fd:FuncData}(F:Fun K "is_bank" "is_bank" s_is_bank f fd)(T:Nums mg)(W1:Def P w K mg base (CX1 P w) 5 "check_sea" p_check_sea (spCheckSea CS))(W2:Def P w K mg base (CX1 P w) 3 "check_cell" p_check_cell (spCheckCell CC))(Xd:Def P w K mg base (CX1 P w) 3 "check_draught" p_check_draught (spCheckN CD 1 9))(Xe:Def P w K mg base CX0 2 "is_shoal" Bq Hf):FnOk P w K mg base (CX1 P w) 6 f fd p_is_bank (Ag K (spBank CS CC CD)):=by
 refine okX F Kl (fun ds G Q E h=>?_) (fun cdv A outer s H XE ds G Q E hr h hE=>?_)
 ·obtain⟨_,_,_,rfl,_⟩:=h;rfl
 ·obtain⟨d,c,t,rfl,kd,zd,e1,h1⟩:=h
  refine⟨_,(@qss_cons _ _ _ _ _ (@Bv _ _ _ _ (@q_call _ _ _ _ _ _ _ _ (Fx E) _ _ _ W1 (hr.mono (by decide)) (Gc hE) (@qa_consP _ _ _ _ _ (@q_v1 _ _ 0 _ (by exact⟨rfl,rfl,rfl,rfl⟩)) (@qa_nil _) (by rfl)) (by rfl) (by decide) (by rfl) (by rfl)) (by rfl)) (@qss_cons _ _ _ _ _ (@Bv _ _ _ _ (@q_call _ _ _ _ _ _ _ _ (Fx E) _ _ _ W2 (hr.mono (by decide)) (Gc hE) (@qa_consP _ _ _ _ _ (@q_v1 _ _ 0 _ (by exact⟨rfl,rfl,rfl,rfl⟩)) (@qa_consP _ _ _ _ _ (@q_v1 _ _ 1 _ (by exact⟨rfl,rfl,rfl,rfl⟩)) (@qa_nil _) (by rfl)) (by rfl)) (by rfl) (by decide) (by rfl) (by rfl)) (by rfl)) (@qss_cons _ _ _ _ _ (@Bv _ _ _ _ (@q_call _ _ _ _ _ _ _ _ (Fx E) _ _ _ Xd (hr.mono (by decide)) (Gc hE) (@qa_consP _ _ _ _ _ (@q_v1 _ _ 2 _ (by exact⟨rfl,rfl,rfl,rfl⟩)) (@qa_nil _) (by rfl)) (by rfl) (by decide) (by rfl) (by rfl)) (by rfl)) (@qss_one _ _ _ (@qs_ret _ _ _ _ (@q_call _ _ _ _ _ _ _ _ noX _ _ _ Xe (hr.mono (by decide)) (@passN _ _) (@qa_consP _ _ _ _ _ (@q_v1 _ _ 0 _ (by exact⟨rfl,rfl,rfl,rfl⟩)) (@qa_consP _ _ _ _ _ (@q_v1 _ _ 1 _ (by exact⟨rfl,rfl,rfl,rfl⟩)) (@qa_consP _ _ _ _ _ (@q_v1 _ _ 2 _ (by exact⟨rfl,rfl,rfl,rfl⟩)) (@qa_nil _) (by rfl)) (by rfl)) (by rfl)) (by rfl) (by decide) (by rfl) (by rfl))))))),?_⟩
  simp only[Bk,E7,Ar,Ah,Ap,Ak,List.map_cons,List.map_nil,List.length_cons,List.length_nil,Nat.zero_add,Nat.reduceAdd,Nat.reduceSub,List.replicate,List.cons_append,List.nil_append,List.getElem?_cons_zero,Option.some.injEq,Ao,List.getElem?_cons_succ,A9,exists_eq_left']
  refine⟨d,rfl,kd,zd,fun z=>?_,fun z=>Fx.of (e1 z)⟩
  obtain⟨cs,rfl,kc,e2,h2⟩:=h1 z
  refine⟨cs,c,rfl,z,kc,fun z2=>?_,fun z2=>Fx.of (e2 z2)⟩
  obtain⟨kt,e3,h3⟩:=h2 z2
  refine⟨t,rfl,kt,fun z3=>?_,fun z3=>Fx.of (e3 z3)⟩
  obtain⟨s,x,y,i,es,rfl,rfl,hx,hy,q⟩:=h3 z3
  exact⟨s,x,y,i,by rw[es],hx,hy,Fq.of q⟩
end
section
variable{P:Program}{w:World}{K:W.Frag}{mg:Str→Option Value}{base:Heap}
theorem szm{n:Nat}(h:n<1000):n<sizeLine:=by rw[sizeLine_eq];omega
abbrev s_L_sea:Stmt:=top 54
abbrev Rl:List Str:=["_law_box_here", "_law_wide", "_law_high", "_law_columns", "_law_rows", "_law_way", "_law_found", "_law_column", "_law_depths", "_law_row", "_law_depth"]
abbrev p_L_sea:List Str:=["_law_box_here", "_law_wide", "_law_high"]
theorem sc_L_sea:FnScope Rl p_L_sea (defScope s_L_sea):=⟨rfl,rfl,rfl,by decide +kernel,rfl,by decide +kernel,by decide +kernel⟩
def spLSea:DSp:=fun ds G Q _=>∃a wide high,ds=[.ref a,.int wide,.int high]∧Ct (G a)∧(2≤wide∧wide≤16∧1≤high∧high≤9)∧∀s h G',SeaOk s h→Step a G G'→Q (Bo s) G'
theorem Qy{f:Addr}{fd:FuncData}(F:Fun K "_law_sea" "_law_sea" s_L_sea f fd)(T:Blt mg)(Ww:Def P w K mg base CX0 2 "_law_take" p_L_take spTake):FnOk P w K mg base CX0 3 f fd p_L_sea (Ag K spLSea):=by
 refine okD F sc_L_sea (fun ds G Q E h=>?_) (fun cdv A outer s H XE ds G Q E hr h=>?_)
 ·obtain⟨a,wide,high,rfl,_⟩:=h;rfl
 ·obtain⟨a,wide,high,rfl,hb,⟨w0,w1,g0,g1⟩,k⟩:=h
  refine⟨_,(@qss_cons _ _ _ _ _ (@qs_par _ _ _ _ 3 4 _ _ _ _ _ _ _ _ _ rfl sc_L_sea.nd (@qa_consP _ _ _ _ _ (@q_op _ _ _ _ _ _ _ _ (@o_addD _) (@q_int _ _ _ _) (@q_call _ _ _ _ _ _ _ _ noX _ _ _ Ww (hr.mono (by decide)) (@passN _ _) (@qa_consP _ _ _ _ _ (@q_v1 _ _ 0 _ (by exact⟨rfl,rfl,rfl,rfl⟩)) (@qa_consP _ _ _ _ _ (@q_op _ _ _ _ _ _ _ _ (@K7 _) (@q_v1 _ _ 1 _ (by exact⟨rfl,rfl,rfl,rfl⟩)) (@q_int _ _ _ _)) (@qa_nil _) (by rfl)) (by rfl)) (by rfl) (by decide) (by rfl) (by rfl))) (@qa_consP _ _ _ _ _ (@q_op _ _ _ _ _ _ _ _ (@o_addD _) (@q_int _ _ _ _) (@q_call _ _ _ _ _ _ _ _ noX _ _ _ Ww (hr.mono (by decide)) (@passN _ _) (@qa_consP _ _ _ _ _ (@q_v1 _ _ 0 _ (by exact⟨rfl,rfl,rfl,rfl⟩)) (@qa_consP _ _ _ _ _ (@q_v1 _ _ 2 _ (by exact⟨rfl,rfl,rfl,rfl⟩)) (@qa_nil _) (by rfl)) (by rfl)) (by rfl) (by decide) (by rfl) (by rfl))) (@qa_nil _) (by rfl)) (by rfl)) (by rfl) (by rfl) (by decide) (by rfl) (by rfl) (by rfl) (by rfl)) (@qss_cons _ _ _ _ _ (@qs_par _ _ _ _ 5 6 _ _ _ _ _ _ _ _ _ rfl sc_L_sea.nd (@qa_consP _ _ _ _ _ (@q_call _ _ _ _ _ _ _ _ noX _ _ _ Ww (hr.mono (by decide)) (@passN _ _) (@qa_consP _ _ _ _ _ (@q_v1 _ _ 0 _ (by exact⟨rfl,rfl,rfl,rfl⟩)) (@qa_consP _ _ _ _ _ (@q_int _ _ _ _) (@qa_nil _) (by rfl)) (by rfl)) (by rfl) (by decide) (by rfl) (by rfl)) (@qa_consP _ _ _ _ _ (@q_lst _ _ _ _ (@qa_nil _)) (@qa_nil _) (by rfl)) (by rfl)) (by rfl) (by rfl) (by decide) (by rfl) (by rfl) (by rfl) (by rfl)) (@qss_cons _ _ _ _ _ (@qs_forR _ _ _ _ _ _ _ _ _ _ PassesOwn.never rfl (T.blt (by decide)) (@qa_consP _ _ _ _ _ (@q_v1 _ _ 3 _ (by exact⟨rfl,rfl,rfl,rfl⟩)) (@qa_nil _) (by rfl)) (@qg_name _ _ 7 _ sc_L_sea.nd (by rfl) (by exact .inl rfl) (by exact .inl rfl)) (@qss_cons _ _ _ _ _ (@qs_set _ _ _ _ 8 _ _ sc_L_sea.nd (@q_lst _ _ _ _ (@qa_nil _)) (by rfl) (by exact .inl rfl) (by rfl) (by exact .inl rfl)) (@qss_cons _ _ _ _ _ (@qs_forR _ _ _ _ _ _ _ _ _ _ PassesOwn.never rfl (T.blt (by decide)) (@qa_consP _ _ _ _ _ (@q_v1 _ _ 4 _ (by exact⟨rfl,rfl,rfl,rfl⟩)) (@qa_nil _) (by rfl)) (@qg_name _ _ 9 _ sc_L_sea.nd (by rfl) (by exact .inl rfl) (by exact .inl rfl)) (@qss_cons _ _ _ _ _ (@qs_set _ _ _ _ 10 _ _ sc_L_sea.nd (@q_ix _ _ _ _ _ _ (@q_lst _ _ _ _ (@qa_consP _ _ _ _ _ (@q_int _ _ _ _) (@qa_consP _ _ _ _ _ (@q_int _ _ _ _) (@qa_consP _ _ _ _ _ (@q_int _ _ _ _) (@qa_consP _ _ _ _ _ (@q_op _ _ _ _ _ _ _ _ (@o_addD _) (@q_int _ _ _ _) (@q_call _ _ _ _ _ _ _ _ noX _ _ _ Ww (hr.mono (by decide)) (@passN _ _) (@qa_consP _ _ _ _ _ (@q_v1 _ _ 0 _ (by exact⟨rfl,rfl,rfl,rfl⟩)) (@qa_consP _ _ _ _ _ (@q_int _ _ _ _) (@qa_nil _) (by rfl)) (by rfl)) (by rfl) (by decide) (by rfl) (by rfl))) (@qa_nil _) (by rfl)) (by rfl)) (by rfl)) (by rfl))) (@q_call _ _ _ _ _ _ _ _ noX _ _ _ Ww (hr.mono (by decide)) (@passN _ _) (@qa_consP _ _ _ _ _ (@q_v1 _ _ 0 _ (by exact⟨rfl,rfl,rfl,rfl⟩)) (@qa_consP _ _ _ _ _ (@q_int _ _ _ _) (@qa_nil _) (by rfl)) (by rfl)) (by rfl) (by decide) (by rfl) (by rfl)) (by intro _ _ ;rfl)) (by rfl) (by exact .inl rfl) (by rfl) (by exact .inl rfl)) (@qss_cons _ _ _ _ _ (@Nw _ _ _ _ _ _ _ _ (@qt_cmp _ _ _ _ _ _ _ _ (@Gw _) (@q_call _ _ _ _ _ _ _ _ noX _ _ _ Ww (hr.mono (by decide)) (@passN _ _) (@qa_consP _ _ _ _ _ (@q_v1 _ _ 0 _ (by exact⟨rfl,rfl,rfl,rfl⟩)) (@qa_consP _ _ _ _ _ (@q_ix _ _ _ _ _ _ (@q_lst _ _ _ _ (@qa_consP _ _ _ _ _ (@q_int _ _ _ _) (@qa_consP _ _ _ _ _ (@q_int _ _ _ _) (@qa_consP _ _ _ _ _ (@q_int _ _ _ _) (@qa_consP _ _ _ _ _ (@q_int _ _ _ _) (@qa_nil _) (by rfl)) (by rfl)) (by rfl)) (by rfl))) (@q_v1 _ _ 5 _ (by exact⟨rfl,rfl,rfl,rfl⟩)) (by intro _ _ ;rfl)) (@qa_nil _) (by rfl)) (by rfl)) (by rfl) (by decide) (by rfl) (by rfl)) (@q_int _ _ _ _) (nomark _)) (@qss_one _ _ _ (@qs_set _ _ _ _ 10 _ _ sc_L_sea.nd (@q_ix _ _ _ _ _ _ (@q_lst _ _ _ _ (@qa_consP _ _ _ _ _ (@q_int _ _ _ _) (@qa_consP _ _ _ _ _ (@q_int _ _ _ _) (@qa_consP _ _ _ _ _ (@q_int _ _ _ _) (@qa_consP _ _ _ _ _ (@q_int _ _ _ _) (@qa_nil _) (by rfl)) (by rfl)) (by rfl)) (by rfl))) (@q_call _ _ _ _ _ _ _ _ noX _ _ _ Ww (hr.mono (by decide)) (@passN _ _) (@qa_consP _ _ _ _ _ (@q_v1 _ _ 0 _ (by exact⟨rfl,rfl,rfl,rfl⟩)) (@qa_consP _ _ _ _ _ (@q_int _ _ _ _) (@qa_nil _) (by rfl)) (by rfl)) (by rfl) (by decide) (by rfl) (by rfl)) (by intro _ _ ;rfl)) (by rfl) (by exact .inl rfl) (by rfl) (by exact .inl rfl))) (@qss_nil _)) (@qss_one _ _ _ (@Bv _ _ _ _ (@K6 _ _ _ _ _ _ _ (@q_v1 _ _ 8 _ (by exact⟨rfl,rfl,rfl,rfl⟩)) (@q_v1 _ _ 10 _ (by exact⟨rfl,rfl,rfl,rfl⟩)) (by rfl) (by rfl) (by rfl) (by rfl) (by rfl)) (by rfl))))) (by rfl) (by rfl) (by intro _ ;rfl)) (@qss_one _ _ _ (@Bv _ _ _ _ (@K6 _ _ _ _ _ _ _ (@q_v1 _ _ 6 _ (by exact⟨rfl,rfl,rfl,rfl⟩)) (@Fm _ _ _ _ _ _ _ _ _ (@Ly _) (T.blt (by decide)) (by decide +kernel) (@qa_consP _ _ _ _ _ (@q_v1 _ _ 8 _ (by exact⟨rfl,rfl,rfl,rfl⟩)) (@qa_nil _) (by rfl)) (by rfl) (by decide) (by decide) (by rfl) (by rfl)) (by rfl) (by rfl) (by rfl) (by rfl) (by rfl)) (by rfl))))) (by rfl) (by rfl) (by intro _ ;rfl)) (@qss_one _ _ _ (@qs_ret _ _ _ _ (@Fm _ _ _ _ _ _ _ _ _ (@Ly _) (T.blt (by decide)) (by decide +kernel) (@qa_consP _ _ _ _ _ (@q_v1 _ _ 6 _ (by exact⟨rfl,rfl,rfl,rfl⟩)) (@qa_nil _) (by rfl)) (by rfl) (by decide) (by decide) (by rfl) (by rfl))))))),?_⟩
  have sz0:0≤sizeLine:=Nat.zero_le _
  have sz4:4≤sizeLine:=szl (by decide)
  simp only[Bk,L0,Ah,nOp,nC,Ar,Ap,Ak,List.map_cons,List.map_nil,List.length_cons,List.length_nil,Nat.zero_add,Nat.reduceAdd,Nat.reduceSub,List.replicate,List.cons_append,List.nil_append,List.getElem?_cons_zero,Option.some.injEq,List.getElem?_cons_succ,dI0,D.int.injEq,Ao,List.cons.injEq,and_true,List.set_cons_succ,List.set_cons_zero,Eo,sz0,E6,Int.reducePow,Int.reduceNeg,and_assoc,exists_eq_left',exists_and_left,true_and]
  refine A5 hb (by omega) (by omega) fun r1 G1 r1l r1h s1=>?_
  rw[By]
  refine A5 s1.box (by omega) (by omega) fun r2 G2 r2l r2h s2=>?_
  have s2:=s1.trans s2
  rw[By]
  refine A5 s2.box (by omega) (by omega) fun r3 G3 r3l r3h s3=>?_
  have s3:=s2.trans s3
  intro p hp
  have s4:=s3.lay (o:=.lst []) hp
  have nap:=Step.ne s3.box hp
  have hpG:=s3.back hp
  have gp:Ab G3 p (.lst []) p=some (.lst []):=Aa
  generalize Ab G3 p (.lst [])=G4 at *
  refine⟨_,rfl,by omega,by omega,?_⟩
  refine Bu (fun i σ G'=>∃(cols:List (List Int)) (v7 v8 v9 v10:Option D),σ=[some (.ref a),some (.int wide),some (.int high),some (.int (2+r1)),some (.int (1+r2)),some (.int r3),some (.ref p),v7,v8,v9,v10]∧
   cols.length=i∧(∀c∈cols,c.length=(1+r2).toNat∧∀x∈c,0≤x∧x≤9)∧Step a G G'∧G' p=some (.lst (cols.map Bp))) ⟨[],none,none,none,none,rfl,rfl,by simp,s4,gp⟩ ?_ ?_
  ·rintro i σ G5 hi ⟨cols,v7,v8,v9,v10,rfl,hcl,hco,s5,gp5⟩
   simp only[A2,Bk,Cr,Eo,Ao,List.length_nil,sz0,E6,Ah,Ap,List.set_cons_succ,List.set_cons_zero,List.getElem?_cons_succ,List.getElem?_cons_zero,Option.some.injEq,List.cons.injEq,and_true,Int.reducePow,Int.reduceNeg,and_assoc,exists_eq_left',D.int.injEq,true_and]
   intro d hd
   have s6:=s5.lay (o:=.lst []) hd
   have nad:=Step.ne s5.box hd
   have hdG:=s5.back hd
   have npd:=gne gp5 hd
   have gp6:=Al (u:=.lst []) gp5 hd
   have gd6:Ab G5 d (.lst []) d=some (.lst []):=Aa
   generalize Ab G5 d (.lst [])=G6 at *
   refine⟨by omega,by omega,?_⟩
   refine Bu (fun j σ G'=>∃(col:List Int) (v9 v10:Option D),σ=[some (.ref a),some (.int wide),some (.int high),some (.int (2+r1)),some (.int (1+r2)),some (.int r3),some (.ref p),some (.int i),some (.ref d),v9,v10]∧
    col.length=j∧(∀x∈col,0≤x∧x≤9)∧Step a G G'∧G' p=some (.lst (cols.map Bp))∧G' d=some (.lst (col.map D.int))) ⟨[],_,_,rfl,rfl,by simp,s6,gp6,gd6⟩ ?_ ?_
   ·rintro j σ G7 hj ⟨col,v9,v10,rfl,hcl2,hco2,s7,gp7,gd7⟩
    simp only[A2,Bk,Cr,nOp,Eo,Ah,nC,Ar,Ap,List.set_cons_succ,List.set_cons_zero,List.getElem?_cons_zero,Option.some.injEq,Ao,List.length_cons,List.length_nil,Nat.zero_add,Nat.reduceAdd,sz4,dIx,R7,Bg,List.getElem?_cons_succ,dEq,eqS,D.bl.injEq,exists_eq_left',true_and,A8,D.int.injEq,E7,Nc]
    refine A5 s7.box (by decide) (by decide) fun t1 G8 t1l t1h s8=>?_
    have gp8:=s8.get nap gp7
    have gd8:=s8.get nad gd7
    have s8:=s7.trans s8
    rw[By]
    intro q1 hq1
    have s9:=s8.lay (o:=.lst [.int 9,.int 5,.int 3,.int (1+t1)]) hq1
    have n9:=Step.ne s8.box hq1
    have gp9:=Al (u:=.lst [.int 9,.int 5,.int 3,.int (1+t1)]) gp8 hq1
    have gd9:=Al (u:=.lst [.int 9,.int 5,.int 3,.int (1+t1)]) gd8 hq1
    have gq9:Ab G8 q1 (.lst [.int 9,.int 5,.int 3,.int (1+t1)]) q1=some (.lst [.int 9,.int 5,.int 3,.int (1+t1)]):=Aa
    generalize Ab G8 q1 (.lst [.int 9,.int 5,.int 3,.int (1+t1)])=G9 at *
    refine A5 s9.box (by decide) (by decide) fun t2 G10 t2l t2h s10=>?_
    have gp10:=s10.get nap gp9
    have gd10:=s10.get nad gd9
    have gq10:=s10.get n9 gq9
    have s10:=s9.trans s10
    obtain⟨d1,hd1,hm1⟩:=Dt (xs:=[D.int 9,.int 5,.int 3,.int (1+t1)]) t2l (by simpa using t2h)
    obtain⟨x1,rfl,hx1⟩:∃x,d1=.int x∧0≤x∧x≤9:=by
     simp only[List.mem_cons,List.not_mem_nil,or_false] at hm1
     rcases hm1 with rfl|rfl|rfl|rfl<;>exact⟨_,rfl,by omega,by omega⟩
    refine⟨t2,rfl,.int x1,(B6 gq10).trans hd1,?_⟩
    refine⟨fun σ G'=>∃x,σ=[some (.ref a),some (.int wide),some (.int high),some (.int (2+r1)),some (.int (1+r2)),some (.int r3),some (.ref p),some (.int i),some (.ref d),some (.int j),some (.int x)]∧0≤x∧x≤9∧Step a G G'∧G' p=some (.lst (cols.map Bp))∧G' d=some (.lst (col.map D.int)),fun q2 hq2=>?_,?_⟩
    ·obtain⟨d2,hd2,hm2⟩:=Dt (xs:=[D.int 9,.int 4,.int 30,.int 2]) r3l (by simpa using r3h)
     obtain⟨x2,rfl,hx2⟩:∃x,d2=.int x∧0<x∧x≤30:=by
      simp only[List.mem_cons,List.not_mem_nil,or_false] at hm2
      rcases hm2 with rfl|rfl|rfl|rfl<;>exact⟨_,rfl,by omega,by omega⟩
     refine⟨_,(B6 Aa).trans hd2,?_⟩
     have s11:=s10.lay (o:=.lst [.int 9,.int 4,.int 30,.int 2]) hq2
     have gp11:=Al (u:=.lst [.int 9,.int 4,.int 30,.int 2]) gp10 hq2
     have gd11:=Al (u:=.lst [.int 9,.int 4,.int 30,.int 2]) gd10 hq2
     generalize Ab G10 q2 (.lst [.int 9,.int 4,.int 30,.int 2])=G11 at *
     refine A5 s11.box (by omega) (by omega) fun t3 G12 t3l t3h s12=>?_
     have gp12:=s12.get nap gp11
     have gd12:=s12.get nad gd11
     have s12:=s11.trans s12
     refine⟨_,rfl,?_⟩
     by_cases hz:t3=0
     ·refine it0 (by simpa using hz) fun q3 hq3=>?_
      have s13:=s12.lay (o:=.lst [.int 0,.int 0,.int 1,.int 2]) hq3
      have n13:=Step.ne s12.box hq3
      have gp13:=Al (u:=.lst [.int 0,.int 0,.int 1,.int 2]) gp12 hq3
      have gd13:=Al (u:=.lst [.int 0,.int 0,.int 1,.int 2]) gd12 hq3
      have gq13:Ab G12 q3 (.lst [.int 0,.int 0,.int 1,.int 2]) q3=some (.lst [.int 0,.int 0,.int 1,.int 2]):=Aa
      generalize Ab G12 q3 (.lst [.int 0,.int 0,.int 1,.int 2])=G13 at *
      refine A5 s13.box (by decide) (by decide) fun t4 G14 t4l t4h s14=>?_
      obtain⟨d3,hd3,hm3⟩:=Dt (xs:=[D.int 0,.int 0,.int 1,.int 2]) t4l (by simpa using t4h)
      obtain⟨x3,rfl,hx3⟩:∃x,d3=.int x∧0≤x∧x≤9:=by
       simp only[List.mem_cons,List.not_mem_nil,or_false] at hm3
       rcases hm3 with rfl|rfl|rfl|rfl<;>exact⟨_,rfl,by omega,by omega⟩
      exact⟨t4,rfl,_,(B6 (s14.get n13 gq13)).trans hd3,Fs.of ⟨x3,rfl,hx3.1,hx3.2,s13.trans s14,s14.get nap gp13,s14.get nad gd13⟩⟩
     ·exact it1 (by simpa using hz) (Fs.of ⟨x1,rfl,hx1.1,hx1.2,s12,gp12,gd12⟩)
    ·rintro σ' G15 ⟨x,rfl,hx0,hx9,s15,gp15,gd15⟩
     simp only[List.getElem?_cons_succ,List.getElem?_cons_zero,Option.some.injEq,exists_eq_left',D.ref.injEq,gd15,GO.lst.injEq]
     refine⟨⟨_,rfl⟩,by rw[List.length_map];exact szm (by omega),Fs.of ?_⟩
     refine⟨col++[x],_,_,rfl,by simp[hcl2],fun y hy=>?_,s15.write hdG nad,by rw[As npd];exact gp15,by rw[Aa,List.map_append];rfl⟩
     rcases List.mem_append.mp hy with hy|hy
     ·exact hco2 y hy
     ·rw[List.mem_singleton] at hy;subst hy;exact⟨hx0,hx9⟩
   ·rintro σ G7 ⟨col,v9,v10,rfl,hcl2,hco2,s7,gp7,gd7⟩
    simp only[E7,Nc,Ap,List.getElem?_cons_succ,List.getElem?_cons_zero,Option.some.injEq,nCB,Ah,Ao,List.cons.injEq,and_true,exists_eq_left',Av gd7,D.ref.injEq,gp7,GO.lst.injEq]
    refine⟨⟨_,rfl⟩,by rw[List.length_map];exact szm (by omega),Fs.of ?_⟩
    refine⟨cols++[col],_,_,_,_,rfl,by simp[hcl],fun c hc=>?_,s7.write hpG nap,by rw[Aa,List.map_append];rfl⟩
    rcases List.mem_append.mp hc with hc|hc
    ·exact hco c hc
    ·rw[List.mem_singleton] at hc;subst hc;exact⟨hcl2,hco2⟩
  ·rintro σ G5 ⟨cols,v7,v8,v9,v10,rfl,hcl,hco,s5,gp5⟩
   simp only[A9,nCB,Ah,Ap,List.getElem?_cons_succ,List.getElem?_cons_zero,Option.some.injEq,Ao,List.cons.injEq,and_true,exists_eq_left',Av gp5]
   exact Fq.of (k cols (1+r2).toNat G5 ⟨by omega,by omega,hco⟩ s5)
abbrev s_L_whole:Stmt:=top 57
abbrev M9:List Str:=["_law_thing", "_law_low", "_law_high"]
abbrev B3:List Str:=["_law_thing", "_law_low", "_law_high"]
theorem Km:FnScope M9 B3 (defScope s_L_whole):=⟨rfl,rfl,rfl,by decide +kernel,rfl,by decide +kernel,by decide +kernel⟩
def Du:DSp:=fun ds G Q _=>∃d lo hi,ds=[d,.int lo,.int hi]∧Kn G d∧Q (.bl (Ae lo hi d)) G
theorem Mf{f:Addr}{fd:FuncData}(F:Fun K "_law_whole" "_law_whole" s_L_whole f fd)(T:Blt mg):FnOk P w K mg base CX0 1 f fd B3 (Ag K Du):=by
 refine okD F Km (fun ds G Q E h=>?_) (fun cdv A outer s H XE ds G Q E hr h=>?_)
 ·obtain⟨d,lo,hi,rfl,_⟩:=h;rfl
 ·obtain⟨d,lo,hi,rfl,⟨t,ht⟩,k⟩:=h
  refine⟨_,(@qss_one _ _ _ (@qs_ret _ _ _ _ (@q_and _ _ _ _ _ _ _ (@q_callB _ _ _ _ _ _ _ _ _ (@c_isinst _) (T.blt (by decide)) (by decide +kernel) (@qa_consP _ _ _ _ _ (@q_v1 _ _ 0 _ (by exact⟨rfl,rfl,rfl,rfl⟩)) (@qa_consP _ _ _ _ _ (@q_globty _ _ _ "int" (T.blt (by decide)) (by decide +kernel) (by rfl) (by decide) (by decide)) (@qa_nil _) (by rfl)) (by rfl)) (by rfl) (by decide) (by decide) (by rfl) (by rfl)) (@q_and _ _ _ _ _ _ _ (@q_not _ _ _ _ (@q_callB _ _ _ _ _ _ _ _ _ (@c_isinst _) (T.blt (by decide)) (by decide +kernel) (@qa_consP _ _ _ _ _ (@q_v1 _ _ 0 _ (by exact⟨rfl,rfl,rfl,rfl⟩)) (@qa_consP _ _ _ _ _ (@q_globty _ _ _ "bool" (T.blt (by decide)) (by decide +kernel) (by rfl) (by decide) (by decide)) (@qa_nil _) (by rfl)) (by rfl)) (by rfl) (by decide) (by decide) (by rfl) (by rfl))) (@Ni _ _ _ _ _ (@Lf _ _ _ _ _ _ _ _ _ _ _ _ (@o_le _) (@o_le _) (@q_v1 _ _ 1 _ (by exact⟨rfl,rfl,rfl,rfl⟩)) (@q_v1 _ _ 0 _ (by exact⟨rfl,rfl,rfl,rfl⟩)) (@q_v1 _ _ 2 _ (by exact⟨rfl,rfl,rfl,rfl⟩)) (by with_unfolding_all rfl))))))),?_⟩
  simp only[A9,K9,nCB,Ah,Ap,Ak,List.map_cons,List.map_nil,List.length_cons,List.length_nil,Nat.zero_add,Nat.reduceAdd,Nat.reduceSub,List.replicate,List.cons_append,List.nil_append,List.getElem?_cons_zero,Option.some.injEq,nC,Ao,List.cons.injEq,D.ty.injEq,and_true,D.bl.injEq,Nn,Cc,List.getElem?_cons_succ,dI0,exists_eq_left',D.int.injEq,decide_eq_true_eq,and_assoc,exists_and_left,Ey,true_and,ht,Og]
  have other:(pyIs t "int" = false∨pyIs t "bool" = true)→Q (.bl false) G→if pyIs t "int" = true then if (!pyIs t "bool")=true then ∃j,d=D.int j∧if lo≤j then ∃i,d=D.int i∧Fq Q (D.bl (decide (i≤hi))) G else Fq Q (D.bl false) G else Fq Q (D.bl false) G else Fq Q (D.bl false) G:=fun h q=>by
   rcases h with h|h
   ·rw[h,if_neg Bool.false_ne_true];exact Fq.of q
   ·rw[h];split
    ·rw[if_neg (by decide)];exact Fq.of q
    ·exact Fq.of q
  cases d with
  |int i=>
   cases ht
   rw[if_pos (by decide),if_pos (by decide)]
   refine⟨i,rfl,?_⟩
   by_cases h:lo≤i
   ·rw[if_pos h]
    refine⟨i,rfl,Fq.of ?_⟩
    simpa[Ae,h] using k
   ·rw[if_neg h]
    refine Fq.of ?_
    simpa[Ae,h] using k
  |bl b=>cases ht;exact other (.inr (by decide)) k
  |non=>cases ht;exact other (.inl (by decide)) k
  |str x=>cases ht;exact other (.inl (by decide)) k
  |tup ds=>cases ht;exact other (.inl (by decide)) k
  |ty n=>cases ht
  |lint ns=>cases ht
  |ref a=>
   refine other (.inl ?_) k
   simp only[Ay] at ht
   split at ht<;>first|(cases ht;decide)|cases ht
abbrev s_L_is_sea:Stmt:=top 58
abbrev K3:List Str:=["_law_thing", "_law_column"]
abbrev p_L_is_sea:List Str:=["_law_thing"]
theorem sc_L_is_sea:FnScope K3 p_L_is_sea (defScope s_L_is_sea):=⟨rfl,rfl,rfl,by decide +kernel,rfl,by decide +kernel,by decide +kernel⟩
theorem F6:((["_law_depth"]:List Str)++(["_law_thing", "_law_column"]:List Str)).Nodup:=by decide +kernel
def spLIsSea:DSp:=fun ds G Q _=>∃d,ds=[d]∧KnT G 2 d∧SzT d∧Q (.bl (Dd d)) G
theorem Mg{f:Addr}{fd:FuncData}(F:Fun K "_law_is_sea" "_law_is_sea" s_L_is_sea f fd)(T:Blt mg)(Xf:Def P w K mg base CX0 1 "_law_whole" B3 Du):FnOk P w K mg base CX0 2 f fd p_L_is_sea (Ag K spLIsSea):=by
 refine okD F sc_L_is_sea (fun ds G Q E h=>?_) (fun cdv A outer s H XE ds G Q E hr h=>?_)
 ·obtain⟨d,rfl,_⟩:=h;rfl
 ·obtain⟨d,rfl,kn,hz,k⟩:=h
  refine⟨_,(@qss_cons _ _ _ _ _ (@qs_if _ _ _ _ _ _ _ _ (@qt_of _ _ _ (@qw_or _ _ _ _ _ _ _ (@qt_not _ _ _ _ (@qt_tru _ _ _ (@q_callB _ _ _ _ _ _ _ _ _ (@c_isinst _) (T.blt (by decide)) (by decide +kernel) (@qa_consP _ _ _ _ _ (@q_v1 _ _ 0 _ (by exact⟨rfl,rfl,rfl,rfl⟩)) (@qa_consP _ _ _ _ _ (@q_globty _ _ _ "tuple" (T.blt (by decide)) (by decide +kernel) (by rfl) (by decide) (by decide)) (@qa_nil _) (by rfl)) (by rfl)) (by rfl) (by decide) (by decide) (by rfl) (by rfl)) (by intro _ ;rfl))) (@qw_or1 _ _ _ _ (@qt_not _ _ _ _ (@qt_chain _ _ _ _ _ _ _ _ _ _ _ _ (@o_le _) (@o_le _) (@q_int _ _ _ _) (@q_callB _ _ _ _ _ _ _ _ _ (@c_len _) (T.blt (by decide)) (by decide +kernel) (@qa_consP _ _ _ _ _ (@q_v1 _ _ 0 _ (by exact⟨rfl,rfl,rfl,rfl⟩)) (@qa_nil _) (by rfl)) (by rfl) (by decide) (by decide) (by rfl) (by rfl)) (@q_int _ _ _ _) (by with_unfolding_all rfl)))))) (@qss_one _ _ _ (@qs_ret _ _ _ _ (@q_bl _ _ _ _))) (@qss_nil _)) (@qss_cons _ _ _ _ _ (@qs_for _ _ _ _ _ _ _ _ PassesOwn.never rfl (@q_v1 _ _ 0 _ (by exact⟨rfl,rfl,rfl,rfl⟩)) (@qg_name _ _ 1 _ sc_L_is_sea.nd (by rfl) (by exact .inl rfl) (by exact .inl rfl)) (@qss_cons _ _ _ _ _ (@qs_if _ _ _ _ _ _ _ _ (@qt_of _ _ _ (@qw_or _ _ _ _ _ _ _ (@qt_not _ _ _ _ (@qt_tru _ _ _ (@q_callB _ _ _ _ _ _ _ _ _ (@c_isinst _) (T.blt (by decide)) (by decide +kernel) (@qa_consP _ _ _ _ _ (@q_v1 _ _ 1 _ (by exact⟨rfl,rfl,rfl,rfl⟩)) (@qa_consP _ _ _ _ _ (@q_globty _ _ _ "tuple" (T.blt (by decide)) (by decide +kernel) (by rfl) (by decide) (by decide)) (@qa_nil _) (by rfl)) (by rfl)) (by rfl) (by decide) (by decide) (by rfl) (by rfl)) (by intro _ ;rfl))) (@qw_or _ _ _ _ _ _ _ (@qt_not _ _ _ _ (@qt_chain _ _ _ _ _ _ _ _ _ _ _ _ (@o_le _) (@o_le _) (@q_int _ _ _ _) (@q_callB _ _ _ _ _ _ _ _ _ (@c_len _) (T.blt (by decide)) (by decide +kernel) (@qa_consP _ _ _ _ _ (@q_v1 _ _ 1 _ (by exact⟨rfl,rfl,rfl,rfl⟩)) (@qa_nil _) (by rfl)) (by rfl) (by decide) (by decide) (by rfl) (by rfl)) (@q_int _ _ _ _) (by with_unfolding_all rfl))) (@qw_or1 _ _ _ _ (@qt_cmp _ _ _ _ _ _ _ _ (@o_ne _) (@q_callB _ _ _ _ _ _ _ _ _ (@c_len _) (T.blt (by decide)) (by decide +kernel) (@qa_consP _ _ _ _ _ (@q_v1 _ _ 1 _ (by exact⟨rfl,rfl,rfl,rfl⟩)) (@qa_nil _) (by rfl)) (by rfl) (by decide) (by decide) (by rfl) (by rfl)) (@q_callB _ _ _ _ _ _ _ _ _ (@c_len _) (T.blt (by decide)) (by decide +kernel) (@qa_consP _ _ _ _ _ (@q_ix _ _ _ _ _ _ (@q_v1 _ _ 0 _ (by exact⟨rfl,rfl,rfl,rfl⟩)) (@q_int _ _ _ _) (by intro _ _ ;rfl)) (@qa_nil _) (by rfl)) (by rfl) (by decide) (by decide) (by rfl) (by rfl)) (nomark _)))))) (@qss_one _ _ _ (@qs_ret _ _ _ _ (@q_bl _ _ _ _))) (@qss_nil _)) (@qss_one _ _ _ (@qs_if _ _ _ _ _ _ _ _ (@qt_not _ _ _ _ (@qt_tru _ _ _ (@q_callB _ _ _ _ _ _ _ _ _ (@c_all _ rfl) (T.blt (by decide)) (by decide +kernel) (@qa_consP _ _ _ _ _ (@q_compz _ _ _ _ _ _ _ _ _ _ _ ["_law_depth"] ["_law_thing", "_law_column"] rfl (@compOz _ _ _ _ (by rfl) (by rfl) (by rfl) (by rfl) (by rfl)) (@q_v1 _ _ 1 _ (by exact⟨rfl,rfl,rfl,rfl⟩)) (fun _ _ _=>(@qg_name _ _ 0 _ F6 (by rfl) (by exact .inl rfl) (by exact .inr rfl))) (fun _ _ _=>(@qf_nil _)) (fun _ _ _=>(@q_call _ _ _ _ _ _ _ _ noX _ _ _ Xf (hr.mono (by decide)) (@passN _ _) (@qa_consP _ _ _ _ _ (@q_v1 _ _ 0 _ (by exact⟨rfl,rfl,rfl,rfl⟩)) (@qa_consP _ _ _ _ _ (@q_int _ _ _ _) (@qa_consP _ _ _ _ _ (@q_int _ _ _ _) (@qa_nil _) (by rfl)) (by rfl)) (by rfl)) (by rfl) (by decide) (by rfl) (by rfl))) (by intro _ ;rfl)) (@qa_nil _) (by rfl)) (by rfl) (by decide) (by decide) (by rfl) (by rfl)) (by intro _ ;rfl))) (@qss_one _ _ _ (@qs_ret _ _ _ _ (@q_bl _ _ _ _))) (@qss_nil _)))) (by intro _ ;rfl)) (@qss_one _ _ _ (@qs_ret _ _ _ _ (@q_bl _ _ _ _))))),?_⟩
  obtain⟨t,ht⟩:=kn.kn
  simp only[Bk,Cb,nOr,Df,De,nCB,Ah,Ap,Ak,List.map_cons,List.map_nil,List.length_cons,List.length_nil,Nat.zero_add,Nat.reduceAdd,Nat.reduceSub,List.replicate,List.cons_append,List.nil_append,List.getElem?_cons_zero,Option.some.injEq,nC,Ao,List.cons.injEq,D.ty.injEq,and_true,A9,A8,L1,exists_eq_left',if_true,Bg,Cc,dI0,D.int.injEq,D.bl.injEq,Bool.not_false,decide_eq_true_eq,and_assoc,exists_and_left,B7,true_and,ht]
  refine⟨pyIs t "tuple",rfl,?_⟩
  by_cases htt:t = "tuple"
  ·subst htt
   obtain⟨xs,rfl⟩:=Fc ht
   refine it1 (by decide) ⟨xs.length,rfl,?_⟩
   have k2:Q (.bl (decide (2≤xs.length)&&decide (xs.length≤16)&&(xs.all Cs&&xs.all fun c=>decide (Ba c=Ba (xs.headD .non))))) G:=k
   obtain⟨hz1,hz2⟩:=hz xs rfl
   by_cases h1:2≤xs.length
   ·refine it0 (by omega) ?_
    by_cases h9:xs.length≤16
    ·refine it1 (by simp;omega) ?_
     rw[decide_eq_true h1,decide_eq_true h9,Bool.true_and,Bool.true_and] at k2
     obtain⟨y0,r0,e0⟩:∃y r,xs=y::r:=by cases xs with|nil=>simp at h1|cons y r=>exact⟨y,r,rfl⟩
     have hd0:xs.headD .non=y0:=by rw[e0];rfl
     have at0:atI xs 0=some y0:=by rw[e0];exact Jz
     rw[hd0] at k2
     refine⟨xs,rfl,?_⟩
     refine Cj (fun i σ G'=>∃v,σ=[some (.tup xs),v]∧G=G'∧∀c∈xs.take i,Cs c=true∧Ba c=Ba y0) ⟨none,rfl,rfl,by simp⟩ (fun i σ G' _ ⟨v,_,e,_⟩=>rfl) ?_ ?_
     ·rintro i x σ _ hx ⟨v,rfl,rfl,hi⟩
      have hm:=List.mem_of_getElem? hx
      have bad:¬(Cs x=true∧Ba x=Ba y0)→Q (.bl false) G:=fun z=>by
       have:(xs.all Cs&&xs.all fun c=>decide (Ba c=Ba y0))=false:=by
        rw[←Bool.not_eq_true,Bool.and_eq_true,List.all_eq_true,List.all_eq_true]
        exact fun⟨q1,q2⟩=>z ⟨q1 x hm,of_decide_eq_true (q2 x hm)⟩
       rw[this] at k2;exact k2
      have kx:=kn.2 xs rfl x hm
      obtain⟨tx,htx⟩:=kx.kn
      simp only[A2,Bk,Cb,nOr,Df,De,nCB,Ah,Ap,List.set_cons_succ,List.set_cons_zero,List.getElem?_cons_succ,List.getElem?_cons_zero,Option.some.injEq,nC,Ao,List.cons.injEq,D.ty.injEq,and_true,A9,A8,Hb,exists_eq_left',if_true,Bg,Cc,dI0,D.int.injEq,D.bl.injEq,nOp,dIx,dNe,eqS,Ch,at0,Bool.not_false,decide_eq_true_eq,and_assoc,exists_and_left,B7,true_and,htx]
      refine⟨pyIs tx "tuple",rfl,?_⟩
      by_cases hxt:tx = "tuple"
      ·subst hxt
       obtain⟨ys,rfl⟩:=Fc htx
       obtain⟨zs,rfl⟩:∃zs,y0=.tup zs:=by
        cases i with
        |zero=>rw[e0] at hx;cases hx;exact⟨_,rfl⟩
        |succ n=>
         have:=(hi y0 (by rw[e0];simp)).1
         cases y0 with
         |tup zs=>exact⟨_,rfl⟩
         |_=>cases this
       refine it1 (by decide) ⟨ys.length,rfl,?_⟩
       have cb:Cs (.tup ys)=(decide (1≤ys.length)&&decide (ys.length≤9)&&ys.all (Ae 0 9)):=rfl
       by_cases g1:1≤ys.length
       ·refine it0 (by omega) ?_
        by_cases g9:ys.length≤9
        ·refine it1 (by simp;omega) ⟨ys.length,rfl,zs.length,rfl,?_⟩
         by_cases ge:ys.length=zs.length
         ·refine it1 (by simp;omega) ⟨ys,rfl,fun p hp=>?_⟩
          have hzy:=hz2 _ hm ys rfl
          refine Cn (fun x=>.bl (Ae 0 9 x)) (fun _=>true) hzy (fun _=>rfl) (by decide) (fun x zs hx2 hl R1 R2 g1 _=>?_) ?_
          ·have ky:Kn (Ab G p (.lst zs)) x:=Kn.new (kx.2 ys rfl x hx2) hp
           simp only[E5,Ar,Ah,Ap,List.replicate,List.cons_append,List.nil_append,List.set_cons_zero,List.getElem?_cons_zero,Option.some.injEq,nC,Ao,Du,List.cons.injEq,D.int.injEq,and_true,Aa,hl,Bm,true_and,and_assoc,exists_and_left,exists_eq_left',ky,if_true]
           exact Fg.of (g1 rfl)
          ·refine⟨p,rfl,ys.map (Ae 0 9),by rw[Aa,Dy,List.map_map];rfl,_,rfl,?_⟩
           have ea:(ys.map (Ae 0 9)).all id=ys.all (Ae 0 9):=by simp[List.all_map]
           rw[ea]
           cases hc:ys.all (Ae 0 9) with
           |false=>exact it0 (by decide) ⟨G,Sub.new hp,bad fun z=>by rw[cb,hc] at z;simp at z⟩
           |true=>
            refine it1 (by decide) ⟨G,Sub.new hp,_,rfl,rfl,fun c hcm=>?_⟩
            rw[List.take_add_one,hx] at hcm
            rcases List.mem_append.mp hcm with hcm|hcm
            ·exact hi c hcm
            ·simp at hcm
             subst hcm
             exact⟨by rw[cb,hc,decide_eq_true g1,decide_eq_true g9];rfl,ge⟩
         ·exact it0 (by simp;omega) (Fq.of (bad fun z=>ge z.2))
        ·exact it0 (by simp;omega) (Fq.of (bad fun z=>by rw[cb,decide_eq_false g9] at z;simp at z))
       ·exact it1 (by omega) (Fq.of (bad fun z=>by rw[cb,decide_eq_false g1] at z;simp at z))
      ·obtain⟨e,nt⟩:=Dq htx hxt
       rw[e]
       refine it0 (by decide) (Fq.of (bad fun z=>?_))
       cases x with
       |tup xs=>exact absurd rfl (nt xs)
       |_=>cases z.1
     ·rintro σ _ ⟨v,rfl,rfl,hi⟩
      simp only[A9,nC]
      rw[List.take_length] at hi
      have:(xs.all Cs&&xs.all fun c=>decide (Ba c=Ba y0))=true:=by
       rw[Bool.and_eq_true,List.all_eq_true,List.all_eq_true]
       exact⟨fun c hc=>(hi c hc).1,fun c hc=>decide_eq_true (hi c hc).2⟩
      rw[this] at k2
      exact Fq.of k2
    ·refine it0 (by simp;omega) (Fq.of ?_)
     simpa[h9] using k2
   ·refine it1 (by omega) (Fq.of ?_)
    simpa[h1] using k2
  ·obtain⟨e,nt⟩:=Dq ht htt
   rw[e]
   refine it0 (by decide) (Fq.of ?_)
   cases d with
   |tup xs=>exact absurd rfl (nt xs)
   |_=>exact k
end
section
variable{P:Program}{w:World}{K:W.Frag}{mg:Str→Option Value}{base:Heap}
inductive Gd (G:Gp):Nat→D→Prop where
 |non {n}:Gd G n .non
 |bl {n} (b:Bool):Gd G n (.bl b)
 |int {n} (i:Int) (h:i.natAbs≤10 ^ 19):Gd G n (.int i)
 |str {n} (x:Str) (h:x∈(["", "1", "lay"]:List Str)):Gd G n (.str x)
 |tup {n} {ds:List D} (h:ds.length≤20) (r:∀d∈ds,Gd G n d):Gd G (n+1) (.tup ds)
 |lst {n} {a:Addr} {ds:List D} (e:G a=some (.lst ds)) (h:ds.length≤20) (r:∀d∈ds,Gd G n d):Gd G (n+1) (.ref a)
 |dct {n} {a:Addr} (e:G a=some (.dkk [])):Gd G n (.ref a)
 |dct1 {n} {a:Addr} (e:G a=some (.dkk [(.inr "a",.int 1)])):Gd G n (.ref a)
theorem Gd.up{G:Gp}{n m:Nat}{d:D}(h:Gd G n d)(l:n≤m):Gd G m d:=by
 induction h generalizing m with
 |non=>exact .non
 |bl b=>exact .bl b
 |int i h=>exact .int i h
 |str x h=>exact .str x h
 |tup h _ ih=>
  cases m with
  |zero=>omega
  |succ m=>exact .tup h fun d hd=>ih d hd (by omega)
 |lst e h _ ih=>
  cases m with
  |zero=>omega
  |succ m=>exact .lst e h fun d hd=>ih d hd (by omega)
 |dct e=>exact .dct e
 |dct1 e=>exact .dct1 e
theorem Gd.sub{G G':Gp}(s:Sub G G'){n:Nat}{d:D}(h:Gd G n d):Gd G' n d:=by
 induction h with
 |non=>exact .non
 |bl b=>exact .bl b
 |int i h=>exact .int i h
 |str x h=>exact .str x h
 |tup h _ ih=>exact .tup h ih
 |lst e h _ ih=>exact .lst (s _ _ e) h ih
 |dct e=>exact .dct (s _ _ e)
 |dct1 e=>exact .dct1 (s _ _ e)
theorem Lp{G:Gp}{a:Addr}:Sub (hid G a) G:=fun b o h=>by
 unfold hid at h
 split at h
 ·cases h
 ·exact h
theorem Gd.out{G:Gp}{a:Addr}{n:Nat}{d:D}(h:Gd (hid G a) n d):Gd G n d:=h.sub Lp
theorem Gd.kn{G:Gp}{n:Nat}{d:D}(h:Gd G n d):Kn G d:=by
 cases h with
 |non=>exact⟨_,rfl⟩
 |bl b=>exact⟨_,rfl⟩
 |int i h=>exact⟨_,rfl⟩
 |str x h=>exact⟨_,rfl⟩
 |tup h _=>exact⟨_,rfl⟩
 |lst e _ _=>exact⟨"list",by simp only[Ay,e]⟩
 |dct e=>exact⟨"dict",by simp only[Ay,e]⟩
 |dct1 e=>exact⟨"dict",by simp only[Ay,e]⟩
theorem Gd.part{G:Gp}{n:Nat}{ds:List D}(h:Gd G n (.tup ds)):ds.length≤20∧∀d∈ds,Gd G n d:=by
 cases h with
 |tup h r=>exact⟨h,fun d hd=>(r d hd).up (Nat.le_succ _)⟩
theorem Gd.knT{G:Gp}{n:Nat}:∀{m:Nat} {d:D},Gd G n d→KnT G m d
 |0,_,h=>h.kn
 |m+1,_,h=>⟨h.kn,fun ds e x hx=>by subst e;exact(h.part.2 x hx).knT⟩
theorem Gd.sz{G:Gp}{n:Nat}{d:D}(h:Gd G n d):SzT d:=fun xs e=>by
 subst e
 refine⟨szm (by have:=h.part.1;omega),fun y hy ys e=>?_⟩
 subst e
 exact szm (by have:=(h.part.2 _ hy).part.1;omega)
theorem Rb{G:Gp}{a b:Addr}{o:GO}(n:a≠b)(e:G b=some o):hid G a b=some o:=by unfold hid;rw[if_neg n.symm];exact e
def nw(G G':Gp):Gp:=fun b=>if (G b).isNone=true then G' b else none
theorem Ck{G G':Gp}{b:Addr}{o:GO}(h:G b=none)(e:G' b=some o):nw G G' b=some o:=by unfold nw;rw[h];exact e
theorem Ik{G G':Gp}{b:Addr}{o:GO}(h:nw G G' b=some o):G b=none∧G' b=some o:=by
 unfold nw at h
 split at h
 ·rename_i q;exact⟨by simpa using q,h⟩
 ·cases h
theorem Hl{a:Addr}{G G1 G2:Gp}(x:Step a G G1):Sub (nw G1 G2) (nw G G2):=fun b o h=>by
 obtain⟨h1,h2⟩:=Ik h
 exact Ck (x.back h1) h2
theorem N4{a:Addr}{G G1:Gp}(hG:Ct (G a)):Sub (nw G G1) (hid G1 a):=fun b o h=>by
 obtain⟨h1,h2⟩:=Ik h
 exact Rb (Step.ne hG h1) h2
abbrev s_L_odd:Stmt:=top 55
abbrev Rm:List Str:=["_law_box_here", "_law_some"]
abbrev p_L_odd:List Str:=["_law_box_here"]
theorem sc_L_odd:FnScope Rm p_L_odd (defScope s_L_odd):=⟨rfl,rfl,rfl,by decide +kernel,rfl,by decide +kernel,by decide +kernel⟩
def spOdd:DSp:=fun ds G Q _=>∃a,ds=[.ref a]∧Ct (G a)∧∀d G',Step a G G'→Gd (nw G G') 1 d→Q d G'
theorem Tr{f:Addr}{fd:FuncData}(F:Fun K "_law_odd" "_law_odd" s_L_odd f fd)(T:Blt mg)(Ww:Def P w K mg base CX0 2 "_law_take" p_L_take spTake):FnOk P w K mg base CX0 3 f fd p_L_odd (Ag K spOdd):=by
 refine okD F sc_L_odd (fun ds G Q E h=>?_) (fun cdv A outer s H XE ds G Q E hr h=>?_)
 ·obtain⟨a,rfl,_⟩:=h;rfl
 ·obtain⟨a,rfl,hG,q⟩:=h
  refine⟨_,(@qss_cons _ _ _ _ _ (@qs_set _ _ _ _ 1 _ _ sc_L_odd.nd (@q_lst _ _ _ _ (@qa_consP _ _ _ _ _ (@q_non _ _ _) (@qa_consP _ _ _ _ _ (@q_bl _ _ _ _) (@qa_consP _ _ _ _ _ (@q_bl _ _ _ _) (@qa_consP _ _ _ _ _ (@q_str _ _ _ _) (@qa_consP _ _ _ _ _ (@q_str _ _ _ _) (@qa_consP _ _ _ _ _ (@q_str _ _ _ _) (@qa_consP _ _ _ _ _ (@q_tup _ _ _ _ _ (@qa_nil _)) (@qa_consP _ _ _ _ _ (@q_lst _ _ _ _ (@qa_nil _)) (@qa_consP _ _ _ _ _ (@Sz _ _) (@qa_consP _ _ _ _ _ (@q_tup _ _ _ _ _ (@qa_consP _ _ _ _ _ (@q_int _ _ _ _) (@qa_nil _) (by rfl))) (@qa_consP _ _ _ _ _ (@q_lst _ _ _ _ (@qa_consP _ _ _ _ _ (@q_int _ _ _ _) (@qa_nil _) (by rfl))) (@qa_consP _ _ _ _ _ (@Qk _ _ _ _ _ _ (@q_str _ _ _ _) (@q_int _ _ _ _)) (@qa_consP _ _ _ _ _ (@q_neg _ _ _ _ (@q_int _ _ _ _)) (@qa_consP _ _ _ _ _ (@q_int _ _ _ _) (@qa_consP _ _ _ _ _ (@q_int _ _ _ _) (@qa_consP _ _ _ _ _ (@q_int _ _ _ _) (@qa_consP _ _ _ _ _ (@q_int _ _ _ _) (@qa_consP _ _ _ _ _ (@q_op _ _ _ _ _ _ _ _ (@o_pow _) (@q_int _ _ _ _) (@q_int _ _ _ _)) (@qa_nil _) (by rfl)) (by rfl)) (by rfl)) (by rfl)) (by rfl)) (by rfl)) (by rfl)) (by rfl)) (by rfl)) (by rfl)) (by rfl)) (by rfl)) (by rfl)) (by rfl)) (by rfl)) (by rfl)) (by rfl)) (by rfl))) (by rfl) (by exact .inl rfl) (by rfl) (by exact .inl rfl)) (@qss_one _ _ _ (@qs_ret _ _ _ _ (@q_ix _ _ _ _ _ _ (@q_v1 _ _ 1 _ (by exact⟨rfl,rfl,rfl,rfl⟩)) (@q_call _ _ _ _ _ _ _ _ noX _ _ _ Ww (hr.mono (by decide)) (@passN _ _) (@qa_consP _ _ _ _ _ (@q_v1 _ _ 0 _ (by exact⟨rfl,rfl,rfl,rfl⟩)) (@qa_consP _ _ _ _ _ (@q_int _ _ _ _) (@qa_nil _) (by rfl)) (by rfl)) (by rfl) (by decide) (by rfl) (by rfl)) (by intro _ _ ;rfl))))),?_⟩
  have sz:∀n,n≤30→n≤sizeLine:=fun n h=>szl (by omega)
  have sz0:=sz 0 (by decide)
  have sz1:=sz 1 (by decide)
  simp only[Bk,Cr,Eo,Ah,nC,Gx,Ao,List.length_nil,sz0,Rr,List.length_cons,Nat.zero_add,sz1,N6,Aa,P9,Option.some.injEq,Ig,D.int.injEq,nOp,Qa,Nat.reduceAdd,Bm,A2,A9,Ap,Ak,List.map_cons,List.map_nil,Nat.reduceSub,List.replicate,List.cons_append,List.nil_append,List.set_cons_succ,List.set_cons_zero,List.getElem?_cons_succ,List.getElem?_cons_zero,Ar,dIx,exists_eq_left',and_assoc,exists_and_left,Int.reduceLE,Int.reduceToNat,true_and,Int.reducePow,Int.reduceNeg]
  have s:=Step.refl hG
  intro p0 h0
  have s0:=s.lay (p:=p0) (o:=.lst []) h0
  have g0:Ab G p0 (.lst []) p0=some (.lst []):=Aa
  generalize Ab G p0 (.lst [])=G0 at *
  intro p1 h1
  have s1:=s0.lay (p:=p1) (o:=.dkk []) h1
  have g0:=Al (u:=.dkk []) g0 h1
  have g1:Ab G0 p1 (.dkk []) p1=some (.dkk []):=Aa
  generalize Ab G0 p1 (.dkk [])=G1 at *
  intro p2 h2
  have s2:=s1.lay (p:=p2) (o:=.lst [.int 1]) h2
  have g0:=Al (u:=.lst [.int 1]) g0 h2
  have g1:=Al (u:=.lst [.int 1]) g1 h2
  have g2:Ab G1 p2 (.lst [.int 1]) p2=some (.lst [.int 1]):=Aa
  generalize Ab G1 p2 (.lst [.int 1])=G2 at *
  intro p3 h3
  have s3:=s2.lay (p:=p3) (o:=.dkk [(.inr "a",.int 1)]) h3
  have g0:=Al (u:=.dkk [(.inr "a",.int 1)]) g0 h3
  have g1:=Al (u:=.dkk [(.inr "a",.int 1)]) g1 h3
  have g2:=Al (u:=.dkk [(.inr "a",.int 1)]) g2 h3
  have g3:Ab G2 p3 (.dkk [(.inr "a",.int 1)]) p3=some (.dkk [(.inr "a",.int 1)]):=Aa
  generalize Ab G2 p3 (.dkk [(.inr "a",.int 1)])=G3 at *
  refine⟨by decide,sz 18 (by decide),fun p4 h4=>?_⟩
  generalize hl:[D.non,D.bl true,D.bl false,D.str "",D.str "1",D.str "lay",D.tup [],D.ref p0,D.ref p1,D.tup [D.int 1],D.ref p2,D.ref p3,D.int (-1),D.int 10,D.int 13,D.int 401,D.int 100,D.int 10000000000000000000]=ls
  have s4:=s3.lay (p:=p4) (o:=.lst ls) h4
  have g0:=Al (u:=.lst ls) g0 h4
  have g1:=Al (u:=.lst ls) g1 h4
  have g2:=Al (u:=.lst ls) g2 h4
  have g3:=Al (u:=.lst ls) g3 h4
  have g4:Ab G3 p4 (.lst ls) p4=some (.lst ls):=Aa
  have n0:=Step.ne s.box h0
  have n1:=Step.ne s0.box h1
  have n2:=Step.ne s1.box h2
  have n3:=Step.ne s2.box h3
  have n4:=Step.ne s3.box h4
  generalize Ab G3 p4 (.lst ls)=G4 at *
  refine A5 s4.box (by decide) (by decide) fun r G5 r0 r1 s5=>⟨r,rfl,?_⟩
  have ll:ls.length=18:=by rw[←hl];rfl
  obtain⟨d,hd,hm⟩:=Dt (xs:=ls) r0 (by rw[ll];exact r1)
  refine⟨d,by rw[B6 (s5.get n4 g4)];exact hd,Fq.of (q d G5 (s4.trans s5) ?_)⟩
  have g0:=Ck h0 (s5.get n0 g0)
  have g1:=Ck (s0.back h1) (s5.get n1 g1)
  have g2:=Ck (s1.back h2) (s5.get n2 g2)
  have g3:=Ck (s2.back h3) (s5.get n3 g3)
  generalize nw G G5=GN at *
  have gi:∀{n:Nat} (i:Int),i.natAbs≤10 ^ 19→Gd GN n (.int i):=fun i h=>.int i h
  rw[←hl] at hm
  simp only[List.mem_cons,List.not_mem_nil,or_false] at hm
  rcases hm with rfl|rfl|rfl|rfl|rfl|rfl|rfl|rfl|rfl|rfl|rfl|rfl|rfl|rfl|rfl|rfl|rfl|rfl
  ·exact .non
  ·exact .bl _
  ·exact .bl _
  ·exact .str _ (by simp)
  ·exact .str _ (by simp)
  ·exact .str _ (by simp)
  ·exact .tup (by decide) fun d h=>nomatch h
  ·exact .lst g0 (by decide) fun d h=>nomatch h
  ·exact .dct g1
  ·exact .tup (by simp) fun d hd=>by rw[List.mem_singleton.mp hd];exact gi _ (by decide)
  ·exact .lst g2 (by simp) fun d hd=>by rw[List.mem_singleton.mp hd];exact gi _ (by decide)
  ·exact .dct1 g3
  ·exact gi _ (by decide)
  ·exact gi _ (by decide)
  ·exact gi _ (by decide)
  ·exact gi _ (by decide)
  ·exact gi _ (by decide)
  ·exact gi _ (by decide)
theorem Ke{a:Addr}{G G1:Gp}{Q:DK}{E:DX}(s:Step a G G1)(h:∀d G',Step a G G'→Step a G1 G'→Gd (nw G1 G') 1 d→Q d G'):spOdd [.ref a] G1 Q E:=⟨a,rfl,s.box,fun d G' s' g=>h d G' (s.trans s') s' g⟩
end
section
variable{P:Program}{w:World}{K:W.Frag}{mg:Str→Option Value}{base:Heap}
inductive Pu:Nat→D→Prop where
 |int {n} (i:Int) (h:0≤i∧i≤9):Pu n (.int i)
 |tup {n} {ds:List D} (h:ds.length≤16) (r:∀d∈ds,Pu n d):Pu (n+1) (.tup ds)
theorem Pu.gd{G:Gp}{n:Nat}{d:D}(h:Pu n d):Gd G n d:=by
 induction h with
 |int i h=>exact .int i (by omega)
 |tup h _ ih=>exact .tup (by omega) ih
mutual
theorem Pu.rep{G:Gp}:∀{n:Nat} {d:D},Pu n d→∃p,RepD G d p∧p.canLay0=true∧p.depth≤n
 |n,.int i,.int _ h=>⟨.int i,.int i,rfl,Nat.zero_le _⟩
 |n+1,.tup ds,.tup h r=>by
  obtain⟨ps,h1,h2,h3⟩:=Pu.reps r
  exact⟨.tuple ps,.tup h1,by rw[PyData.canLay0];exact h2,by rw[PyData.depth];omega⟩
theorem Pu.reps{G:Gp}{n:Nat}:∀{ds:List D},(∀d∈ds,Pu n d)→∃ps,RepDs G ds ps∧PyData.canLayAll0 ps=true∧PyData.depthAll ps≤n
 |[],_=>⟨[],.nil,rfl,Nat.zero_le _⟩
 |d::ds,h=>by
  obtain⟨p,a1,a2,a3⟩:=Pu.rep (G:=G) (h d (by simp))
  obtain⟨ps,b1,b2,b3⟩:=Pu.reps (G:=G) (ds:=ds) fun x hx=>h x (by simp[hx])
  exact⟨p::ps,.cons a1 b1,by rw[PyData.canLayAll0,a2,b2];rfl,by rw[PyData.depthAll];exact Nat.max_le.mpr ⟨a3,b3⟩⟩
end
theorem Bd{ds:List D}{lo hi:Option Int}{x:D}(h:x∈Aw ds lo hi):x∈ds:=List.mem_of_mem_drop (List.mem_of_mem_take h)
theorem Kh{ds:List D}{i:Int}(h:0≤i):(Aw ds none (some i)).length≤i.toNat:=by
 simp only[Aw,HT.sIx,if_neg (show ¬i<0 by omega),List.length_take];omega
theorem Of{ds:List D}{i:Int}(h:0≤i):(Aw ds (some i) none).length≤ds.length-i.toNat:=by
 simp only[Aw,HT.sIx,if_neg (show ¬i<0 by omega),List.length_take,List.length_drop];omega
theorem Rh{ds:List D}{i:Int}(h:0≤i):(Aw ds (some i) (some (i+1))).length≤1:=by
 simp only[Aw,HT.sIx,if_neg (show ¬i<0 by omega),if_neg (show ¬i+1<0 by omega),List.length_take,List.length_drop];omega
def Cu(n:Nat):DSp:=fun ds G Q _=>∃(a:Addr) (d:D) (k:Nat),ds=[.ref a,d,.int (k:Int)]∧k<n∧k≤2∧Ct (G a)∧Pu k d∧∀d' G',Step a G G'→Gd (nw G G') (k+1) d'→Q d' G'
abbrev s_L_bent:Stmt:=top 56
abbrev P2:List Str:=["_law_box_here", "_law_thing", "_law_deep", "_law_way", "_law_at"]
abbrev A4:List Str:=["_law_box_here", "_law_thing", "_law_deep"]
theorem sc_L_bent:FnScope P2 A4 (defScope s_L_bent):=⟨rfl,rfl,rfl,by decide +kernel,rfl,by decide +kernel,by decide +kernel⟩
theorem Hk{f:Addr}{fd:FuncData}{n kl:Nat}(hk:3≤kl)(F:Fun K "_law_bent" "_law_bent" s_L_bent f fd)(T:Blt mg)(Ww:Def P w K mg base CX0 2 "_law_take" p_L_take spTake)(Wy:Def P w K mg base CX0 3 "_law_odd" p_L_odd spOdd)(Xg:Def P w K mg base CX0 kl "_law_bent" A4 (Cu n)):FnOk P w K mg base CX0 (kl+1) f fd A4 (Ag K (Cu (n+1))):=by
 refine okD F sc_L_bent (fun ds G Q E h=>?_) (fun cdv A outer s H XE ds G Q E hr h=>?_)
 ·obtain⟨a,d,c,rfl,_⟩:=h;rfl
 ·obtain⟨a,d,kk,rfl,kn,k2,hG,pd,q⟩:=h
  refine⟨_,(@qss_cons _ _ _ _ _ (@qs_if _ _ _ _ _ _ _ _ (@qt_of _ _ _ (@qw_or _ _ _ _ _ _ _ (@qt_not _ _ _ _ (@qt_tru _ _ _ (@q_callB _ _ _ _ _ _ _ _ _ (@c_isinst _) (T.blt (by decide)) (by decide +kernel) (@qa_consP _ _ _ _ _ (@q_v1 _ _ 1 _ (by exact⟨rfl,rfl,rfl,rfl⟩)) (@qa_consP _ _ _ _ _ (@q_globty _ _ _ "tuple" (T.blt (by decide)) (by decide +kernel) (by rfl) (by decide) (by decide)) (@qa_nil _) (by rfl)) (by rfl)) (by rfl) (by decide) (by decide) (by rfl) (by rfl)) (by intro _ ;rfl))) (@qw_or _ _ _ _ _ _ _ (@qt_cmp _ _ _ _ _ _ _ _ (@Gw _) (@q_v1 _ _ 2 _ (by exact⟨rfl,rfl,rfl,rfl⟩)) (@q_int _ _ _ _) (nomark _)) (@qw_or1 _ _ _ _ (@qt_cmp _ _ _ _ _ _ _ _ (@Gw _) (@q_call _ _ _ _ _ _ _ _ noX _ _ _ Ww (hr.mono (by omega)) (@passN _ _) (@qa_consP _ _ _ _ _ (@q_v1 _ _ 0 _ (by exact⟨rfl,rfl,rfl,rfl⟩)) (@qa_consP _ _ _ _ _ (@q_int _ _ _ _) (@qa_nil _) (by rfl)) (by rfl)) (by rfl) (by decide) (by rfl) (by rfl)) (@q_int _ _ _ _) (nomark _)))))) (@qss_one _ _ _ (@qs_ret _ _ _ _ (@q_call _ _ _ _ _ _ _ _ noX _ _ _ Wy (hr.mono (by omega)) (@passN _ _) (@qa_consP _ _ _ _ _ (@q_v1 _ _ 0 _ (by exact⟨rfl,rfl,rfl,rfl⟩)) (@qa_nil _) (by rfl)) (by rfl) (by decide) (by rfl) (by rfl)))) (@qss_nil _)) (@qss_cons _ _ _ _ _ (@qs_par _ _ _ _ 3 4 _ _ _ _ _ _ _ _ _ rfl sc_L_bent.nd (@qa_consP _ _ _ _ _ (@q_call _ _ _ _ _ _ _ _ noX _ _ _ Ww (hr.mono (by omega)) (@passN _ _) (@qa_consP _ _ _ _ _ (@q_v1 _ _ 0 _ (by exact⟨rfl,rfl,rfl,rfl⟩)) (@qa_consP _ _ _ _ _ (@q_int _ _ _ _) (@qa_nil _) (by rfl)) (by rfl)) (by rfl) (by decide) (by rfl) (by rfl)) (@qa_consP _ _ _ _ _ (@q_call _ _ _ _ _ _ _ _ noX _ _ _ Ww (hr.mono (by omega)) (@passN _ _) (@qa_consP _ _ _ _ _ (@q_v1 _ _ 0 _ (by exact⟨rfl,rfl,rfl,rfl⟩)) (@qa_consP _ _ _ _ _ (@q_callB _ _ _ _ _ _ _ _ _ (@Oh _ rfl) (T.blt (by decide)) (by decide +kernel) (@qa_consP _ _ _ _ _ (@q_int _ _ _ _) (@qa_consP _ _ _ _ _ (@q_callB _ _ _ _ _ _ _ _ _ (@c_len _) (T.blt (by decide)) (by decide +kernel) (@qa_consP _ _ _ _ _ (@q_v1 _ _ 1 _ (by exact⟨rfl,rfl,rfl,rfl⟩)) (@qa_nil _) (by rfl)) (by rfl) (by decide) (by decide) (by rfl) (by rfl)) (@qa_nil _) (by rfl)) (by rfl)) (by rfl) (by decide) (by decide) (by rfl) (by rfl)) (@qa_nil _) (by rfl)) (by rfl)) (by rfl) (by decide) (by rfl) (by rfl)) (@qa_nil _) (by rfl)) (by rfl)) (by rfl) (by rfl) (by decide) (by rfl) (by rfl) (by rfl) (by rfl)) (@qss_cons _ _ _ _ _ (@qs_if _ _ _ _ _ _ _ _ (@qt_cmp _ _ _ _ _ _ _ _ (@Gw _) (@q_v1 _ _ 3 _ (by exact⟨rfl,rfl,rfl,rfl⟩)) (@q_int _ _ _ _) (nomark _)) (@qss_one _ _ _ (@qs_ret _ _ _ _ (@Fm _ _ _ _ _ _ _ _ _ (@Ug _) (T.blt (by decide)) (by decide +kernel) (@qa_consP _ _ _ _ _ (@q_v1 _ _ 1 _ (by exact⟨rfl,rfl,rfl,rfl⟩)) (@qa_nil _) (by rfl)) (by rfl) (by decide) (by decide) (by rfl) (by rfl)))) (@qss_nil _)) (@qss_cons _ _ _ _ _ (@qs_if _ _ _ _ _ _ _ _ (@qt_cmp _ _ _ _ _ _ _ _ (@Gw _) (@q_v1 _ _ 3 _ (by exact⟨rfl,rfl,rfl,rfl⟩)) (@q_int _ _ _ _) (nomark _)) (@qss_one _ _ _ (@qs_ret _ _ _ _ (@q_op _ _ _ _ _ _ _ _ (@o_addD _) (@A3 _ _ _ _ _ _ _ _ _ (@q_v1 _ _ 1 _ (by exact⟨rfl,rfl,rfl,rfl⟩)) (@A6 _) (@A0 _ _ _ (@q_v1 _ _ 4 _ (by exact⟨rfl,rfl,rfl,rfl⟩)))) (@A3 _ _ _ _ _ _ _ _ _ (@q_v1 _ _ 1 _ (by exact⟨rfl,rfl,rfl,rfl⟩)) (@A0 _ _ _ (@q_op _ _ _ _ _ _ _ _ (@o_addD _) (@q_v1 _ _ 4 _ (by exact⟨rfl,rfl,rfl,rfl⟩)) (@q_int _ _ _ _))) (@A6 _))))) (@qss_nil _)) (@qss_cons _ _ _ _ _ (@qs_if _ _ _ _ _ _ _ _ (@qt_cmp _ _ _ _ _ _ _ _ (@Gw _) (@q_v1 _ _ 3 _ (by exact⟨rfl,rfl,rfl,rfl⟩)) (@q_int _ _ _ _) (nomark _)) (@qss_one _ _ _ (@qs_ret _ _ _ _ (@q_op _ _ _ _ _ _ _ _ (@o_addD _) (@q_op _ _ _ _ _ _ _ _ (@o_addD _) (@A3 _ _ _ _ _ _ _ _ _ (@q_v1 _ _ 1 _ (by exact⟨rfl,rfl,rfl,rfl⟩)) (@A6 _) (@A0 _ _ _ (@q_v1 _ _ 4 _ (by exact⟨rfl,rfl,rfl,rfl⟩)))) (@A3 _ _ _ _ _ _ _ _ _ (@q_v1 _ _ 1 _ (by exact⟨rfl,rfl,rfl,rfl⟩)) (@A0 _ _ _ (@q_v1 _ _ 4 _ (by exact⟨rfl,rfl,rfl,rfl⟩))) (@A0 _ _ _ (@q_op _ _ _ _ _ _ _ _ (@o_addD _) (@q_v1 _ _ 4 _ (by exact⟨rfl,rfl,rfl,rfl⟩)) (@q_int _ _ _ _))))) (@A3 _ _ _ _ _ _ _ _ _ (@q_v1 _ _ 1 _ (by exact⟨rfl,rfl,rfl,rfl⟩)) (@A0 _ _ _ (@q_v1 _ _ 4 _ (by exact⟨rfl,rfl,rfl,rfl⟩))) (@A6 _))))) (@qss_nil _)) (@qss_cons _ _ _ _ _ (@qs_if _ _ _ _ _ _ _ _ (@qt_cmp _ _ _ _ _ _ _ _ (@Gw _) (@q_v1 _ _ 3 _ (by exact⟨rfl,rfl,rfl,rfl⟩)) (@q_int _ _ _ _) (nomark _)) (@qss_one _ _ _ (@qs_ret _ _ _ _ (@Vc _ _ _ _ _ _ _ (@q_v1 _ _ 1 _ (by exact⟨rfl,rfl,rfl,rfl⟩)) (@q_neg _ _ _ _ (@q_int _ _ _ _))))) (@qss_nil _)) (@qss_cons _ _ _ _ _ (@qs_if _ _ _ _ _ _ _ _ (@qt_cmp _ _ _ _ _ _ _ _ (@Vn _ _ hr) (@q_v1 _ _ 1 _ (by exact⟨rfl,rfl,rfl,rfl⟩)) (@q_tup _ _ _ _ _ (@qa_nil _)) (nomark _)) (@qss_one _ _ _ (@qs_ret _ _ _ _ (@q_tup _ _ _ _ _ (@qa_consP _ _ _ _ _ (@q_call _ _ _ _ _ _ _ _ noX _ _ _ Wy (hr.mono (by omega)) (@passN _ _) (@qa_consP _ _ _ _ _ (@q_v1 _ _ 0 _ (by exact⟨rfl,rfl,rfl,rfl⟩)) (@qa_nil _) (by rfl)) (by rfl) (by decide) (by rfl) (by rfl)) (@qa_nil _) (by rfl))))) (@qss_nil _)) (@qss_one _ _ _ (@qs_ret _ _ _ _ (@q_op _ _ _ _ _ _ _ _ (@o_addD _) (@q_op _ _ _ _ _ _ _ _ (@o_addD _) (@A3 _ _ _ _ _ _ _ _ _ (@q_v1 _ _ 1 _ (by exact⟨rfl,rfl,rfl,rfl⟩)) (@A6 _) (@A0 _ _ _ (@q_v1 _ _ 4 _ (by exact⟨rfl,rfl,rfl,rfl⟩)))) (@q_tup _ _ _ _ _ (@qa_consP _ _ _ _ _ (@q_call _ _ _ _ _ _ _ _ noX _ _ _ Xg (hr.mono (by omega)) (@passN _ _) (@qa_consP _ _ _ _ _ (@q_v1 _ _ 0 _ (by exact⟨rfl,rfl,rfl,rfl⟩)) (@qa_consP _ _ _ _ _ (@q_ix _ _ _ _ _ _ (@q_v1 _ _ 1 _ (by exact⟨rfl,rfl,rfl,rfl⟩)) (@q_v1 _ _ 4 _ (by exact⟨rfl,rfl,rfl,rfl⟩)) (by intro _ _ ;rfl)) (@qa_consP _ _ _ _ _ (@q_op _ _ _ _ _ _ _ _ (@K7 _) (@q_v1 _ _ 2 _ (by exact⟨rfl,rfl,rfl,rfl⟩)) (@q_int _ _ _ _)) (@qa_nil _) (by rfl)) (by rfl)) (by rfl)) (by rfl) (by decide) (by rfl) (by rfl)) (@qa_nil _) (by rfl)))) (@A3 _ _ _ _ _ _ _ _ _ (@q_v1 _ _ 1 _ (by exact⟨rfl,rfl,rfl,rfl⟩)) (@A0 _ _ _ (@q_op _ _ _ _ _ _ _ _ (@o_addD _) (@q_v1 _ _ 4 _ (by exact⟨rfl,rfl,rfl,rfl⟩)) (@q_int _ _ _ _))) (@A6 _)))))))))))),?_⟩
  have sz1:1≤sizeLine:=szl (by decide)
  have odd:∀{G1:Gp} {E:DX},Step a G G1→spOdd [.ref a] G1 (Fq Q) E:=fun s1=>Ke s1 fun d G' s' _ g=>Fq.of (q d G' s' ((g.sub (Hl s1)).up (by omega)))
  cases pd with
  |int i hi=>
   simp only[Bk,Cb,nOr,Df,De,nCB,Ah,Ap,Ak,List.map_cons,List.map_nil,List.length_cons,List.length_nil,Nat.zero_add,Nat.reduceAdd,Nat.reduceSub,List.replicate,List.cons_append,List.nil_append,List.getElem?_cons_succ,List.getElem?_cons_zero,Option.some.injEq,nC,Ao,List.cons.injEq,D.ty.injEq,and_true,A9,Ar,exists_eq_left',A8,L0,D.int.injEq,Bg,nOp,List.set_cons_succ,List.set_cons_zero,dEq,eqS,D.bl.injEq,nSl,Eu,K8,R6,Ig,Int.reduceNeg,true_and,Gx,sz1,dIx,dI0,and_assoc,exists_and_left,if_true,decide_eq_true_eq,B7,Sf]
   exact⟨false,rfl,it0 (by decide) (odd (Step.refl hG))⟩
  |@tup m ds hl r=>
   simp only[Bk,Cb,nOr,Df,De,nCB,Ah,Ap,Ak,List.map_cons,List.map_nil,List.length_cons,List.length_nil,Nat.zero_add,Nat.reduceAdd,Nat.reduceSub,List.replicate,List.cons_append,List.nil_append,List.getElem?_cons_succ,List.getElem?_cons_zero,Option.some.injEq,nC,Ao,List.cons.injEq,D.ty.injEq,and_true,A9,Ar,exists_eq_left',A8,L0,D.int.injEq,Bg,nOp,List.set_cons_succ,List.set_cons_zero,dEq,eqS,D.bl.injEq,Pi,nSl,Eu,K8,Lc,Ol,R6,Ig,Int.reduceNeg,true_and,U8,Gx,sz1,dIx,dI0,Ch,and_assoc,exists_and_left,Ew,if_true,decide_eq_true_eq,B7,Se]
   refine⟨true,rfl,it1 (by decide) (it1 (by omega) (A5 hG (by decide) (by decide) fun r1 G1 _ _ s1=>⟨_,rfl,?_⟩))⟩
   by_cases e1:r1=0
   ·exact it0 (decide_eq_true e1) (odd s1)
   refine it1 (by simpa using e1) (A5 s1.box (by decide) (by decide) fun way G2 w0 w1 s2=>A5 s2.box (by split<;>omega) (by split<;>omega) fun at' G3 a0 a1 s3=>⟨_,rfl,?_⟩)
   have s3:=(s1.trans s2).trans s3
   have gp:∀{G':Gp} {x:D},x∈ds→Gd G' (m+1) x:=fun hx=>((r _ hx).gd).up (by omega)
   have cl:=Kh (ds:=ds) a0
   have ch:=Of (ds:=ds) a0
   have ch1:=Of (ds:=ds) (show 0≤at'+1 by omega)
   have cm:=Rh (ds:=ds) a0
   have done:∀{ys:List D},ys.length≤20→(∀y∈ys,y∈ds)→Fq Q (.tup ys) G3:=fun hy hm=>Fq.of (q _ _ s3 (.tup hy fun d hd=>gp (hm d hd)))
   have szz:∀{n:Nat},n≤100→n≤sizeLine:=fun h=>szl (by omega)
   by_cases e2:way=0
   ·refine it0 (decide_eq_true e2) fun p hp=>Fq.of (q _ _ (s3.lay hp) (.lst (Ck (s3.back hp) Aa) (by omega) fun d hd=>gp hd))
   refine it1 (by simpa using e2) ⟨_,rfl,?_⟩
   have al:at'.toNat≤ds.length:=by split at a1<;>omega
   by_cases e3:way=1
   ·refine it0 (decide_eq_true e3) ⟨at',rfl,?_⟩
    rw[By]
    refine⟨_,rfl,szz (by omega),done (by rw[List.length_append];omega) fun y hy=>?_⟩
    rcases List.mem_append.mp hy with z|z<;>exact Bd z
   refine it1 (by simpa using e3) ⟨_,rfl,?_⟩
   by_cases e4:way=2
   ·refine it0 (decide_eq_true e4) ⟨at',rfl,at',rfl,?_⟩
    rw[By]
    refine⟨_,rfl,szz (by omega),at',rfl,szz (by rw[List.length_append];omega),done (by rw[List.length_append,List.length_append];omega) fun y hy=>?_⟩
    rcases List.mem_append.mp hy with z|z
    ·rcases List.mem_append.mp z with z|z<;>exact Bd z
    ·exact Bd z
   refine it1 (by simpa using e4) ⟨_,rfl,?_⟩
   by_cases e5:way=3
   ·exact it0 (decide_eq_true e5) (done (by simp;omega) fun y hy=>List.mem_reverse.mp hy)
   refine it1 (by simpa using e5) ⟨Nat.zero_le _,?_⟩
   obtain⟨ps,b1,b2,b3⟩:=Pu.reps (G:=G3) r
   refine⟨.tuple ps,.tuple [],.tup b1,.tup .nil,by rw[PyData.canLay0];exact b2,rfl,by rw[PyData.depth];omega,_,rfl,?_⟩
   cases ds with
   |nil=>
    cases b1
    refine it0 rfl (Ke s3 fun d G' s' _ g=>Fq.of (q _ _ s' (.tup (by simp) fun y hy=>by rw[List.mem_singleton.mp hy];exact(g.sub (Hl s3)).up (by omega))))
   |cons x0 xs0=>
    cases b1
    refine it1 (by simp[PyData.eqv,PyData.eqvAll]) ⟨at',rfl,at',rfl,?_⟩
    obtain⟨d,hd,hm⟩:=Dt (xs:=x0::xs0) a0 (by split at a1<;>simp at *<;>omega)
    refine⟨d,hd,a,d,m,by rw[show((m+1:Nat):Int)-1=(m:Int) by omega],by omega,by omega,s3.box,r d hm,fun d' G4 t4 gd=>⟨szz (by simp at *;omega),?_⟩⟩
    rw[By]
    refine⟨_,rfl,szz (by simp at *;omega),Fq.of (q _ _ (s3.trans t4) (.tup (by simp at *;omega) fun y hy=>?_))⟩
    rcases List.mem_append.mp hy with z|z
    ·rcases List.mem_append.mp z with z|z
     ·exact gp (Bd z)
     ·rw[List.mem_singleton.mp z];exact gd.sub (Hl s3)
    ·exact gp (Bd z)
end
structure Sh(G:Gp)(b n:Nat)(d:D)(p:PyData):Prop where
 rep:RepK G d p
 ok:p.showable=true
 len:p.shown.length≤b
 dep:p.depth≤n
theorem J3:∀{ts:List Str} {b:Nat},(∀t∈ts,t.length≤b)→(ts.map (·.length)).sum≤ts.length*b
 |[],b,h=>Nat.zero_le _
 |x::r,b,h=>by
  have ih:=J3 (ts:=r) (b:=b) fun t ht=>h t (by simp[ht])
  have hx:=h x (by simp)
  rw[List.map_cons,List.sum_cons,List.length_cons,Nat.succ_mul];omega
theorem shs{G:Gp}{b n:Nat}:∀{ds:List D},(∀d∈ds,∃p,Sh G b n d p)→∃ps,RepKs G ds ps∧PyData.showableAll ps=true∧(∀t∈PyData.shownAll ps,t.length≤b)∧PyData.depthAll ps≤n∧(PyData.shownAll ps).length=ds.length
 |[],_=>⟨[],.nil,rfl,(fun t h=>by simp[PyData.shownAll] at h),Nat.zero_le _,rfl⟩
 |d::ds,h=>by
  obtain⟨p,hp⟩:=h d (by simp)
  obtain⟨ps,h1,h2,h3,h4,h5⟩:=shs (ds:=ds) fun x hx=>h x (by simp[hx])
  refine⟨p::ps,.cons hp.rep h1,?_,fun t ht=>?_,?_,?_⟩
  ·rw[PyData.showableAll,hp.ok,h2];rfl
  ·rw[PyData.shownAll] at ht
   rcases List.mem_cons.mp ht with e|e
   ·rw[e];exact hp.len
   ·exact h3 t e
  ·rw[PyData.depthAll];exact Nat.max_le.mpr ⟨hp.dep,h4⟩
  ·rw[PyData.shownAll,List.length_cons,h5];rfl
theorem So{G:Gp}{b n c:Nat}{ds:List D}(h:∀d∈ds,∃p,Sh G b n d p)(hc:ds.length≤c):∃p,Sh G (c*(b+2)+103) (n+1) (.tup ds) p:=by
 obtain⟨ps,h1,h2,h3,h4,h5⟩:=shs h
 refine⟨.tuple ps,.tup h1,by rw[PyData.showable];exact h2,?_,by rw[PyData.depth];omega⟩
 rw[PyData.shown]
 have hl:=tupleText_len_le (PyData.shownAll ps)
 have hs:=J3 h3
 rw[h5] at hs hl
 have hm:ds.length*(b+2)≤c*(b+2):=Nat.mul_le_mul_right _ hc
 have:ds.length*(b+2)=ds.length*b+2*ds.length:=by rw[Nat.mul_add];omega
 omega
theorem Sr{G:Gp}{b n c:Nat}{a:Addr}{ds:List D}(e:G a=some (.lst ds))(h:∀d∈ds,∃p,Sh G b n d p)(hc:ds.length≤c):∃p,Sh G (c*(b+2)+103) (n+1) (.ref a) p:=by
 obtain⟨ps,h1,h2,h3,h4,h5⟩:=shs h
 refine⟨.list ps,.lst e h1,by rw[PyData.showable];exact h2,?_,by rw[PyData.depth];omega⟩
 rw[PyData.shown]
 have hl:=listText_len_le (PyData.shownAll ps)
 have hs:=J3 h3
 rw[h5] at hs hl
 have hm:ds.length*(b+2)≤c*(b+2):=Nat.mul_le_mul_right _ hc
 have:ds.length*(b+2)=ds.length*b+2*ds.length:=by rw[Nat.mul_add];omega
 omega
theorem Tz{i:Int}(h:i.natAbs<10 ^ 25):i.natAbs.log2<1920:=by
 by_cases h0:i.natAbs=0
 ·rw[h0];decide
 ·exact Nat.lt_of_lt_of_le ((Nat.log2_lt h0).mpr (Nat.lt_trans h (show 10 ^ 25<2 ^ 100 by decide))) (by decide)
def fN:Nat→Nat
 |0=>100
 |n+1=>20*(fN n+2)+103
theorem Gf:∀n,100≤fN n
 |0=>Nat.le_refl _
 |n+1=>by rw[fN];omega
theorem Gd.sh{G:Gp}{n:Nat}{d:D}(h:Gd G n d):∃p,Sh G (fN n) (n+1) d p:=by
 induction h with
 |@non n=>exact⟨.none,.non,rfl,Nat.le_trans (by decide) (Gf n),Nat.zero_le _⟩
 |@bl n b=>exact⟨.bool b,.bl b,rfl,Nat.le_trans (by cases b<;>decide) (Gf n),Nat.zero_le _⟩
 |@int n i h=>
  refine⟨.int i,.int i,decide_eq_true (Tz (Nat.lt_of_le_of_lt h (by decide))),Nat.le_trans ?_ (Gf n),Nat.zero_le _⟩
  have:=int_text_length_le10 (a:=i) (k:=25) (by decide) (Nat.lt_of_le_of_lt h (by decide))
  show(Str.ofString (toString i)).length≤100
  rw[ofString_length];omega
 |@str n x h=>
  refine⟨.str x,.str x,rfl,Nat.le_trans ?_ (Gf n),Nat.zero_le _⟩
  show(reprText x).length≤100
  simp only[List.mem_cons,List.not_mem_nil,or_false] at h
  rcases h with rfl|rfl|rfl<;>decide +kernel
 |tup h _ ih=>exact So ih h
 |lst e h _ ih=>exact Sr e ih h
 |@dct n a e=>exact⟨.dict [],.dct0 e,rfl,Nat.le_trans (by decide +kernel) (Gf n),by show 0+1≤_;omega⟩
 |@dct1 n a e=>exact⟨.dict [(.str "a",.int 1)],.dct1 e,by decide +kernel,Nat.le_trans (by decide +kernel) (Gf n),by show 0+1≤_;omega⟩
theorem U7{n:Nat}(h:n≤16000000):n≤sizeLine:=by rw[sizeLine_eq];omega
section
variable{P:Program}{w:World}{K:W.Frag}{mg:Str→Option Value}{base:Heap}
abbrev Ci:List Str:=["NoSea", "NoCell", "NoDraught", "NoDay", "NoNotices", "NoNumber", "NoMark", "NoChannel", "NoSightings", "NoFairway", "NoSide", "NoColumns", "NoLine", "There", "Nothing", "Unlike", "NoText", "TooMany"]
abbrev kindNames:List Str:=["sea", "cell", "draught", "day", "notices", "number", "mark", "channel", "sightings", "fairway", "side", "columns", "line", "there", "nothing"]
def Dp(tbl:List (Str×Addr))(x:Str):Addr:=(tbl.lookup x).getD 0
structure Cls(K:PySem.W.Frag)(mg:Str→Option Value)(tbl:List (Str×Addr)):Prop where
 mg:∀x:Str,x∈Ci→mg x=some (.ref (Dp tbl x))
 own:∀x:Str,x∈Ci→OwnK K (Dp tbl x)
structure ExKind(K:PySem.W.Frag)(tbl:List (Str×Addr))(C:Addr)(i:Nat):Prop where
 ec:ExcCl K C
 ve:PySem.W.mroIn K C (.type "ValueError")=some true
 lt:i<15
 ms:∀(j:Nat) (x:Str),Ci[j]? = some x→PySem.W.mroIn K C (.ref (Dp tbl x))=some (j == i)∧(C=Dp tbl x→(j == i)=true)
theorem isx{tbl:List (Str×Addr)}{G:Gp}{a C:Addr}{i:Nat}{Q:DK}(Z:Cls K mg tbl)(hG:G a=some (.any (excIs C)))(k:ExKind K tbl C i)(j:Nat){x:Str}(hj:Ci[j]? = some x)(q:Q (.bl (j == i)) G):Ur K [.ref a,.ref (Dp tbl x)] G Q:=
 ⟨a,C,_,_,rfl,hG,k.ec,Z.own x (List.mem_of_getElem? hj),(k.ms j x hj).1,(k.ms j x hj).2,q⟩
def fl(i:Nat):List Bool:=[0 == i,1 == i,2 == i,3 == i,4 == i,5 == i,6 == i,7 == i,8 == i,9 == i,10 == i,11 == i,12 == i,13 == i,14 == i,15 == i,16 == i,17 == i]
theorem Ub:∀i,i<15→(fl i).count true=1:=by decide
theorem Rx:∀i,i<15→(fl i)[i]? = some true∧∀m,m<i→(fl i)[m]? = some false:=by decide
theorem Ek{G:Gp}{p q:Addr}{xs ys zs:List D}{Q:DK}(hp:G p=some (.lst xs))(hq:G q=some (.lst ys))(hz:xs++ys=zs)(hl:xs.length+ys.length≤sizeLine)(k:∀r,G r=none→Q (.ref r) (Ab G r (.lst zs))):Ii (.ref p) (.ref q) G Q:=by
 subst hz
 simp only[Ii,hp,hq]
 exact⟨hl,k⟩
abbrev Bf:List D:=[D.str "sea",D.str "cell",D.str "draught",D.str "day",D.str "notices",D.str "number",D.str "mark",D.str "channel",D.str "sightings",D.str "fairway"]
abbrev Be:List D:=[D.str "side",D.str "columns",D.str "line",D.str "there",D.str "nothing",D.str "unlike",D.str "text",D.str "many"]
abbrev s_L_kind:Stmt:=top 53
abbrev Fu:List Str:=["_law_call", "e", "_law_some", "_law_words"]
abbrev p_L_kind:List Str:=["_law_call"]
theorem sc_L_kind:FnScope Fu p_L_kind (defScope s_L_kind):=⟨rfl,rfl,rfl,by decide +kernel,rfl,by decide +kernel,by decide +kernel⟩
def N9(st:Stmt):List Stmt:=match Bl st with
 |.Try _ [.ExceptHandler _ _ b _] _ _ _::_=>b
 |_=>[]
def C4(K:PySem.W.Frag)(tbl:List (Str×Addr)):DSp:=fun ds G Q _=>∃a C i,ds=[.ref a]∧G a=some (.any (excIs C))∧ExKind K tbl C i∧Q (.str (kindNames.getD i "")) G
def Nu(K:PySem.W.Frag)(tbl:List (Str×Addr)):L2.TS:=fun D σ H=>D={ nx:=fun _ _=>False,rt:=D.rt }∧∃a,σ=[none,some (.ref a),none,none]∧Ag K (C4 K tbl) [.ref a] H D.rt E0
theorem Kt{tbl:List (Str×Addr)}{f:Addr}{cdv:Value}(T:Blt mg)(Z:Cls K mg tbl)(A:Around)(outer:List Env)(s:Shared)(H:Hp)(E:XK)(e:Addr)(xe':Value→Shared→Prop)(pn':List (Addr×Obj)) :
  PSs { Bz (CX1 P w) P w K mg base Fu "_law_kind" (defScope s_L_kind) f cdv A outer s H E with A:=(A.deeper (PyProof.Rows.envOfC "_law_kind" (defScope s_L_kind) s.heap.objs.size f cdv)).mark (some (.ref e)),calm:=false,xe:=xe',pn:=pn' } (N9 s_L_kind) (Nu K tbl):=by
 have main:∃t,QSs { Bz (CX1 P w) P w K mg base Fu "_law_kind" (defScope s_L_kind) f cdv A outer s H E with A:=(A.deeper (PyProof.Rows.envOfC "_law_kind" (defScope s_L_kind) s.heap.objs.size f cdv)).mark (some (.ref e)),calm:=false,xe:=xe',pn:=pn' } (N9 s_L_kind) t∧∀a G Q,C4 K tbl [.ref a] G Q noX→t { nx:=fun _ _=>False,rt:=Fq Q } [none,some (.ref a),none,none] G:=by
  refine⟨_,(@qss_cons _ _ _ _ _ (@qs_set _ _ _ _ 2 _ _ sc_L_kind.nd (@q_lst _ _ _ _ (@qa_consP _ _ _ _ _ (@q_callB _ _ _ _ _ _ _ _ _ (@c_isexc _) (T.blt (by decide)) (by decide +kernel) (@qa_consP _ _ _ _ _ (@q_v1 _ _ 1 _ (by exact⟨rfl,rfl,rfl,rfl⟩)) (@qa_consP _ _ _ _ _ (@q_globr _ _ _ _ (Z.mg "NoSea" (by decide)) (by rfl) (by decide)) (@qa_nil _) (by rfl)) (by rfl)) (by rfl) (by decide) (by decide) (by rfl) (by rfl)) (@qa_consP _ _ _ _ _ (@q_callB _ _ _ _ _ _ _ _ _ (@c_isexc _) (T.blt (by decide)) (by decide +kernel) (@qa_consP _ _ _ _ _ (@q_v1 _ _ 1 _ (by exact⟨rfl,rfl,rfl,rfl⟩)) (@qa_consP _ _ _ _ _ (@q_globr _ _ _ _ (Z.mg "NoCell" (by decide)) (by rfl) (by decide)) (@qa_nil _) (by rfl)) (by rfl)) (by rfl) (by decide) (by decide) (by rfl) (by rfl)) (@qa_consP _ _ _ _ _ (@q_callB _ _ _ _ _ _ _ _ _ (@c_isexc _) (T.blt (by decide)) (by decide +kernel) (@qa_consP _ _ _ _ _ (@q_v1 _ _ 1 _ (by exact⟨rfl,rfl,rfl,rfl⟩)) (@qa_consP _ _ _ _ _ (@q_globr _ _ _ _ (Z.mg "NoDraught" (by decide)) (by rfl) (by decide)) (@qa_nil _) (by rfl)) (by rfl)) (by rfl) (by decide) (by decide) (by rfl) (by rfl)) (@qa_consP _ _ _ _ _ (@q_callB _ _ _ _ _ _ _ _ _ (@c_isexc _) (T.blt (by decide)) (by decide +kernel) (@qa_consP _ _ _ _ _ (@q_v1 _ _ 1 _ (by exact⟨rfl,rfl,rfl,rfl⟩)) (@qa_consP _ _ _ _ _ (@q_globr _ _ _ _ (Z.mg "NoDay" (by decide)) (by rfl) (by decide)) (@qa_nil _) (by rfl)) (by rfl)) (by rfl) (by decide) (by decide) (by rfl) (by rfl)) (@qa_nil _) (by rfl)) (by rfl)) (by rfl)) (by rfl))) (by rfl) (by exact .inl rfl) (by rfl) (by exact .inl rfl)) (@qss_cons _ _ _ _ _ (@qs_set _ _ _ _ 2 _ _ sc_L_kind.nd (@q_op _ _ _ _ _ _ _ _ (@o_addD _) (@q_v1 _ _ 2 _ (by exact⟨rfl,rfl,rfl,rfl⟩)) (@q_lst _ _ _ _ (@qa_consP _ _ _ _ _ (@q_callB _ _ _ _ _ _ _ _ _ (@c_isexc _) (T.blt (by decide)) (by decide +kernel) (@qa_consP _ _ _ _ _ (@q_v1 _ _ 1 _ (by exact⟨rfl,rfl,rfl,rfl⟩)) (@qa_consP _ _ _ _ _ (@q_globr _ _ _ _ (Z.mg "NoNotices" (by decide)) (by rfl) (by decide)) (@qa_nil _) (by rfl)) (by rfl)) (by rfl) (by decide) (by decide) (by rfl) (by rfl)) (@qa_consP _ _ _ _ _ (@q_callB _ _ _ _ _ _ _ _ _ (@c_isexc _) (T.blt (by decide)) (by decide +kernel) (@qa_consP _ _ _ _ _ (@q_v1 _ _ 1 _ (by exact⟨rfl,rfl,rfl,rfl⟩)) (@qa_consP _ _ _ _ _ (@q_globr _ _ _ _ (Z.mg "NoNumber" (by decide)) (by rfl) (by decide)) (@qa_nil _) (by rfl)) (by rfl)) (by rfl) (by decide) (by decide) (by rfl) (by rfl)) (@qa_consP _ _ _ _ _ (@q_callB _ _ _ _ _ _ _ _ _ (@c_isexc _) (T.blt (by decide)) (by decide +kernel) (@qa_consP _ _ _ _ _ (@q_v1 _ _ 1 _ (by exact⟨rfl,rfl,rfl,rfl⟩)) (@qa_consP _ _ _ _ _ (@q_globr _ _ _ _ (Z.mg "NoMark" (by decide)) (by rfl) (by decide)) (@qa_nil _) (by rfl)) (by rfl)) (by rfl) (by decide) (by decide) (by rfl) (by rfl)) (@qa_nil _) (by rfl)) (by rfl)) (by rfl)))) (by rfl) (by exact .inl rfl) (by rfl) (by exact .inl rfl)) (@qss_cons _ _ _ _ _ (@qs_set _ _ _ _ 2 _ _ sc_L_kind.nd (@q_op _ _ _ _ _ _ _ _ (@o_addD _) (@q_v1 _ _ 2 _ (by exact⟨rfl,rfl,rfl,rfl⟩)) (@q_lst _ _ _ _ (@qa_consP _ _ _ _ _ (@q_callB _ _ _ _ _ _ _ _ _ (@c_isexc _) (T.blt (by decide)) (by decide +kernel) (@qa_consP _ _ _ _ _ (@q_v1 _ _ 1 _ (by exact⟨rfl,rfl,rfl,rfl⟩)) (@qa_consP _ _ _ _ _ (@q_globr _ _ _ _ (Z.mg "NoChannel" (by decide)) (by rfl) (by decide)) (@qa_nil _) (by rfl)) (by rfl)) (by rfl) (by decide) (by decide) (by rfl) (by rfl)) (@qa_consP _ _ _ _ _ (@q_callB _ _ _ _ _ _ _ _ _ (@c_isexc _) (T.blt (by decide)) (by decide +kernel) (@qa_consP _ _ _ _ _ (@q_v1 _ _ 1 _ (by exact⟨rfl,rfl,rfl,rfl⟩)) (@qa_consP _ _ _ _ _ (@q_globr _ _ _ _ (Z.mg "NoSightings" (by decide)) (by rfl) (by decide)) (@qa_nil _) (by rfl)) (by rfl)) (by rfl) (by decide) (by decide) (by rfl) (by rfl)) (@qa_consP _ _ _ _ _ (@q_callB _ _ _ _ _ _ _ _ _ (@c_isexc _) (T.blt (by decide)) (by decide +kernel) (@qa_consP _ _ _ _ _ (@q_v1 _ _ 1 _ (by exact⟨rfl,rfl,rfl,rfl⟩)) (@qa_consP _ _ _ _ _ (@q_globr _ _ _ _ (Z.mg "NoFairway" (by decide)) (by rfl) (by decide)) (@qa_nil _) (by rfl)) (by rfl)) (by rfl) (by decide) (by decide) (by rfl) (by rfl)) (@qa_nil _) (by rfl)) (by rfl)) (by rfl)))) (by rfl) (by exact .inl rfl) (by rfl) (by exact .inl rfl)) (@qss_cons _ _ _ _ _ (@qs_set _ _ _ _ 2 _ _ sc_L_kind.nd (@q_op _ _ _ _ _ _ _ _ (@o_addD _) (@q_v1 _ _ 2 _ (by exact⟨rfl,rfl,rfl,rfl⟩)) (@q_lst _ _ _ _ (@qa_consP _ _ _ _ _ (@q_callB _ _ _ _ _ _ _ _ _ (@c_isexc _) (T.blt (by decide)) (by decide +kernel) (@qa_consP _ _ _ _ _ (@q_v1 _ _ 1 _ (by exact⟨rfl,rfl,rfl,rfl⟩)) (@qa_consP _ _ _ _ _ (@q_globr _ _ _ _ (Z.mg "NoSide" (by decide)) (by rfl) (by decide)) (@qa_nil _) (by rfl)) (by rfl)) (by rfl) (by decide) (by decide) (by rfl) (by rfl)) (@qa_consP _ _ _ _ _ (@q_callB _ _ _ _ _ _ _ _ _ (@c_isexc _) (T.blt (by decide)) (by decide +kernel) (@qa_consP _ _ _ _ _ (@q_v1 _ _ 1 _ (by exact⟨rfl,rfl,rfl,rfl⟩)) (@qa_consP _ _ _ _ _ (@q_globr _ _ _ _ (Z.mg "NoColumns" (by decide)) (by rfl) (by decide)) (@qa_nil _) (by rfl)) (by rfl)) (by rfl) (by decide) (by decide) (by rfl) (by rfl)) (@qa_consP _ _ _ _ _ (@q_callB _ _ _ _ _ _ _ _ _ (@c_isexc _) (T.blt (by decide)) (by decide +kernel) (@qa_consP _ _ _ _ _ (@q_v1 _ _ 1 _ (by exact⟨rfl,rfl,rfl,rfl⟩)) (@qa_consP _ _ _ _ _ (@q_globr _ _ _ _ (Z.mg "NoLine" (by decide)) (by rfl) (by decide)) (@qa_nil _) (by rfl)) (by rfl)) (by rfl) (by decide) (by decide) (by rfl) (by rfl)) (@qa_consP _ _ _ _ _ (@q_callB _ _ _ _ _ _ _ _ _ (@c_isexc _) (T.blt (by decide)) (by decide +kernel) (@qa_consP _ _ _ _ _ (@q_v1 _ _ 1 _ (by exact⟨rfl,rfl,rfl,rfl⟩)) (@qa_consP _ _ _ _ _ (@q_globr _ _ _ _ (Z.mg "There" (by decide)) (by rfl) (by decide)) (@qa_nil _) (by rfl)) (by rfl)) (by rfl) (by decide) (by decide) (by rfl) (by rfl)) (@qa_nil _) (by rfl)) (by rfl)) (by rfl)) (by rfl)))) (by rfl) (by exact .inl rfl) (by rfl) (by exact .inl rfl)) (@qss_cons _ _ _ _ _ (@qs_set _ _ _ _ 2 _ _ sc_L_kind.nd (@q_op _ _ _ _ _ _ _ _ (@o_addD _) (@q_v1 _ _ 2 _ (by exact⟨rfl,rfl,rfl,rfl⟩)) (@q_lst _ _ _ _ (@qa_consP _ _ _ _ _ (@q_callB _ _ _ _ _ _ _ _ _ (@c_isexc _) (T.blt (by decide)) (by decide +kernel) (@qa_consP _ _ _ _ _ (@q_v1 _ _ 1 _ (by exact⟨rfl,rfl,rfl,rfl⟩)) (@qa_consP _ _ _ _ _ (@q_globr _ _ _ _ (Z.mg "Nothing" (by decide)) (by rfl) (by decide)) (@qa_nil _) (by rfl)) (by rfl)) (by rfl) (by decide) (by decide) (by rfl) (by rfl)) (@qa_consP _ _ _ _ _ (@q_callB _ _ _ _ _ _ _ _ _ (@c_isexc _) (T.blt (by decide)) (by decide +kernel) (@qa_consP _ _ _ _ _ (@q_v1 _ _ 1 _ (by exact⟨rfl,rfl,rfl,rfl⟩)) (@qa_consP _ _ _ _ _ (@q_globr _ _ _ _ (Z.mg "Unlike" (by decide)) (by rfl) (by decide)) (@qa_nil _) (by rfl)) (by rfl)) (by rfl) (by decide) (by decide) (by rfl) (by rfl)) (@qa_consP _ _ _ _ _ (@q_callB _ _ _ _ _ _ _ _ _ (@c_isexc _) (T.blt (by decide)) (by decide +kernel) (@qa_consP _ _ _ _ _ (@q_v1 _ _ 1 _ (by exact⟨rfl,rfl,rfl,rfl⟩)) (@qa_consP _ _ _ _ _ (@q_globr _ _ _ _ (Z.mg "NoText" (by decide)) (by rfl) (by decide)) (@qa_nil _) (by rfl)) (by rfl)) (by rfl) (by decide) (by decide) (by rfl) (by rfl)) (@qa_consP _ _ _ _ _ (@q_callB _ _ _ _ _ _ _ _ _ (@c_isexc _) (T.blt (by decide)) (by decide +kernel) (@qa_consP _ _ _ _ _ (@q_v1 _ _ 1 _ (by exact⟨rfl,rfl,rfl,rfl⟩)) (@qa_consP _ _ _ _ _ (@q_globr _ _ _ _ (Z.mg "TooMany" (by decide)) (by rfl) (by decide)) (@qa_nil _) (by rfl)) (by rfl)) (by rfl) (by decide) (by decide) (by rfl) (by rfl)) (@qa_nil _) (by rfl)) (by rfl)) (by rfl)) (by rfl)))) (by rfl) (by exact .inl rfl) (by rfl) (by exact .inl rfl)) (@qss_cons _ _ _ _ _ (@qs_if _ _ _ _ _ _ _ _ (@qt_of _ _ _ (@qw_or _ _ _ _ _ _ _ (@qt_not _ _ _ _ (@qt_tru _ _ _ (@q_callB _ _ _ _ _ _ _ _ _ (@c_isexcV _) (T.blt (by decide)) (by decide +kernel) (@qa_consP _ _ _ _ _ (@q_v1 _ _ 1 _ (by exact⟨rfl,rfl,rfl,rfl⟩)) (@qa_consP _ _ _ _ _ (@q_globty _ _ _ "ValueError" (T.blt (by decide)) (by decide +kernel) (by rfl) (by decide) (by decide)) (@qa_nil _) (by rfl)) (by rfl)) (by rfl) (by decide) (by decide) (by rfl) (by rfl)) (by intro _ ;rfl))) (@qw_or1 _ _ _ _ (@qt_cmp _ _ _ _ _ _ _ _ (@o_ne _) (@S0 _ _ _ _ _ _ _ (@q_v1 _ _ 2 _ (by exact⟨rfl,rfl,rfl,rfl⟩)) (@q_bl _ _ _ _) (by rfl) (by rfl) (by rfl) (by rfl) (by rfl)) (@q_int _ _ _ _) (nomark _))))) (@qss_one _ _ _ (@qs_ret _ _ _ _ (@q_str _ _ _ _))) (@qss_nil _)) (@qss_cons _ _ _ _ _ (@qs_set _ _ _ _ 3 _ _ sc_L_kind.nd (@q_lst _ _ _ _ (@qa_consP _ _ _ _ _ (@q_str _ _ _ _) (@qa_consP _ _ _ _ _ (@q_str _ _ _ _) (@qa_consP _ _ _ _ _ (@q_str _ _ _ _) (@qa_consP _ _ _ _ _ (@q_str _ _ _ _) (@qa_consP _ _ _ _ _ (@q_str _ _ _ _) (@qa_consP _ _ _ _ _ (@q_str _ _ _ _) (@qa_consP _ _ _ _ _ (@q_str _ _ _ _) (@qa_consP _ _ _ _ _ (@q_str _ _ _ _) (@qa_consP _ _ _ _ _ (@q_str _ _ _ _) (@qa_consP _ _ _ _ _ (@q_str _ _ _ _) (@qa_nil _) (by rfl)) (by rfl)) (by rfl)) (by rfl)) (by rfl)) (by rfl)) (by rfl)) (by rfl)) (by rfl)) (by rfl))) (by rfl) (by exact .inl rfl) (by rfl) (by exact .inl rfl)) (@qss_cons _ _ _ _ _ (@qs_set _ _ _ _ 3 _ _ sc_L_kind.nd (@q_op _ _ _ _ _ _ _ _ (@o_addD _) (@q_v1 _ _ 3 _ (by exact⟨rfl,rfl,rfl,rfl⟩)) (@q_lst _ _ _ _ (@qa_consP _ _ _ _ _ (@q_str _ _ _ _) (@qa_consP _ _ _ _ _ (@q_str _ _ _ _) (@qa_consP _ _ _ _ _ (@q_str _ _ _ _) (@qa_consP _ _ _ _ _ (@q_str _ _ _ _) (@qa_consP _ _ _ _ _ (@q_str _ _ _ _) (@qa_consP _ _ _ _ _ (@q_str _ _ _ _) (@qa_consP _ _ _ _ _ (@q_str _ _ _ _) (@qa_consP _ _ _ _ _ (@q_str _ _ _ _) (@qa_nil _) (by rfl)) (by rfl)) (by rfl)) (by rfl)) (by rfl)) (by rfl)) (by rfl)) (by rfl)))) (by rfl) (by exact .inl rfl) (by rfl) (by exact .inl rfl)) (@qss_one _ _ _ (@qs_ret _ _ _ _ (@q_ix _ _ _ _ _ _ (@q_v1 _ _ 3 _ (by exact⟨rfl,rfl,rfl,rfl⟩)) (@Sx _ _ _ _ _ _ _ (@q_v1 _ _ 2 _ (by exact⟨rfl,rfl,rfl,rfl⟩)) (@q_bl _ _ _ _) (by rfl) (by rfl) (by rfl) (by rfl) (by rfl)) (by intro _ _ ;rfl)))))))))))),?_⟩
  rintro a G Q ⟨a',C,i,e,hG,hk,q⟩
  obtain rfl:a=a':=by cases e;rfl
  clear e
  simp only[Bk,Cr,Eo,Ah,nCB,Ap,List.getElem?_cons_succ,List.getElem?_cons_zero,Option.some.injEq,nC,Ao,List.length_cons,List.length_nil,Nat.zero_add,Nat.reduceAdd,A2,nOp,List.set_cons_succ,List.set_cons_zero,Cb,nOr,Df,De,A9,A8,Uu,dIx,D.int.injEq,exists_eq_left',exists_and_left,true_and,if_true,Bg,Uv,dNe,eqS,D.bl.injEq]
  have z4:4≤sizeLine:=szl (by decide)
  have z3:3≤sizeLine:=szl (by decide)
  refine isx Z hG hk 0 rfl ?_
  refine isx Z hG hk 1 rfl ?_
  refine isx Z hG hk 2 rfl ?_
  refine isx Z hG hk 3 rfl ?_
  refine⟨z4,fun p1 h1=>?_⟩
  have b1:Ab G p1 (.lst [D.bl (0 == i),D.bl (1 == i),D.bl (2 == i),D.bl (3 == i)]) p1=some (.lst [D.bl (0 == i),D.bl (1 == i),D.bl (2 == i),D.bl (3 == i)]):=Aa
  have e1:=Al (u:=.lst [D.bl (0 == i),D.bl (1 == i),D.bl (2 == i),D.bl (3 == i)]) hG h1
  have s1:Sub G (Ab G p1 (.lst [D.bl (0 == i),D.bl (1 == i),D.bl (2 == i),D.bl (3 == i)])):=(Sub.refl G).skip h1
  generalize Ab G p1 (.lst [D.bl (0 == i),D.bl (1 == i),D.bl (2 == i),D.bl (3 == i)])=G1 at *
  have t1:=s1
  refine isx Z e1 hk 4 rfl ?_
  refine isx Z e1 hk 5 rfl ?_
  refine isx Z e1 hk 6 rfl ?_
  refine⟨z3,fun p2 h2=>?_⟩
  have b2:Ab G1 p2 (.lst [D.bl (4 == i),D.bl (5 == i),D.bl (6 == i)]) p2=some (.lst [D.bl (4 == i),D.bl (5 == i),D.bl (6 == i)]):=Aa
  have e2:=Al (u:=.lst [D.bl (4 == i),D.bl (5 == i),D.bl (6 == i)]) e1 h2
  have a2:=Al (u:=.lst [D.bl (4 == i),D.bl (5 == i),D.bl (6 == i)]) b1 h2
  have s2:Sub G (Ab G1 p2 (.lst [D.bl (4 == i),D.bl (5 == i),D.bl (6 == i)])):=t1.skip h2
  generalize Ab G1 p2 (.lst [D.bl (4 == i),D.bl (5 == i),D.bl (6 == i)])=G2 at *
  refine Ek (zs:=[D.bl (0 == i),D.bl (1 == i),D.bl (2 == i),D.bl (3 == i),D.bl (4 == i),D.bl (5 == i),D.bl (6 == i)]) a2 b2 rfl (by simpa using szl (n:=7) (by decide)) fun r2 k2=>?_
  have c2:Ab G2 r2 (.lst [D.bl (0 == i),D.bl (1 == i),D.bl (2 == i),D.bl (3 == i),D.bl (4 == i),D.bl (5 == i),D.bl (6 == i)]) r2=some (.lst [D.bl (0 == i),D.bl (1 == i),D.bl (2 == i),D.bl (3 == i),D.bl (4 == i),D.bl (5 == i),D.bl (6 == i)]):=Aa
  have d2:=Al (u:=.lst [D.bl (0 == i),D.bl (1 == i),D.bl (2 == i),D.bl (3 == i),D.bl (4 == i),D.bl (5 == i),D.bl (6 == i)]) e2 k2
  have t2:Sub G (Ab G2 r2 (.lst [D.bl (0 == i),D.bl (1 == i),D.bl (2 == i),D.bl (3 == i),D.bl (4 == i),D.bl (5 == i),D.bl (6 == i)])):=s2.skip k2
  generalize Ab G2 r2 (.lst [D.bl (0 == i),D.bl (1 == i),D.bl (2 == i),D.bl (3 == i),D.bl (4 == i),D.bl (5 == i),D.bl (6 == i)])=H2 at *
  refine isx Z d2 hk 7 rfl ?_
  refine isx Z d2 hk 8 rfl ?_
  refine isx Z d2 hk 9 rfl ?_
  refine⟨z3,fun p3 h3=>?_⟩
  have b3:Ab H2 p3 (.lst [D.bl (7 == i),D.bl (8 == i),D.bl (9 == i)]) p3=some (.lst [D.bl (7 == i),D.bl (8 == i),D.bl (9 == i)]):=Aa
  have e3:=Al (u:=.lst [D.bl (7 == i),D.bl (8 == i),D.bl (9 == i)]) d2 h3
  have a3:=Al (u:=.lst [D.bl (7 == i),D.bl (8 == i),D.bl (9 == i)]) c2 h3
  have s3:Sub G (Ab H2 p3 (.lst [D.bl (7 == i),D.bl (8 == i),D.bl (9 == i)])):=t2.skip h3
  generalize Ab H2 p3 (.lst [D.bl (7 == i),D.bl (8 == i),D.bl (9 == i)])=G3 at *
  refine Ek (zs:=[D.bl (0 == i),D.bl (1 == i),D.bl (2 == i),D.bl (3 == i),D.bl (4 == i),D.bl (5 == i),D.bl (6 == i),D.bl (7 == i),D.bl (8 == i),D.bl (9 == i)]) a3 b3 rfl (by simpa using szl (n:=10) (by decide)) fun r3 k3=>?_
  have c3:Ab G3 r3 (.lst [D.bl (0 == i),D.bl (1 == i),D.bl (2 == i),D.bl (3 == i),D.bl (4 == i),D.bl (5 == i),D.bl (6 == i),D.bl (7 == i),D.bl (8 == i),D.bl (9 == i)]) r3=some (.lst [D.bl (0 == i),D.bl (1 == i),D.bl (2 == i),D.bl (3 == i),D.bl (4 == i),D.bl (5 == i),D.bl (6 == i),D.bl (7 == i),D.bl (8 == i),D.bl (9 == i)]):=Aa
  have d3:=Al (u:=.lst [D.bl (0 == i),D.bl (1 == i),D.bl (2 == i),D.bl (3 == i),D.bl (4 == i),D.bl (5 == i),D.bl (6 == i),D.bl (7 == i),D.bl (8 == i),D.bl (9 == i)]) e3 k3
  have t3:Sub G (Ab G3 r3 (.lst [D.bl (0 == i),D.bl (1 == i),D.bl (2 == i),D.bl (3 == i),D.bl (4 == i),D.bl (5 == i),D.bl (6 == i),D.bl (7 == i),D.bl (8 == i),D.bl (9 == i)])):=s3.skip k3
  generalize Ab G3 r3 (.lst [D.bl (0 == i),D.bl (1 == i),D.bl (2 == i),D.bl (3 == i),D.bl (4 == i),D.bl (5 == i),D.bl (6 == i),D.bl (7 == i),D.bl (8 == i),D.bl (9 == i)])=H3 at *
  refine isx Z d3 hk 10 rfl ?_
  refine isx Z d3 hk 11 rfl ?_
  refine isx Z d3 hk 12 rfl ?_
  refine isx Z d3 hk 13 rfl ?_
  refine⟨z4,fun p4 h4=>?_⟩
  have b4:Ab H3 p4 (.lst [D.bl (10 == i),D.bl (11 == i),D.bl (12 == i),D.bl (13 == i)]) p4=some (.lst [D.bl (10 == i),D.bl (11 == i),D.bl (12 == i),D.bl (13 == i)]):=Aa
  have e4:=Al (u:=.lst [D.bl (10 == i),D.bl (11 == i),D.bl (12 == i),D.bl (13 == i)]) d3 h4
  have a4:=Al (u:=.lst [D.bl (10 == i),D.bl (11 == i),D.bl (12 == i),D.bl (13 == i)]) c3 h4
  have s4:Sub G (Ab H3 p4 (.lst [D.bl (10 == i),D.bl (11 == i),D.bl (12 == i),D.bl (13 == i)])):=t3.skip h4
  generalize Ab H3 p4 (.lst [D.bl (10 == i),D.bl (11 == i),D.bl (12 == i),D.bl (13 == i)])=G4 at *
  refine Ek (zs:=[D.bl (0 == i),D.bl (1 == i),D.bl (2 == i),D.bl (3 == i),D.bl (4 == i),D.bl (5 == i),D.bl (6 == i),D.bl (7 == i),D.bl (8 == i),D.bl (9 == i),D.bl (10 == i),D.bl (11 == i),D.bl (12 == i),D.bl (13 == i)]) a4 b4 rfl (by simpa using szl (n:=14) (by decide)) fun r4 k4=>?_
  have c4:Ab G4 r4 (.lst [D.bl (0 == i),D.bl (1 == i),D.bl (2 == i),D.bl (3 == i),D.bl (4 == i),D.bl (5 == i),D.bl (6 == i),D.bl (7 == i),D.bl (8 == i),D.bl (9 == i),D.bl (10 == i),D.bl (11 == i),D.bl (12 == i),D.bl (13 == i)]) r4=some (.lst [D.bl (0 == i),D.bl (1 == i),D.bl (2 == i),D.bl (3 == i),D.bl (4 == i),D.bl (5 == i),D.bl (6 == i),D.bl (7 == i),D.bl (8 == i),D.bl (9 == i),D.bl (10 == i),D.bl (11 == i),D.bl (12 == i),D.bl (13 == i)]):=Aa
  have d4:=Al (u:=.lst [D.bl (0 == i),D.bl (1 == i),D.bl (2 == i),D.bl (3 == i),D.bl (4 == i),D.bl (5 == i),D.bl (6 == i),D.bl (7 == i),D.bl (8 == i),D.bl (9 == i),D.bl (10 == i),D.bl (11 == i),D.bl (12 == i),D.bl (13 == i)]) e4 k4
  have t4:Sub G (Ab G4 r4 (.lst [D.bl (0 == i),D.bl (1 == i),D.bl (2 == i),D.bl (3 == i),D.bl (4 == i),D.bl (5 == i),D.bl (6 == i),D.bl (7 == i),D.bl (8 == i),D.bl (9 == i),D.bl (10 == i),D.bl (11 == i),D.bl (12 == i),D.bl (13 == i)])):=s4.skip k4
  generalize Ab G4 r4 (.lst [D.bl (0 == i),D.bl (1 == i),D.bl (2 == i),D.bl (3 == i),D.bl (4 == i),D.bl (5 == i),D.bl (6 == i),D.bl (7 == i),D.bl (8 == i),D.bl (9 == i),D.bl (10 == i),D.bl (11 == i),D.bl (12 == i),D.bl (13 == i)])=H4 at *
  refine isx Z d4 hk 14 rfl ?_
  refine isx Z d4 hk 15 rfl ?_
  refine isx Z d4 hk 16 rfl ?_
  refine isx Z d4 hk 17 rfl ?_
  refine⟨z4,fun p5 h5=>?_⟩
  have b5:Ab H4 p5 (.lst [D.bl (14 == i),D.bl (15 == i),D.bl (16 == i),D.bl (17 == i)]) p5=some (.lst [D.bl (14 == i),D.bl (15 == i),D.bl (16 == i),D.bl (17 == i)]):=Aa
  have e5:=Al (u:=.lst [D.bl (14 == i),D.bl (15 == i),D.bl (16 == i),D.bl (17 == i)]) d4 h5
  have a5:=Al (u:=.lst [D.bl (14 == i),D.bl (15 == i),D.bl (16 == i),D.bl (17 == i)]) c4 h5
  have s5:Sub G (Ab H4 p5 (.lst [D.bl (14 == i),D.bl (15 == i),D.bl (16 == i),D.bl (17 == i)])):=t4.skip h5
  generalize Ab H4 p5 (.lst [D.bl (14 == i),D.bl (15 == i),D.bl (16 == i),D.bl (17 == i)])=G5 at *
  refine Ek (zs:=[D.bl (0 == i),D.bl (1 == i),D.bl (2 == i),D.bl (3 == i),D.bl (4 == i),D.bl (5 == i),D.bl (6 == i),D.bl (7 == i),D.bl (8 == i),D.bl (9 == i),D.bl (10 == i),D.bl (11 == i),D.bl (12 == i),D.bl (13 == i),D.bl (14 == i),D.bl (15 == i),D.bl (16 == i),D.bl (17 == i)]) a5 b5 rfl (by simpa using szl (n:=18) (by decide)) fun r5 k5=>?_
  have c5:Ab G5 r5 (.lst [D.bl (0 == i),D.bl (1 == i),D.bl (2 == i),D.bl (3 == i),D.bl (4 == i),D.bl (5 == i),D.bl (6 == i),D.bl (7 == i),D.bl (8 == i),D.bl (9 == i),D.bl (10 == i),D.bl (11 == i),D.bl (12 == i),D.bl (13 == i),D.bl (14 == i),D.bl (15 == i),D.bl (16 == i),D.bl (17 == i)]) r5=some (.lst [D.bl (0 == i),D.bl (1 == i),D.bl (2 == i),D.bl (3 == i),D.bl (4 == i),D.bl (5 == i),D.bl (6 == i),D.bl (7 == i),D.bl (8 == i),D.bl (9 == i),D.bl (10 == i),D.bl (11 == i),D.bl (12 == i),D.bl (13 == i),D.bl (14 == i),D.bl (15 == i),D.bl (16 == i),D.bl (17 == i)]):=Aa
  have d5:=Al (u:=.lst [D.bl (0 == i),D.bl (1 == i),D.bl (2 == i),D.bl (3 == i),D.bl (4 == i),D.bl (5 == i),D.bl (6 == i),D.bl (7 == i),D.bl (8 == i),D.bl (9 == i),D.bl (10 == i),D.bl (11 == i),D.bl (12 == i),D.bl (13 == i),D.bl (14 == i),D.bl (15 == i),D.bl (16 == i),D.bl (17 == i)]) e5 k5
  have t5:Sub G (Ab G5 r5 (.lst [D.bl (0 == i),D.bl (1 == i),D.bl (2 == i),D.bl (3 == i),D.bl (4 == i),D.bl (5 == i),D.bl (6 == i),D.bl (7 == i),D.bl (8 == i),D.bl (9 == i),D.bl (10 == i),D.bl (11 == i),D.bl (12 == i),D.bl (13 == i),D.bl (14 == i),D.bl (15 == i),D.bl (16 == i),D.bl (17 == i)])):=s5.skip k5
  generalize Ab G5 r5 (.lst [D.bl (0 == i),D.bl (1 == i),D.bl (2 == i),D.bl (3 == i),D.bl (4 == i),D.bl (5 == i),D.bl (6 == i),D.bl (7 == i),D.bl (8 == i),D.bl (9 == i),D.bl (10 == i),D.bl (11 == i),D.bl (12 == i),D.bl (13 == i),D.bl (14 == i),D.bl (15 == i),D.bl (16 == i),D.bl (17 == i)])=H5 at *
  have c6:H5 r5=some (.lst ((fl i).map D.bl)):=c5
  refine⟨a,C,true,rfl,d5,hk.ec,hk.ve,true,rfl,it1 (by decide) ⟨r5,rfl,⟨_,c5⟩,fl i,c6,?_⟩⟩
  rw[Ub i hk.lt]
  have lt:=hk.lt
  refine it1 (by decide) ⟨szl (by decide),fun p6 h6=>?_⟩
  have b6:Ab H5 p6 (.lst Bf) p6=some (.lst Bf):=Aa
  have a6:=Al (u:=.lst Bf) c6 h6
  have s6:Sub G (Ab H5 p6 (.lst Bf)):=t5.skip h6
  show 8≤sizeLine∧∀p,Ab H5 p6 (.lst Bf) p=none→Ii (.ref p6) (.ref p) (Ab (Ab H5 p6 (.lst Bf)) p (.lst Be)) _
  generalize Ab H5 p6 (.lst Bf)=G6 at *
  refine⟨szl (by decide),fun p7 h7=>?_⟩
  have b7:Ab G6 p7 (.lst Be) p7=some (.lst Be):=Aa
  have d7:=Al (u:=.lst Be) b6 h7
  have a7:=Al (u:=.lst Be) a6 h7
  have s7:Sub G (Ab G6 p7 (.lst Be)):=s6.skip h7
  generalize Ab G6 p7 (.lst Be)=G7 at *
  refine Ek (zs:=Bf++Be) d7 b7 rfl (szl (by decide)) fun r8 k8=>?_
  have c8:Ab G7 r8 (.lst (Bf++Be)) r8=some (.lst (Bf++Be)):=Aa
  have a8:=Al (u:=.lst (Bf++Be)) a7 k8
  have s8:Sub G (Ab G7 r8 (.lst (Bf++Be))):=s7.skip k8
  generalize Ab G7 r8 (.lst (Bf++Be))=G8 at *
  have nm:∀i,i<15→(Bf++Be)[i]? = some (D.str (kindNames.getD i "")):=fun i hi=>by
   rw[show Bf++Be=kindNames.map D.str++[D.str "unlike",D.str "text",D.str "many"] from rfl,List.getElem?_append_left (by simpa using hi),List.getElem?_map,List.getD,List.getElem?_eq_getElem (show i<kindNames.length from hi)];rfl
  exact⟨r5,rfl,⟨_,a8⟩,fl i,a8,i,(Rx i lt).1,(Rx i lt).2,_,by rw[B6 c8];exact Oj (nm i lt),G,s8,q⟩
 obtain⟨t,ht,hq⟩:=main
 intro pins s1 σ H1 D I h
 obtain⟨eD,a,rfl,ds,G,Q',E',dv,rg,h,cl,_⟩:=h
 have hds:ds=[.ref a]:=by
  obtain⟨a',_,_,e,_⟩:=id h
  subst e
  obtain⟨v,ev,d1⟩:=dv.one
  cases d1
  cases ev;rfl
 subst hds
 rw[eD]
 refine ht pins s1 _ H1 _ I ⟨[none,some (.ref a),none,none],G,_,⟨rfl,fun i d e=>?_⟩,rg,hq a G Q' h,⟨fun _ _ z=>z.elim,fun d G1 ⟨G2,sb,q⟩ H1 x1 rg1 v dv=>cl _ G2 q H1 x1 (rg1.ext' sb) _ dv,fun _ _ z=>z.elim,fun _ _ z=>z.elim⟩⟩
 match i,e with
 |0,e=>cases e
 |1,e=>cases e;exact⟨_,rfl,.ref a⟩
 |2,e=>cases e
 |3,e=>cases e
 |n+4,e=>cases e
theorem Qz{tbl:List (Str×Addr)}{f M:Addr}{fd:FuncData}{tm:List Value}{k kr:Nat}(F:Fun K "_law_kind" "_law_kind" s_L_kind f fd)(T:Blt mg)(Z:Cls K mg tbl)(hM:ExcK K "MarkError" M)(hmg:mg "MarkError" = some (.ref M))(hmM:mroK K M=some (.ref M::tm))(hB:tm.contains (.type "BaseException")=true)(hk2:kr≤k)(hms:mg "_law_kind" = some (.ref f))(hbs:Binds K fd p_L_kind []):Kind P w K mg base (k+1) kr "_law_kind" M "told" (C4 K tbl):=by
 have kp:=F.kp
 obtain⟨oc,od,kV,doc,pm,an,cdv,ct,osl,rfl,lk,hcd⟩:=F.ex
 exact⟨f,_,_,Pa (cn:="_law_call") (mn:="MarkError") (en:="e") (L:=["_law_some", "_law_words"]) (ts:=Nu K tbl) lk hcd sc_L_kind hM hmg hmM hB (fun A outer s H E e xe' pn' _=>Kt T Z A outer s H E e xe' pn') (fun H a Q h=>⟨rfl,a,rfl,h⟩) hk2 rfl rfl (fun _ _=>rfl) (by decide) (by decide) (by decide),hms,kp,hbs⟩
end
section
variable{P:Program}{w:World}{K:W.Frag}{mg:Str→Option Value}{base:Heap}{T0 M:Addr}{tbl:List (Str×Addr)}
structure Exn(K:PySem.W.Frag)(tbl:List (Str×Addr))(M C:Addr)(x:Str)(i:Nat):Prop where
 exk:ExcK K x C
 mro:∃tl,mroK K C=some (.ref C::tl)∧(Value.ref C::tl).contains (.ref M)=true
 kind:ExKind K tbl C i
theorem F9{G:Gp}{Q:DK}{C:Addr}{x:Str}{i:Nat}(B:Exn K tbl M C x i)(k:∀a,G a=none→Q (.str (kindNames.getD i "")) (Ab G a (.any (excIs C)))):whX K M (C4 K tbl) Q (.ref C) G:=by
 obtain⟨tl,h1,h2⟩:=B.mro
 exact⟨C,_,tl,rfl,B.exk,h1,h2,fun a ha=>⟨a,C,i,rfl,Aa,B.kind,k a ha⟩⟩
theorem Kn.sub{G G':Gp}{d:D}(h:Kn G d)(s:Sub G G'):Kn G' d:=by
 obtain⟨t,h⟩:=h
 refine⟨t,?_⟩
 cases d<;>first|exact h|skip
 rename_i a
 simp only[Ay] at h ⊢
 cases e:G a with
 |none=>rw[e] at h;cases h
 |some o=>rw[e] at h;rw[s a o e];exact h
theorem KnT.sub{G G':Gp}(s:Sub G G'):∀{n:Nat} {d:D},KnT G n d→KnT G' n d
 |0,_,h=>Kn.sub h s
 |_+1,_,h=>⟨Kn.sub h.1 s,fun ds e x hx=>KnT.sub s (h.2 ds e x hx)⟩
theorem N8{T:Addr}{q:Str}{params:Arguments}{body:Expr}{scope:Scope}{clos:List (Str×Addr)}{pm:Value}{σ:DSt}{G:Gp}{Q:DK}(eT:G T=some (.tbl q))(h:∀f G1,G f=none→Sub G G1→G1 f=some (.any (Lb q params body scope clos pm))→Q (.ref f) G1):Rq T q params body scope clos pm σ G Q:=
 ⟨eT,fun f hf=>h f _ hf (Sub.new hf) Aa⟩
theorem Lm{X:Cx}{kr i:Nat}{told:Str}{wD:DSp}{σ0 σ:DSt}{G:Gp}{Q:DK}{f:Addr}{q:Str}{params:Arguments}{body:Expr}{scope:Scope}{clos:List (Str×Addr)}{pm:Value}{N:List Str}{idx:List Nat}{tb:DX→DTE}(ef:σ[i]? = some (some (.ref f)))(eG:G f=some (.any (Lb q params body scope clos pm)))(L:LamR X kr q params body scope clos N idx tb)(h:tb (whX X.K M wD Q) (idx.map fun j=>(σ0[j]?).join) G (fun _ G'=>Q (.str told) G')):N5 X kr M told wD σ0 i σ G Q:=⟨f,ef,_,_,_,_,_,_,_,_,_,L,eG,h⟩
theorem J4{G G':Gp}{p:Addr}{o:GO}(s:Sub G G')(hp:G p=none):Sub G (Ab G' p o):=fun b u e=>by
 rw[As (gne e hp)];exact s b u e
theorem Tw{G:Gp}{p q:Addr}{Q:DK}(hp:G p=some (.lst [.str "sea",.str "sea"]))(hq:G q=some (.lst [.str "sea",.str "sea"]))(h:Q (.bl false) G):Uy (.ref p) (.ref q) G Q:=
 ⟨.list [.str "sea",.str "sea"],.list [.str "sea",.str "sea"],.lst hp (.cons (.str _) (.cons (.str _) .nil)),.lst hq (.cons (.str _) (.cons (.str _) .nil)),by decide +kernel,by decide +kernel,by decide +kernel,by rw[show PyData.eqv (.list [.str "sea",.str "sea"]) (.list [.str "sea",.str "sea"])=true by decide +kernel];exact h⟩
theorem D7{s:List (List Int)}{h:Nat}(ok:SeaOk s h):Pu 2 (Bo s):=by
 have hw:=ok.wide
 have hh:=ok.high
 refine .tup (by rw[List.length_map];omega) fun c hc=>?_
 obtain⟨u,hu,rfl⟩:=List.mem_map.mp hc
 obtain⟨e1,e2⟩:=ok.col u hu
 refine .tup (by rw[List.length_map];omega) fun y hy=>?_
 obtain⟨i,hi,rfl⟩:=List.mem_map.mp hy
 exact .int i (e2 i hi)
theorem Jg{CS CC CD:Addr}{lo hi:Int}{G:Gp}{E:DX}{s:List (List Int)}{h:Nat}{x t:D}{R:Prop}(ok:SeaOk s h)(kx:KnT G 1 x)(hx:B5 s.length h x=false)(he:E (.ref CC) G):Chk CS CC CD lo hi G E (Bo s) x t R:=by
 obtain⟨e1,e2⟩:=J5 ok
 have g:Gd G 2 (Bo s):=(D7 ok).gd
 refine⟨g.knT,g.sz,fun z=>(by rw[e1] at z;cases z),fun _=>⟨_,rfl,kx,fun _=>he,fun z=>?_⟩⟩
 rw[e2,List.length_map,hx] at z;cases z
theorem Lv{CS CC CD:Addr}{lo hi:Int}{G:Gp}{E:DX}{s:List (List Int)}{h:Nat}{t:D}{R:Prop}(ok:SeaOk s h)(kt:Kn G t)(ht:Ae lo hi t=false)(he:E (.ref CD) G):Chk CS CC CD lo hi G E (Bo s) (.tup [.int 0,.int 0]) t R:=by
 obtain⟨e1,e2⟩:=J5 ok
 have hw:=ok.wide
 have hh:=ok.high
 have g:Gd G 2 (Bo s):=(D7 ok).gd
 have k0:Gd G 1 (.tup [.int 0,.int 0]):=.tup (by simp) fun d hd=>by simp at hd;subst hd;exact .int 0 (by decide)
 refine⟨g.knT,g.sz,fun z=>(by rw[e1] at z;cases z),fun _=>⟨_,rfl,k0.knT,fun z=>?_,fun _=>⟨kt,fun _=>he,fun z=>(by rw[ht] at z;cases z)⟩⟩⟩
 rw[e2,List.length_map] at z
 simp only[B5,Ae,Bool.and_eq_false_iff,decide_eq_false_iff_not] at z
 omega
abbrev s_L_refused:Stmt:=top 59
abbrev En:List Str:=["_law_sea_here", "_law_thing", "_law_calls", "_law_far", "_law_bad"]
abbrev p_L_refused:List Str:=["_law_sea_here", "_law_thing"]
theorem sc_L_refused:FnScope En p_L_refused (defScope s_L_refused):=⟨rfl,rfl,rfl,by decide +kernel,rfl,by decide +kernel,by decide +kernel⟩
theorem nd_L_refused_1:((["_law_call"]:List Str)++(["_law_sea_here", "_law_thing", "_law_calls", "_law_far", "_law_bad"]:List Str)).Nodup:=by decide +kernel
def spRefused(T0:Addr)(q:Str):DSp:=fun ds G Q _=>∃s h d,ds=[Bo s,d]∧SeaOk s h∧KnT G 2 d∧SzT d∧Dd d=false∧G T0=some (.tbl q)∧∀G',Sub G G'→Q (.bl true) G'
theorem Kp{f c0 CS CC CR CD:Addr}{fd:FuncData}(F:Fun K "_law_refused" "_law_refused" s_L_refused f fd)(T:Nums mg)(hfc:fd.code=.ref c0)(hC:PySem.W.codeHdIn K c0 T0=true)(BS:Exn K tbl M CS "NoSea" 0)(BC:Exn K tbl M CC "NoCell" 1)(BR:Exn K tbl M CR "NoDraught" 2)(BD:Exn K tbl M CD "NoDay" 3)(S_kind:Kind P w K mg base 8 7 "_law_kind" M "told" (C4 K tbl))(Wz:Def P w K mg base (CX1 P w) 6 "is_bank" p_is_bank (spBank CS CC CR))(W4:Def P w K mg base (CX1 P w) 6 "drift" C5 (Dv CS CC CD)) :
  FnOk P w K mg base CX0 9 f fd p_L_refused (Ag K (spRefused T0 ("_law_refused" ++ ".<locals>." ++ "<lambda>"))):=by
 refine okDc F hfc sc_L_refused (fun ds G Q E h=>?_) (fun A outer sh H XE ds G Q E hr h=>?_)
 ·obtain⟨_,_,_,rfl,_⟩:=h;rfl
 ·obtain⟨s,h,d,rfl,ok,kn,sz,hc,hT,k⟩:=h
  have hcode:(Bz CX0 P w K mg base En "_law_refused" (defScope s_L_refused) f (.ref c0) A outer sh H XE).nox.env.code=.ref c0:=rfl
  refine⟨_,(@qss_cons _ _ _ _ _ (@qs_set _ _ _ _ 2 _ _ sc_L_refused.nd (@q_lst _ _ _ _ (@qa_consP _ _ _ _ _ (@Nx _ _ _ _ _ _ _ _ rfl rfl hcode hC) (@qa_nil _) (by rfl))) (by rfl) (by exact .inl rfl) (by rfl) (by exact .inl rfl)) (@qss_cons _ _ _ _ _ (@Bv _ _ _ _ (@K6 _ _ _ _ _ _ _ (@q_v1 _ _ 2 _ (by exact⟨rfl,rfl,rfl,rfl⟩)) (@Nx _ _ _ _ _ _ _ _ rfl rfl hcode hC) (by rfl) (by rfl) (by rfl) (by rfl) (by rfl)) (by rfl)) (@qss_cons _ _ _ _ _ (@qs_if _ _ _ _ _ _ _ _ (@qt_cmp _ _ _ _ _ _ _ _ (@Vm _ _ hr) (@Ow _ _ _ _ _ _ _ _ _ _ ["_law_call"] ["_law_sea_here", "_law_thing", "_law_calls", "_law_far", "_law_bad"] _ rfl (@compOz _ _ _ _ (by rfl) (by rfl) (by rfl) (by rfl) (by rfl)) (@q_v1 _ _ 2 _ (by exact⟨rfl,rfl,rfl,rfl⟩)) (fun _ _ _=>(@qg_name _ _ 0 _ nd_L_refused_1 (by rfl) (by exact .inl rfl) (by exact .inr rfl))) (fun _ _ _=>(@qf_nil _)) (fun σD_ pins_ σ_ s_ H_ fp_ I_ fok_ rs_=>(@q_kindN _ _ _ 0 _ _ _ _ _ _ _ _ _ _ _ _ _ _ _ _ _ _ S_kind (hr.mono (by decide)) rfl rfl (fun _=>rfl) I_ fok_ rs_ rfl (by first|exact Or.inl rfl|exact Or.inr (Or.inl rfl)|exact Or.inr (Or.inr rfl)) (by decide) (by decide) rfl (by decide) rfl rfl)) (by intro _ ;rfl)) (@q_op _ _ _ _ _ _ _ _ (@o_repL _) (@q_lst _ _ _ _ (@qa_consP _ _ _ _ _ (@q_str _ _ _ _) (@qa_nil _) (by rfl))) (@q_int _ _ _ _)) (nomark _)) (@qss_one _ _ _ (@qs_ret _ _ _ _ (@q_bl _ _ _ _))) (@qss_nil _)) (@qss_cons _ _ _ _ _ (@qs_set _ _ _ _ 3 _ _ sc_L_refused.nd (@q_tup _ _ _ _ _ (@qa_consP _ _ _ _ _ (@q_callB _ _ _ _ _ _ _ _ _ (@c_len _) (T.blt (by decide)) (by decide +kernel) (@qa_consP _ _ _ _ _ (@q_v2 _ _ 0 _ (by exact⟨rfl,rfl,rfl,rfl⟩)) (@qa_nil _) (by rfl)) (by rfl) (by decide) (by decide) (by rfl) (by rfl)) (@qa_consP _ _ _ _ _ (@q_int _ _ _ _) (@qa_nil _) (by rfl)) (by rfl))) (by rfl) (by exact .inl rfl) (by rfl) (by exact .inl rfl)) (@qss_cons _ _ _ _ _ (@qs_for _ _ _ _ _ _ _ _ PassesOwn.never rfl (@q_lst _ _ _ _ (@qa_consP _ _ _ _ _ (@q_v1 _ _ 3 _ (by exact⟨rfl,rfl,rfl,rfl⟩)) (@qa_consP _ _ _ _ _ (@q_tup _ _ _ _ _ (@qa_consP _ _ _ _ _ (@q_int _ _ _ _) (@qa_consP _ _ _ _ _ (@q_callB _ _ _ _ _ _ _ _ _ (@c_len _) (T.blt (by decide)) (by decide +kernel) (@qa_consP _ _ _ _ _ (@q_ix _ _ _ _ _ _ (@q_v2 _ _ 0 _ (by exact⟨rfl,rfl,rfl,rfl⟩)) (@q_int _ _ _ _) (by intro _ _ ;rfl)) (@qa_nil _) (by rfl)) (by rfl) (by decide) (by decide) (by rfl) (by rfl)) (@qa_nil _) (by rfl)) (by rfl))) (@qa_consP _ _ _ _ _ (@q_tup _ _ _ _ _ (@qa_consP _ _ _ _ _ (@q_neg _ _ _ _ (@q_int _ _ _ _)) (@qa_consP _ _ _ _ _ (@q_int _ _ _ _) (@qa_nil _) (by rfl)) (by rfl))) (@qa_consP _ _ _ _ _ (@q_tup _ _ _ _ _ (@qa_consP _ _ _ _ _ (@q_int _ _ _ _) (@qa_consP _ _ _ _ _ (@q_bl _ _ _ _) (@qa_nil _) (by rfl)) (by rfl))) (@qa_consP _ _ _ _ _ (@q_tup _ _ _ _ _ (@qa_consP _ _ _ _ _ (@q_int _ _ _ _) (@qa_nil _) (by rfl))) (@qa_consP _ _ _ _ _ (@q_lst _ _ _ _ (@qa_consP _ _ _ _ _ (@q_int _ _ _ _) (@qa_consP _ _ _ _ _ (@q_int _ _ _ _) (@qa_nil _) (by rfl)) (by rfl))) (@qa_consP _ _ _ _ _ (@q_non _ _ _) (@qa_consP _ _ _ _ _ (@q_int _ _ _ _) (@qa_consP _ _ _ _ _ (@q_tup _ _ _ _ _ (@qa_consP _ _ _ _ _ (@q_int _ _ _ _) (@qa_consP _ _ _ _ _ (@q_int _ _ _ _) (@qa_consP _ _ _ _ _ (@q_int _ _ _ _) (@qa_nil _) (by rfl)) (by rfl)) (by rfl))) (@qa_nil _) (by rfl)) (by rfl)) (by rfl)) (by rfl)) (by rfl)) (by rfl)) (by rfl)) (by rfl)) (by rfl))) (@qg_name _ _ 4 _ sc_L_refused.nd (by rfl) (by exact .inr rfl) (by exact .inl rfl)) (@qss_cons _ _ _ _ _ (@qs_if _ _ _ _ _ _ _ _ (@qt_cmp _ _ _ _ _ _ _ _ (@o_ne _) (@q_kind _ _ _ _ _ _ _ _ _ _ _ _ _ ["_law_sea_here", "_law_bad"] [0,4] _ _ _ _ S_kind (hr.mono (by decide)) hcode hC rfl rfl (fun _=>rfl) (fun E f c A outer s H hr=>(@q_call _ _ _ _ _ _ _ _ E _ _ _ Wz (L2.Room.mono (hr.deeper _) (by decide)) (passL (fun _ _ _ z=>z)) (@qa_consP _ _ _ _ _ (@q_v3 _ _ 0 _ (by exact⟨rfl,rfl,rfl,rfl⟩)) (@qa_consP _ _ _ _ _ (@q_v3 _ _ 1 _ (by exact⟨rfl,rfl,rfl,rfl⟩)) (@qa_consP _ _ _ _ _ (@q_int _ _ _ _) (@qa_nil _) (by rfl)) (by rfl)) (by rfl)) (by rfl) (by decide) (by rfl) (by rfl))) rfl rfl (And.intro rfl (And.intro rfl trivial)) (And.intro (And.intro rfl (And.intro rfl rfl)) (And.intro (And.intro rfl (And.intro rfl rfl)) trivial)) rfl (by decide +kernel) (LamScope.mk rfl rfl rfl (by decide +kernel)) (fun _ _ _ _ _=>rfl) (by rfl) (by decide) (by rfl) (by rfl)) (@q_str _ _ _ _) (nomark _)) (@qss_one _ _ _ (@qs_ret _ _ _ _ (@q_bl _ _ _ _))) (@qss_nil _)) (@qss_one _ _ _ (@qs_if _ _ _ _ _ _ _ _ (@qt_cmp _ _ _ _ _ _ _ _ (@o_ne _) (@q_kind _ _ _ _ _ _ _ _ _ _ _ _ _ ["_law_sea_here", "_law_bad"] [0,4] _ _ _ _ S_kind (hr.mono (by decide)) hcode hC rfl rfl (fun _=>rfl) (fun E f c A outer s H hr=>(@q_call _ _ _ _ _ _ _ _ E _ _ _ W4 (L2.Room.mono (hr.deeper _) (by decide)) (passL (fun _ _ _ z=>z)) (@qa_consP _ _ _ _ _ (@q_v3 _ _ 0 _ (by exact⟨rfl,rfl,rfl,rfl⟩)) (@qa_consP _ _ _ _ _ (@q_v3 _ _ 1 _ (by exact⟨rfl,rfl,rfl,rfl⟩)) (@qa_consP _ _ _ _ _ (@q_neg _ _ _ _ (@q_int _ _ _ _)) (@qa_nil _) (by rfl)) (by rfl)) (by rfl)) (by rfl) (by decide) (by rfl) (by rfl))) rfl rfl (And.intro rfl (And.intro rfl trivial)) (And.intro (And.intro rfl (And.intro rfl rfl)) (And.intro (And.intro rfl (And.intro rfl rfl)) trivial)) rfl (by decide +kernel) (LamScope.mk rfl rfl rfl (by decide +kernel)) (fun _ _ _ _ _=>rfl) (by rfl) (by decide) (by rfl) (by rfl)) (@q_str _ _ _ _) (nomark _)) (@qss_one _ _ _ (@qs_ret _ _ _ _ (@q_bl _ _ _ _))) (@qss_nil _)))) (by intro _ ;rfl)) (@qss_cons _ _ _ _ _ (@qs_for _ _ _ _ _ _ _ _ PassesOwn.never rfl (@q_lst _ _ _ _ (@qa_consP _ _ _ _ _ (@q_int _ _ _ _) (@qa_consP _ _ _ _ _ (@q_int _ _ _ _) (@qa_consP _ _ _ _ _ (@q_bl _ _ _ _) (@qa_consP _ _ _ _ _ (@q_non _ _ _) (@qa_consP _ _ _ _ _ (@q_str _ _ _ _) (@qa_consP _ _ _ _ _ (@q_op _ _ _ _ _ _ _ _ (@o_pow _) (@q_int _ _ _ _) (@q_int _ _ _ _)) (@qa_nil _) (by rfl)) (by rfl)) (by rfl)) (by rfl)) (by rfl)) (by rfl))) (@qg_name _ _ 4 _ sc_L_refused.nd (by rfl) (by exact .inr rfl) (by exact .inl rfl)) (@qss_one _ _ _ (@qs_if _ _ _ _ _ _ _ _ (@qt_cmp _ _ _ _ _ _ _ _ (@o_ne _) (@q_kind _ _ _ _ _ _ _ _ _ _ _ _ _ ["_law_sea_here", "_law_bad"] [0,4] _ _ _ _ S_kind (hr.mono (by decide)) hcode hC rfl rfl (fun _=>rfl) (fun E f c A outer s H hr=>(@q_call _ _ _ _ _ _ _ _ E _ _ _ Wz (L2.Room.mono (hr.deeper _) (by decide)) (passL (fun _ _ _ z=>z)) (@qa_consP _ _ _ _ _ (@q_v3 _ _ 0 _ (by exact⟨rfl,rfl,rfl,rfl⟩)) (@qa_consP _ _ _ _ _ (@q_tup _ _ _ _ _ (@qa_consP _ _ _ _ _ (@q_int _ _ _ _) (@qa_consP _ _ _ _ _ (@q_int _ _ _ _) (@qa_nil _) (by rfl)) (by rfl))) (@qa_consP _ _ _ _ _ (@q_v3 _ _ 1 _ (by exact⟨rfl,rfl,rfl,rfl⟩)) (@qa_nil _) (by rfl)) (by rfl)) (by rfl)) (by rfl) (by decide) (by rfl) (by rfl))) rfl rfl (And.intro rfl (And.intro rfl trivial)) (And.intro (And.intro rfl (And.intro rfl rfl)) (And.intro (And.intro rfl (And.intro rfl rfl)) trivial)) rfl (by decide +kernel) (LamScope.mk rfl rfl rfl (by decide +kernel)) (fun _ _ _ _ _=>rfl) (by rfl) (by decide) (by rfl) (by rfl)) (@q_str _ _ _ _) (nomark _)) (@qss_one _ _ _ (@qs_ret _ _ _ _ (@q_bl _ _ _ _))) (@qss_nil _))) (by intro _ ;rfl)) (@qss_cons _ _ _ _ _ (@qs_for _ _ _ _ _ _ _ _ PassesOwn.never rfl (@q_lst _ _ _ _ (@qa_consP _ _ _ _ _ (@q_neg _ _ _ _ (@q_int _ _ _ _)) (@qa_consP _ _ _ _ _ (@q_int _ _ _ _) (@qa_consP _ _ _ _ _ (@q_bl _ _ _ _) (@qa_consP _ _ _ _ _ (@q_non _ _ _) (@qa_consP _ _ _ _ _ (@q_str _ _ _ _) (@qa_consP _ _ _ _ _ (@q_op _ _ _ _ _ _ _ _ (@o_pow _) (@q_int _ _ _ _) (@q_int _ _ _ _)) (@qa_nil _) (by rfl)) (by rfl)) (by rfl)) (by rfl)) (by rfl)) (by rfl))) (@qg_name _ _ 4 _ sc_L_refused.nd (by rfl) (by exact .inr rfl) (by exact .inl rfl)) (@qss_one _ _ _ (@qs_if _ _ _ _ _ _ _ _ (@qt_cmp _ _ _ _ _ _ _ _ (@o_ne _) (@q_kind _ _ _ _ _ _ _ _ _ _ _ _ _ ["_law_sea_here", "_law_bad"] [0,4] _ _ _ _ S_kind (hr.mono (by decide)) hcode hC rfl rfl (fun _=>rfl) (fun E f c A outer s H hr=>(@q_call _ _ _ _ _ _ _ _ E _ _ _ W4 (L2.Room.mono (hr.deeper _) (by decide)) (passL (fun _ _ _ z=>z)) (@qa_consP _ _ _ _ _ (@q_v3 _ _ 0 _ (by exact⟨rfl,rfl,rfl,rfl⟩)) (@qa_consP _ _ _ _ _ (@q_tup _ _ _ _ _ (@qa_consP _ _ _ _ _ (@q_int _ _ _ _) (@qa_consP _ _ _ _ _ (@q_int _ _ _ _) (@qa_nil _) (by rfl)) (by rfl))) (@qa_consP _ _ _ _ _ (@q_v3 _ _ 1 _ (by exact⟨rfl,rfl,rfl,rfl⟩)) (@qa_nil _) (by rfl)) (by rfl)) (by rfl)) (by rfl) (by decide) (by rfl) (by rfl))) rfl rfl (And.intro rfl (And.intro rfl trivial)) (And.intro (And.intro rfl (And.intro rfl rfl)) (And.intro (And.intro rfl (And.intro rfl rfl)) trivial)) rfl (by decide +kernel) (LamScope.mk rfl rfl rfl (by decide +kernel)) (fun _ _ _ _ _=>rfl) (by rfl) (by decide) (by rfl) (by rfl)) (@q_str _ _ _ _) (nomark _)) (@qss_one _ _ _ (@qs_ret _ _ _ _ (@q_bl _ _ _ _))) (@qss_nil _))) (by intro _ ;rfl)) (@qss_one _ _ _ (@qs_ret _ _ _ _ (@q_bl _ _ _ _)))))))))),?_⟩
  have sz1:1≤sizeLine:=szl (by decide)
  simp only[Bk,Cr,Eo,Ah,Ak,List.map_cons,List.map_nil,List.length_cons,List.length_nil,Nat.zero_add,Nat.reduceAdd,Nat.reduceSub,List.replicate,List.cons_append,List.nil_append,Ao,sz1,A2,E7,Nc,Ap,List.set_cons_succ,List.set_cons_zero,List.getElem?_cons_succ,List.getElem?_cons_zero,Option.some.injEq,Cb,Bg,nOp,Lj,nC,A9,A8,Gx,nCB,List.cons.injEq,and_true,L1,dIx,D.int.injEq,Ig,Qa,and_assoc,exists_and_left,true_and,exists_eq_left',Int.reduceNeg,D.ref.injEq,Aa,GO.lst.injEq]
  refine N8 hT fun f1 G1 hf1 sb1 g1=>?_
  refine fun p hp=>⟨⟨_,rfl⟩,?_⟩
  have sb2:Sub G (Ab G1 p (.lst [.ref f1])):=sb1.skip hp
  have g2:=Al (u:=.lst [.ref f1]) g1 hp
  have e2:Ab G1 p (.lst [.ref f1]) p=some (.lst [.ref f1]):=Aa
  have hp0:G p=none:=sb1.none hp
  have hf1p:f1≠p:=gne g1 hp
  generalize Ab G1 p (.lst [.ref f1])=G2 at *
  refine N8 (sb2 _ _ hT) fun f2 G3 hf2 sb3 g3=>?_
  have hf2p:f2≠p:=fun z=>by rw[z,e2] at hf2;cases hf2
  refine⟨[.ref f1],sb3 _ _ e2,szm (by simp),?_⟩
  have e4:Ab G3 p (.lst ([.ref f1]++[.ref f2])) p=some (.lst [.ref f1,.ref f2]):=Aa
  have a4:Ab G3 p (.lst ([.ref f1]++[.ref f2])) f1=G3 f1:=As hf1p
  have b4:Ab G3 p (.lst ([.ref f1]++[.ref f2])) f2=G3 f2:=As hf2p
  rw[sb3 _ _ g2] at a4
  rw[g3] at b4
  have sb4:Sub G (Ab G3 p (.lst ([.ref f1]++[.ref f2]))):=J4 (sb2.trans sb3) hp0
  generalize Ab G3 p (.lst ([.ref f1]++[.ref f2]))=G4 at *
  refine⟨_,Av e4,fun p1 hp1=>?_⟩
  refine⟨fun j ys G5=>ys=List.replicate j (.str "sea")∧j≤2∧Sub G4 G5∧G5 p1=some (.lst ys),⟨rfl,by decide,Sub.new hp1,Aa⟩,fun j ys G5 _ ⟨_,_,sb,e⟩=>⟨Av (sb _ _ e4),e⟩,?_,?_⟩
  ·rintro j x ys G5 hx ⟨rfl,hj,sb,e⟩
   have hj2:j<2:=(List.getElem?_eq_some_iff.mp hx).1
   have kd:=KnT.sub (sb4.trans sb) kn
   simp only[A2,List.replicate,List.cons_append,List.nil_append,List.set_cons_zero,E5,if_true]
   have go:∀{E:DX} {Q1:DK},E (.ref CS) G5→spBank CS CC CR [d,.non,.non] G5 Q1 E:=fun he=>⟨d,.non,.non,rfl,kd,sz,fun _=>he,fun z=>by rw[hc] at z;cases z⟩
   have go2:∀{E:DX} {Q1:DK},E (.ref CS) G5→Dv CS CC CD [d,.non,.non] G5 Q1 E:=fun he=>⟨d,.non,.non,rfl,kd,sz,fun _=>he,fun z=>by rw[hc] at z;cases z⟩
   refine⟨⟨[some x],rfl,rfl⟩,?_⟩
   have hj3:j=0∨j=1:=by omega
   rcases hj3 with rfl|rfl
   ·cases hx
    refine Lm (N:=["_law_thing"]) (idx:=[1]) rfl (sb _ _ a4) ⟨fun E f c A outer s H hr=>(@q_call _ _ _ _ _ _ _ _ E _ _ _ Wz (L2.Room.mono (hr.deeper _) (by decide)) (passL (fun _ _ _ z=>z)) (@qa_consP _ _ _ _ _ (@q_v3 _ _ 0 _ (by exact⟨rfl,rfl,rfl,rfl⟩)) (@qa_consP _ _ _ _ _ (@q_non _ _ _) (@qa_consP _ _ _ _ _ (@q_non _ _ _) (@qa_nil _) (by rfl)) (by rfl)) (by rfl)) (by rfl) (by decide) (by rfl) (by rfl)),(And.intro rfl trivial),(And.intro (And.intro rfl (And.intro rfl rfl)) trivial),rfl,by decide +kernel,LamScope.mk rfl rfl rfl (by decide +kernel),fun _ _ _ _ _=>rfl⟩ ?_
    simp only[Ar,Ah,Ap,List.map_cons,List.getElem?_cons_succ,List.getElem?_cons_zero,List.map_nil,Option.some.injEq,nC,Ao,List.replicate,List.length_nil,List.nil_append,List.cons.injEq,D.str.injEq,and_true,Nat.zero_add]
    refine⟨d,rfl,go (F9 BS ?_)⟩
    exact fun a ha=>⟨Al e ha,szm (by decide),Fg.of ⟨rfl,by decide,J4 (sb.skip ha) hp1,Aa⟩⟩
   ·cases hx
    refine Lm (N:=["_law_thing"]) (idx:=[1]) rfl (sb _ _ b4) ⟨fun E f c A outer s H hr=>(@q_call _ _ _ _ _ _ _ _ E _ _ _ W4 (L2.Room.mono (hr.deeper _) (by decide)) (passL (fun _ _ _ z=>z)) (@qa_consP _ _ _ _ _ (@q_v3 _ _ 0 _ (by exact⟨rfl,rfl,rfl,rfl⟩)) (@qa_consP _ _ _ _ _ (@q_non _ _ _) (@qa_consP _ _ _ _ _ (@q_non _ _ _) (@qa_nil _) (by rfl)) (by rfl)) (by rfl)) (by rfl) (by decide) (by rfl) (by rfl)),(And.intro rfl trivial),(And.intro (And.intro rfl (And.intro rfl rfl)) trivial),rfl,by decide +kernel,LamScope.mk rfl rfl rfl (by decide +kernel),fun _ _ _ _ _=>rfl⟩ ?_
    simp only[Ar,Ah,Ap,List.map_cons,List.getElem?_cons_succ,List.getElem?_cons_zero,List.map_nil,Option.some.injEq,nC,Ao,List.replicate,List.length_cons,List.length_nil,Nat.zero_add,List.cons_append,List.nil_append,List.cons.injEq,D.str.injEq,and_true,true_and,Nat.reduceAdd]
    refine⟨d,rfl,go2 (F9 BS ?_)⟩
    exact fun a ha=>⟨Al e ha,szm (by decide),Fg.of ⟨rfl,by decide,J4 (sb.skip ha) hp1,Aa⟩⟩
  ·rintro ys G5 ⟨rfl,_,sb,e⟩ p2 hp2
   refine⟨p2,2,rfl,rfl,[.str "sea"],Aa,by decide,szl (by decide),by decide,fun p3 hp3=>?_⟩
   have sb6:Sub G (Ab (Ab G5 p2 (.lst [.str "sea"])) p3 (.lst (List.replicate (2:Int).toNat [.str "sea"]).flatten)):=((sb4.trans sb).skip hp2).skip hp3
   have e6:Ab (Ab G5 p2 (.lst [.str "sea"])) p3 (.lst (List.replicate (2:Int).toNat [.str "sea"]).flatten) p1=some (.lst [.str "sea",.str "sea"]):=Al (Al e hp2) hp3
   have f6:Ab (Ab G5 p2 (.lst [.str "sea"])) p3 (.lst (List.replicate (2:Int).toNat [.str "sea"]).flatten) p3=some (.lst [.str "sea",.str "sea"]):=Aa
   refine Tw e6 f6 ⟨false,rfl,it1 (by decide) ?_⟩
   generalize Ab (Ab G5 p2 (.lst [.str "sea"])) p3 (.lst (List.replicate (2:Int).toNat [.str "sea"]).flatten)=G6 at *
   have sz2:2≤sizeLine:=szl (by decide)
   have hw:=ok.wide
   have hh:=ok.high
   obtain⟨c0',r0',ec⟩:∃c r,s=c::r:=by cases s with|nil=>simp at hw|cons c r=>exact⟨c,r,rfl⟩
   have hl0:c0'.length=h:=(ok.col c0' (by simp[ec])).1
   have i0:∀G:Gp,Ej G (Bo s) 0=some (Bp c0'):=fun G=>by rw[ec];exact Jz
   refine⟨s.length,congrArg some (List.length_map ..),sz2,Bp c0',i0 _,h,by rw[←hl0];exact congrArg some (List.length_map ..),sz2,sz2,sz2,sz2,fun p4 hp4=>⟨szl (by decide),szl (by decide),fun p5 hp5=>?_⟩⟩
   have sb8:Sub G (Ab (Ab G6 p4 (.lst [.int 0,.int 0])) p5 (.lst [D.tup [D.int s.length,D.int 0],D.tup [D.int 0,D.int h],D.tup [D.int (-1),D.int 0],D.tup [D.int 0,D.bl true],D.tup [D.int 0],D.ref p4,D.non,D.int 0,D.tup [D.int 0,D.int 0,D.int 0]])):=(sb6.skip hp4).skip hp5
   have e8:Ab (Ab G6 p4 (.lst [.int 0,.int 0])) p5 (.lst [D.tup [D.int s.length,D.int 0],D.tup [D.int 0,D.int h],D.tup [D.int (-1),D.int 0],D.tup [D.int 0,D.bl true],D.tup [D.int 0],D.ref p4,D.non,D.int 0,D.tup [D.int 0,D.int 0,D.int 0]]) p5=some (.lst [D.tup [D.int s.length,D.int 0],D.tup [D.int 0,D.int h],D.tup [D.int (-1),D.int 0],D.tup [D.int 0,D.bl true],D.tup [D.int 0],D.ref p4,D.non,D.int 0,D.tup [D.int 0,D.int 0,D.int 0]]):=Aa
   have f8:Ab (Ab G6 p4 (.lst [.int 0,.int 0])) p5 (.lst [D.tup [D.int s.length,D.int 0],D.tup [D.int 0,D.int h],D.tup [D.int (-1),D.int 0],D.tup [D.int 0,D.bl true],D.tup [D.int 0],D.ref p4,D.non,D.int 0,D.tup [D.int 0,D.int 0,D.int 0]]) p4=some (.lst [.int 0,.int 0]):=Al Aa hp5
   generalize Ab (Ab G6 p4 (.lst [.int 0,.int 0])) p5 (.lst [D.tup [D.int s.length,D.int 0],D.tup [D.int 0,D.int h],D.tup [D.int (-1),D.int 0],D.tup [D.int 0,D.bl true],D.tup [D.int 0],D.ref p4,D.non,D.int 0,D.tup [D.int 0,D.int 0,D.int 0]])=G8 at *
   refine⟨_,Av e8,?_⟩
   refine Cj (fun i σ G'=>Sub G8 G'∧∃v4,σ=[some (Bo s),some d,some (.ref p),some (.tup [.int s.length,.int 0]),v4]) ⟨Sub.refl _,_,rfl⟩ (fun i σ G' _ ⟨sb,_⟩=>Av (sb _ _ e8)) ?_ ?_
   ·rintro i x σ G9 hx ⟨sb9,v4,rfl⟩
    have hm:=List.mem_of_getElem? hx
    have kn1:∀{G':Gp},Sub G8 G'→KnT G' 1 x∧B5 s.length h x=false:=fun {G'} sb=>by
     have ki:∀j:Int,Kn G' (.int j):=fun j=>⟨_,rfl⟩
     have kb:∀j:Bool,Kn G' (.bl j):=fun j=>⟨_,rfl⟩
     have kt:∀{ys:List D},(∀y∈ys,Kn G' y)→KnT G' 1 (.tup ys):=fun hy=>⟨⟨_,rfl⟩,fun ds e x hx=>by cases e;exact hy x hx⟩
     simp only[List.mem_cons,List.not_mem_nil,or_false] at hm
     rcases hm with rfl|rfl|rfl|rfl|rfl|rfl|rfl|rfl|rfl
     ·exact⟨kt (by simp[ki]),by simp only[B5,Ae,Bool.and_eq_false_iff,decide_eq_false_iff_not];omega⟩
     ·exact⟨kt (by simp[ki]),by simp only[B5,Ae,Bool.and_eq_false_iff,decide_eq_false_iff_not];omega⟩
     ·exact⟨kt (by simp[ki]),by simp only[B5,Ae,Bool.and_eq_false_iff,decide_eq_false_iff_not];omega⟩
     ·exact⟨kt (by simp[ki,kb]),by simp[B5,Ae]⟩
     ·exact⟨kt (by simp[ki]),rfl⟩
     ·exact⟨⟨⟨"list",by simp only[Ay,sb _ _ f8]⟩,fun ds e=>nomatch e⟩,rfl⟩
     ·exact⟨⟨⟨_,rfl⟩,fun ds e=>nomatch e⟩,rfl⟩
     ·exact⟨⟨⟨_,rfl⟩,fun ds e=>nomatch e⟩,rfl⟩
     ·exact⟨kt (by simp[ki]),rfl⟩
    simp only[A2,Bk,Cb,Bg,nOp,List.set_cons_succ,List.set_cons_zero,nC,dNe,eqS,D.bl.injEq,A9,A8,exists_eq_left']
    refine⟨(sb8.trans sb9) _ _ hT,?_⟩
    simp only[Ar,Ah,Ap,List.map_cons,List.getElem?_cons_zero,List.getElem?_cons_succ,List.map_nil,Option.some.injEq,nC,Ao,exists_eq_left']
    refine⟨_,rfl,_,rfl,Bo s,x,.int 0,rfl,Jg ok (kn1 sb9).1 (kn1 sb9).2 (F9 BC ?_)⟩
    intro a1 ha1
    have sb10:=sb9.skip (o:=.any (excIs CC)) ha1
    generalize Ab G9 a1 (.any (excIs CC))=G10 at *
    refine⟨_,rfl,it1 (by decide) ⟨(sb8.trans sb10) _ _ hT,?_⟩⟩
    simp only[Ar,Ah,Ap,List.map_cons,List.getElem?_cons_zero,List.getElem?_cons_succ,List.map_nil,Option.some.injEq,Ig,nC,D.int.injEq,Ao,exists_eq_left',Int.reduceNeg]
    refine⟨_,rfl,_,rfl,Bo s,x,.int (-1),rfl,Jg ok (kn1 sb10).1 (kn1 sb10).2 (F9 BC ?_)⟩
    intro a2 ha2
    exact⟨_,rfl,it1 (by decide) (Fs.of ⟨sb10.skip ha2,_,rfl⟩)⟩
   ·rintro σ G9 ⟨sb9,v4,rfl⟩
    simp only[Bk,L1,Eo,Ah,nC,nOp,D.int.injEq,Ao,List.length_cons,List.length_nil,Nat.zero_add,Nat.reduceAdd,exists_eq_left',Int.reduceLE,Int.reduceToNat,true_and,Int.reducePow]
    refine⟨by decide,szl (by decide),fun p6 hp6=>?_⟩
    have sp6:Sub G (Ab G9 p6 (.lst [D.int 0,D.int 10,D.bl true,D.non,D.str "1",D.int 10000000000000000000])):=(sb8.trans sb9).skip hp6
    have ep6:Ab G9 p6 (.lst [D.int 0,D.int 10,D.bl true,D.non,D.str "1",D.int 10000000000000000000]) p6=some (.lst [D.int 0,D.int 10,D.bl true,D.non,D.str "1",D.int 10000000000000000000]):=Aa
    generalize Ab G9 p6 (.lst [D.int 0,D.int 10,D.bl true,D.non,D.str "1",D.int 10000000000000000000])=G11 at *
    refine⟨_,Av ep6,?_⟩
    refine Cj (fun i σ G'=>Sub G11 G'∧∃v4,σ=[some (Bo s),some d,some (.ref p),some (.tup [.int s.length,.int 0]),v4]) ⟨Sub.refl _,_,rfl⟩ (fun i σ G' _ ⟨sb,_⟩=>Av (sb _ _ ep6)) ?_ ?_
    ·rintro i x σ G11a hx ⟨sba,v4,rfl⟩
     have hm:=List.mem_of_getElem? hx
     have kn1:Kn G11a x∧Ae 1 9 x=false:=by
      simp only[List.mem_cons,List.not_mem_nil,or_false] at hm
      rcases hm with rfl|rfl|rfl|rfl|rfl|rfl<;>exact⟨⟨_,rfl⟩,by decide⟩
     simp only[A2,Cb,Bg,nOp,List.set_cons_succ,List.set_cons_zero,nC,dNe,eqS,D.bl.injEq,A9,A8,exists_eq_left']
     refine⟨(sp6.trans sba) _ _ hT,?_⟩
     simp only[Ar,Ah,Ap,List.map_cons,List.getElem?_cons_zero,List.getElem?_cons_succ,List.map_nil,Option.some.injEq,Gx,nC,Ao,List.length_cons,List.length_nil,Nat.zero_add,Nat.reduceAdd,sz2,exists_eq_left',true_and]
     refine⟨_,rfl,_,rfl,Bo s,_,x,rfl,Lv ok kn1.1 kn1.2 (F9 BR ?_)⟩
     intro a1 ha1
     exact⟨_,rfl,it1 (by decide) (Fs.of ⟨sba.skip ha1,_,rfl⟩)⟩
    ·rintro σ G11b ⟨sbb,v4,rfl⟩
     simp only[Bk,L1,Eo,Ah,Ig,nC,D.int.injEq,nOp,Ao,List.length_cons,List.length_nil,Nat.zero_add,Nat.reduceAdd,exists_eq_left',Int.reduceLE,Int.reduceToNat,true_and,Int.reducePow,Int.reduceNeg]
     refine⟨by decide,szl (by decide),fun p7 hp7=>?_⟩
     have sp7:Sub G (Ab G11b p7 (.lst [D.int (-1),D.int 401,D.bl true,D.non,D.str "1",D.int 10000000000000000000])):=(sp6.trans sbb).skip hp7
     have ep7:Ab G11b p7 (.lst [D.int (-1),D.int 401,D.bl true,D.non,D.str "1",D.int 10000000000000000000]) p7=some (.lst [D.int (-1),D.int 401,D.bl true,D.non,D.str "1",D.int 10000000000000000000]):=Aa
     generalize Ab G11b p7 (.lst [D.int (-1),D.int 401,D.bl true,D.non,D.str "1",D.int 10000000000000000000])=G12 at *
     refine⟨_,Av ep7,?_⟩
     refine Cj (fun i σ G'=>Sub G12 G'∧∃v4,σ=[some (Bo s),some d,some (.ref p),some (.tup [.int s.length,.int 0]),v4]) ⟨Sub.refl _,_,rfl⟩ (fun i σ G' _ ⟨sb,_⟩=>Av (sb _ _ ep7)) ?_ ?_
     ·rintro i x σ G12a hx ⟨sba,v4,rfl⟩
      have hm:=List.mem_of_getElem? hx
      have kn1:Kn G12a x∧Ae 0 400 x=false:=by
       simp only[List.mem_cons,List.not_mem_nil,or_false] at hm
       rcases hm with rfl|rfl|rfl|rfl|rfl|rfl<;>exact⟨⟨_,rfl⟩,by decide⟩
      simp only[A2,Cb,Bg,nOp,List.set_cons_succ,List.set_cons_zero,nC,dNe,eqS,D.bl.injEq,A9,A8,exists_eq_left']
      refine⟨(sp7.trans sba) _ _ hT,?_⟩
      simp only[Ar,Ah,Ap,List.map_cons,List.getElem?_cons_zero,List.getElem?_cons_succ,List.map_nil,Option.some.injEq,Gx,nC,Ao,List.length_cons,List.length_nil,Nat.zero_add,Nat.reduceAdd,sz2,exists_eq_left',true_and]
      refine⟨_,rfl,_,rfl,Bo s,_,x,rfl,Lv ok kn1.1 kn1.2 (F9 BD ?_)⟩
      intro a1 ha1
      exact⟨_,rfl,it1 (by decide) (Fs.of ⟨sba.skip ha1,_,rfl⟩)⟩
     ·rintro σ G12b ⟨sbb,v4,rfl⟩
      simp only[A9,nC]
      exact Fq.of (k _ (sp7.trans sbb))
end
section
variable{P:Program}{w:World}{K:W.Frag}{mg:Str→Option Value}{base:Heap}{T0:Addr}
abbrev qF:Str:="_law_refused" ++ ".<locals>." ++ "<lambda>"
theorem Ez{G:Gp}{xs:List D}{lo hi:Option Int}{Q:DK}(h:Q (.tup (Aw xs lo hi)) G):D6 G (.tup xs) lo hi Q:=by rw[Lc];exact h
theorem E3{G:Gp}{xs:List D}{k:Int}{Q:DK}(hne:xs≠[])(h2:2≤k∧k<1000)(hz:xs.length≤100)(h:Q (.tup (List.replicate k.toNat xs).flatten) G):Rz (.tup xs) (.int k) G Q:=by
 refine⟨xs,k,rfl,rfl,hne,h2.1,by omega,?_,h⟩
 have:=Nat.mul_le_mul hz (show k.toNat≤1000 by omega)
 rw[sizeLine_eq];omega
theorem Im{G:Gp}{xs ys:List D}{Q:DK}(hz:xs.length+ys.length≤1000)(h:Q (.tup (xs++ys)) G):Ii (.tup xs) (.tup ys) G Q:=by rw[Ol];exact⟨by rw[sizeLine_eq];omega,h⟩
theorem Cm{xs:List D}{n:Nat}{x:D}(h:x∈(List.replicate n xs).flatten):x∈xs:=by
 obtain⟨l,hl,hx⟩:=List.mem_flatten.mp h
 rw[(List.mem_replicate.mp hl).2] at hx;exact hx
theorem Fh{ds:List D}:(Aw ds none (some (-1))).length≤ds.length:=by
 unfold Aw;rw[List.length_take,List.length_drop];omega
theorem Hn{ds:List D}{lo hi:Option Int}:(Aw ds lo hi).length≤ds.length:=by
 unfold Aw;rw[List.length_take,List.length_drop];omega
theorem Oo{a:Addr}{G G':Gp}(hb:Ct (G a))(sb:Sub G G'):Step a G G':=by
 obtain⟨b,c,e⟩:=hb
 refine⟨⟨b,c,sb _ _ e⟩,fun d o h=>?_⟩
 unfold hid at h ⊢
 split at h
 ·cases h
 ·rename_i n;rw[if_neg n];exact sb _ _ h
theorem Ue{CS CC CD:Addr}{lo hi:Int}{G:Gp}{E:DX}{s:List (List Int)}{h x y:Nat}{t:Int}{R:Prop}(ok:SeaOk s h)(hx:x<s.length)(hy:y<h)(ht:lo≤t∧t≤hi)(r:R):Chk CS CC CD lo hi G E (Bo s) (.tup [.int (x:Nat),.int (y:Nat)]) (.int t) R:=by
 obtain⟨e1,e2⟩:=J5 ok
 have g:Gd G 2 (Bo s):=(D7 ok).gd
 refine⟨g.knT,g.sz,fun z=>(by rw[e1] at z;cases z),fun _=>⟨_,rfl,⟨⟨_,rfl⟩,fun ds e u hu=>by cases e;simp at hu;rcases hu with rfl|rfl<;>exact⟨_,rfl⟩⟩,fun z=>?_,fun _=>⟨⟨_,rfl⟩,fun z=>?_,fun _=>r⟩⟩⟩
 ·rw[e2,List.length_map] at z
  simp only[B5,Ae,Bool.and_eq_false_iff,decide_eq_false_iff_not] at z
  omega
 ·simp only[Ae,Bool.and_eq_false_iff,decide_eq_false_iff_not] at z
  omega
theorem Gj{α:Type}:∀{xs:List α},xs≠[]→∃i l,xs=i++[l]
 |[],h=>absurd rfl h
 |[x],_=>⟨[],x,rfl⟩
 |x::y::r,_=>by
  obtain⟨i,l,e⟩:=Gj (xs:=y::r) (by simp)
  exact⟨x::i,l,by rw[e];rfl⟩
theorem Q7{acc:List (List Int)}(h:acc≠[]):atI (acc.map Bp) (-1)=some (Bp (acc.getLastD [])):=by
 obtain⟨init,l,rfl⟩:=Gj h
 rw[List.map_append,List.map_cons,List.map_nil,Px]
 simp
abbrev s_law:Stmt:=top 60
abbrev Vv:List Str:=["_law_script", "_law_k", "_law_box_here", "_law_sea_here", "_law_some", "_law_thing", "_law_kept", "_law_due", "_law_found", "_law_column", "_law_row", "_law_draught"]
abbrev Nm:List Str:=["_law_script"]
theorem sc_law:FnScope Vv Nm (defScope s_law):=⟨rfl,rfl,rfl,by decide +kernel,rfl,by decide +kernel,by decide +kernel⟩
theorem nd_law_1:((["_law_turn"]:List Str)++(["_law_script", "_law_k", "_law_box_here", "_law_sea_here", "_law_some", "_law_thing", "_law_kept", "_law_due", "_law_found", "_law_column", "_law_row", "_law_draught"]:List Str)).Nodup:=by decide +kernel
theorem Ts{f CS CC CR:Addr}{fd:FuncData}(F:Fun K "law" "law" s_law f fd)(T:Nums mg)(Xh:Def P w K mg base CX0 1 "_law_box" p_L_box spBox)(Xi:Def P w K mg base CX0 3 "_law_sea" p_L_sea spLSea)(Wy:Def P w K mg base CX0 3 "_law_odd" p_L_odd spOdd)(Xg:Def P w K mg base CX0 7 "_law_bent" A4 (Cu 3))(Xj:Def P w K mg base CX0 2 "_law_is_sea" p_L_is_sea spLIsSea)(W0:Def P w K mg base CX0 4 "is_sea" p_is_sea spSeaT)(Xk:Def P w K mg base CX0 9 "_law_refused" p_L_refused (spRefused T0 qF))(Ww:Def P w K mg base CX0 2 "_law_take" p_L_take spTake)(Wz:Def P w K mg base (CX1 P w) 6 "is_bank" p_is_bank (spBank CS CC CR)):FnOk P w K mg base CX0 10 f fd Nm (Ag K (Ha [(T0,qF)])):=by
 refine okD F sc_law (fun ds G Q E h=>?_) (fun cdv A outer s H XE ds G Q E hr h=>?_)
 ·obtain⟨ns,rfl,_⟩:=h;rfl
 ·obtain⟨ns,rfl,hl,hT,q⟩:=h
  have hT0:G T0=some (.tbl qF):=hT (T0,qF) (by simp)
  refine⟨_,(@qss_cons _ _ _ _ _ (@qs_forR _ _ _ _ _ _ _ _ _ _ PassesOwn.never rfl (T.blt (by decide)) (@qa_consP _ _ _ _ _ (@q_callB _ _ _ _ _ _ _ _ _ (@Oh _ rfl) (T.blt (by decide)) (by decide +kernel) (@qa_consP _ _ _ _ _ (@q_int _ _ _ _) (@qa_consP _ _ _ _ _ (@q_callB _ _ _ _ _ _ _ _ _ (@Uf _ rfl) (T.blt (by decide)) (by decide +kernel) (@qa_consP _ _ _ _ _ (@q_callB _ _ _ _ _ _ _ _ _ (@c_len _) (T.blt (by decide)) (by decide +kernel) (@qa_consP _ _ _ _ _ (@q_v1 _ _ 0 _ (by exact⟨rfl,rfl,rfl,rfl⟩)) (@qa_nil _) (by rfl)) (by rfl) (by decide) (by decide) (by rfl) (by rfl)) (@qa_consP _ _ _ _ _ (@q_int _ _ _ _) (@qa_nil _) (by rfl)) (by rfl)) (by rfl) (by decide) (by decide) (by rfl) (by rfl)) (@qa_nil _) (by rfl)) (by rfl)) (by rfl) (by decide) (by decide) (by rfl) (by rfl)) (@qa_nil _) (by rfl)) (@qg_name _ _ 1 _ sc_law.nd (by rfl) (by exact .inl rfl) (by exact .inl rfl)) (@qss_cons _ _ _ _ _ (@qs_set _ _ _ _ 2 _ _ sc_law.nd (@q_call _ _ _ _ _ _ _ _ noX _ _ _ Xh (hr.mono (by decide)) (@passN _ _) (@qa_consP _ _ _ _ _ (@q_v1 _ _ 0 _ (by exact⟨rfl,rfl,rfl,rfl⟩)) (@qa_consP _ _ _ _ _ (@q_v1 _ _ 1 _ (by exact⟨rfl,rfl,rfl,rfl⟩)) (@qa_nil _) (by rfl)) (by rfl)) (by rfl) (by decide) (by rfl) (by rfl)) (by rfl) (by exact .inr rfl) (by rfl) (by exact .inl rfl)) (@qss_cons _ _ _ _ _ (@qs_set _ _ _ _ 3 _ _ sc_law.nd (@q_call _ _ _ _ _ _ _ _ noX _ _ _ Xi (hr.mono (by decide)) (@passN _ _) (@qa_consP _ _ _ _ _ (@q_v2 _ _ 2 _ (by exact⟨rfl,rfl,rfl,rfl⟩)) (@qa_consP _ _ _ _ _ (@q_int _ _ _ _) (@qa_consP _ _ _ _ _ (@q_int _ _ _ _) (@qa_nil _) (by rfl)) (by rfl)) (by rfl)) (by rfl) (by decide) (by rfl) (by rfl)) (by rfl) (by exact .inr rfl) (by rfl) (by exact .inl rfl)) (@qss_cons _ _ _ _ _ (@qs_set _ _ _ _ 4 _ _ sc_law.nd (@q_lst _ _ _ _ (@qa_consP _ _ _ _ _ (@q_v2 _ _ 3 _ (by exact⟨rfl,rfl,rfl,rfl⟩)) (@qa_consP _ _ _ _ _ (@A3 _ _ _ _ _ _ _ _ _ (@q_v2 _ _ 3 _ (by exact⟨rfl,rfl,rfl,rfl⟩)) (@A6 _) (@A0 _ _ _ (@q_int _ _ _ _))) (@qa_consP _ _ _ _ _ (@A3 _ _ _ _ _ _ _ _ _ (@q_op _ _ _ _ _ _ _ _ (@Dh _) (@q_v2 _ _ 3 _ (by exact⟨rfl,rfl,rfl,rfl⟩)) (@q_int _ _ _ _)) (@A6 _) (@A0 _ _ _ (@q_int _ _ _ _))) (@qa_consP _ _ _ _ _ (@A3 _ _ _ _ _ _ _ _ _ (@q_op _ _ _ _ _ _ _ _ (@Dh _) (@q_v2 _ _ 3 _ (by exact⟨rfl,rfl,rfl,rfl⟩)) (@q_int _ _ _ _)) (@A6 _) (@A0 _ _ _ (@q_int _ _ _ _))) (@qa_consP _ _ _ _ _ (@q_op _ _ _ _ _ _ _ _ (@o_addD _) (@q_v2 _ _ 3 _ (by exact⟨rfl,rfl,rfl,rfl⟩)) (@q_tup _ _ _ _ _ (@qa_consP _ _ _ _ _ (@q_op _ _ _ _ _ _ _ _ (@Dh _) (@q_tup _ _ _ _ _ (@qa_consP _ _ _ _ _ (@q_int _ _ _ _) (@qa_nil _) (by rfl))) (@q_op _ _ _ _ _ _ _ _ (@o_addD _) (@q_callB _ _ _ _ _ _ _ _ _ (@c_len _) (T.blt (by decide)) (by decide +kernel) (@qa_consP _ _ _ _ _ (@q_ix _ _ _ _ _ _ (@q_v2 _ _ 3 _ (by exact⟨rfl,rfl,rfl,rfl⟩)) (@q_int _ _ _ _) (by intro _ _ ;rfl)) (@qa_nil _) (by rfl)) (by rfl) (by decide) (by decide) (by rfl) (by rfl)) (@q_int _ _ _ _))) (@qa_nil _) (by rfl)))) (@qa_consP _ _ _ _ _ (@q_tup _ _ _ _ _ (@qa_consP _ _ _ _ _ (@q_tup _ _ _ _ _ (@qa_nil _)) (@qa_consP _ _ _ _ _ (@q_tup _ _ _ _ _ (@qa_nil _)) (@qa_nil _) (by rfl)) (by rfl))) (@qa_nil _) (by rfl)) (by rfl)) (by rfl)) (by rfl)) (by rfl)) (by rfl))) (by rfl) (by exact .inl rfl) (by rfl) (by exact .inl rfl)) (@qss_cons _ _ _ _ _ (@Bv _ _ _ _ (@K6 _ _ _ _ _ _ _ (@q_v1 _ _ 4 _ (by exact⟨rfl,rfl,rfl,rfl⟩)) (@q_op _ _ _ _ _ _ _ _ (@Dh _) (@q_tup _ _ _ _ _ (@qa_consP _ _ _ _ _ (@q_op _ _ _ _ _ _ _ _ (@Dh _) (@q_tup _ _ _ _ _ (@qa_consP _ _ _ _ _ (@q_int _ _ _ _) (@qa_nil _) (by rfl))) (@q_int _ _ _ _)) (@qa_nil _) (by rfl))) (@q_int _ _ _ _)) (by rfl) (by rfl) (by rfl) (by rfl) (by rfl)) (by rfl)) (@qss_cons _ _ _ _ _ (@qs_set _ _ _ _ 4 _ _ sc_law.nd (@q_op _ _ _ _ _ _ _ _ (@o_addD _) (@q_v1 _ _ 4 _ (by exact⟨rfl,rfl,rfl,rfl⟩)) (@q_lst _ _ _ _ (@qa_consP _ _ _ _ _ (@q_op _ _ _ _ _ _ _ _ (@Dh _) (@q_tup _ _ _ _ _ (@qa_consP _ _ _ _ _ (@q_op _ _ _ _ _ _ _ _ (@Dh _) (@q_tup _ _ _ _ _ (@qa_consP _ _ _ _ _ (@q_int _ _ _ _) (@qa_nil _) (by rfl))) (@q_int _ _ _ _)) (@qa_nil _) (by rfl))) (@q_int _ _ _ _)) (@qa_consP _ _ _ _ _ (@q_op _ _ _ _ _ _ _ _ (@o_addD _) (@A3 _ _ _ _ _ _ _ _ _ (@q_v2 _ _ 3 _ (by exact⟨rfl,rfl,rfl,rfl⟩)) (@A6 _) (@A0 _ _ _ (@q_neg _ _ _ _ (@q_int _ _ _ _)))) (@q_tup _ _ _ _ _ (@qa_consP _ _ _ _ _ (@q_op _ _ _ _ _ _ _ _ (@o_addD _) (@A3 _ _ _ _ _ _ _ _ _ (@q_ix _ _ _ _ _ _ (@q_v2 _ _ 3 _ (by exact⟨rfl,rfl,rfl,rfl⟩)) (@q_neg _ _ _ _ (@q_int _ _ _ _)) (by intro _ _ ;rfl)) (@A6 _) (@A0 _ _ _ (@q_neg _ _ _ _ (@q_int _ _ _ _)))) (@q_tup _ _ _ _ _ (@qa_consP _ _ _ _ _ (@q_int _ _ _ _) (@qa_nil _) (by rfl)))) (@qa_nil _) (by rfl)))) (@qa_consP _ _ _ _ _ (@q_op _ _ _ _ _ _ _ _ (@o_addD _) (@A3 _ _ _ _ _ _ _ _ _ (@q_v2 _ _ 3 _ (by exact⟨rfl,rfl,rfl,rfl⟩)) (@A6 _) (@A0 _ _ _ (@q_neg _ _ _ _ (@q_int _ _ _ _)))) (@q_tup _ _ _ _ _ (@qa_consP _ _ _ _ _ (@q_op _ _ _ _ _ _ _ _ (@o_addD _) (@q_tup _ _ _ _ _ (@qa_consP _ _ _ _ _ (@q_bl _ _ _ _) (@qa_nil _) (by rfl))) (@A3 _ _ _ _ _ _ _ _ _ (@q_ix _ _ _ _ _ _ (@q_v2 _ _ 3 _ (by exact⟨rfl,rfl,rfl,rfl⟩)) (@q_neg _ _ _ _ (@q_int _ _ _ _)) (by intro _ _ ;rfl)) (@A0 _ _ _ (@q_int _ _ _ _)) (@A6 _))) (@qa_nil _) (by rfl)))) (@qa_nil _) (by rfl)) (by rfl)) (by rfl)))) (by rfl) (by exact .inl rfl) (by rfl) (by exact .inl rfl)) (@qss_cons _ _ _ _ _ (@qs_for _ _ _ _ _ _ _ _ PassesOwn.never rfl (@q_op _ _ _ _ _ _ _ _ (@o_addD _) (@q_op _ _ _ _ _ _ _ _ (@o_addD _) (@q_v1 _ _ 4 _ (by exact⟨rfl,rfl,rfl,rfl⟩)) (@q_lst _ _ _ _ (@qa_consP _ _ _ _ _ (@q_call _ _ _ _ _ _ _ _ noX _ _ _ Wy (hr.mono (by decide)) (@passN _ _) (@qa_consP _ _ _ _ _ (@q_v2 _ _ 2 _ (by exact⟨rfl,rfl,rfl,rfl⟩)) (@qa_nil _) (by rfl)) (by rfl) (by decide) (by rfl) (by rfl)) (@qa_nil _) (by rfl)))) (@Ov _ _ _ _ _ _ _ _ _ ["_law_turn"] ["_law_script", "_law_k", "_law_box_here", "_law_sea_here", "_law_some", "_law_thing", "_law_kept", "_law_due", "_law_found", "_law_column", "_law_row", "_law_draught"] _ _ _ _ rfl (@compOz _ _ _ _ (by rfl) (by rfl) (by rfl) (by rfl) (by rfl)) (T.blt (by decide)) (@qa_consP _ _ _ _ _ (@q_int _ _ _ _) (@qa_nil _) (by rfl)) (fun _ _ _=>(@qg_name _ _ 0 _ nd_law_1 (by rfl) (by exact .inl rfl) (by exact .inr rfl))) (fun _ _ _=>(@qf_nil _)) (fun _ _ _=>(@q_call _ _ _ _ _ _ _ _ noX _ _ _ Xg (hr.mono (by decide)) (@passN _ _) (@qa_consP _ _ _ _ _ (@q_v2 _ _ 3 _ (by exact⟨rfl,rfl,rfl,rfl⟩)) (@qa_consP _ _ _ _ _ (@q_v2 _ _ 4 _ (by exact⟨rfl,rfl,rfl,rfl⟩)) (@qa_consP _ _ _ _ _ (@q_int _ _ _ _) (@qa_nil _) (by rfl)) (by rfl)) (by rfl)) (by rfl) (by decide) (by rfl) (by rfl))) (by rfl) (by rfl) (by intro _ ;rfl))) (@qg_name _ _ 5 _ sc_law.nd (by rfl) (by exact .inl rfl) (by exact .inl rfl)) (@qss_cons _ _ _ _ _ (@qs_par _ _ _ _ 6 7 _ _ _ _ _ _ _ _ _ rfl sc_law.nd (@qa_consP _ _ _ _ _ (@q_callB _ _ _ _ _ _ _ _ _ (@c_reprK _ _ hr) (T.blt (by decide)) (by decide +kernel) (@qa_consP _ _ _ _ _ (@q_v1 _ _ 5 _ (by exact⟨rfl,rfl,rfl,rfl⟩)) (@qa_nil _) (by rfl)) (by rfl) (by decide) (by decide) (by rfl) (by rfl)) (@qa_consP _ _ _ _ _ (@q_call _ _ _ _ _ _ _ _ noX _ _ _ Xj (hr.mono (by decide)) (@passN _ _) (@qa_consP _ _ _ _ _ (@q_v1 _ _ 5 _ (by exact⟨rfl,rfl,rfl,rfl⟩)) (@qa_nil _) (by rfl)) (by rfl) (by decide) (by rfl) (by rfl)) (@qa_nil _) (by rfl)) (by rfl)) (by rfl) (by rfl) (by decide) (by rfl) (by rfl) (by rfl) (by rfl)) (@qss_cons _ _ _ _ _ (@qs_set _ _ _ _ 8 _ _ sc_law.nd (@q_call _ _ _ _ _ _ _ _ noX _ _ _ W0 (hr.mono (by decide)) (@passN _ _) (@qa_consP _ _ _ _ _ (@q_v1 _ _ 5 _ (by exact⟨rfl,rfl,rfl,rfl⟩)) (@qa_nil _) (by rfl)) (by rfl) (by decide) (by rfl) (by rfl)) (by rfl) (by exact .inl rfl) (by rfl) (by exact .inl rfl)) (@qss_cons _ _ _ _ _ (@qs_if _ _ _ _ _ _ _ _ (@qt_of _ _ _ (@qw_or _ _ _ _ _ _ _ (@qt_not _ _ _ _ (@qt_tru _ _ _ (@q_callB _ _ _ _ _ _ _ _ _ (@c_isinst _) (T.blt (by decide)) (by decide +kernel) (@qa_consP _ _ _ _ _ (@q_v1 _ _ 8 _ (by exact⟨rfl,rfl,rfl,rfl⟩)) (@qa_consP _ _ _ _ _ (@q_globty _ _ _ "bool" (T.blt (by decide)) (by decide +kernel) (by rfl) (by decide) (by decide)) (@qa_nil _) (by rfl)) (by rfl)) (by rfl) (by decide) (by decide) (by rfl) (by rfl)) (by intro _ ;rfl))) (@qw_or _ _ _ _ _ _ _ (@qt_cmp _ _ _ _ _ _ _ _ (@o_ne _) (@q_v1 _ _ 8 _ (by exact⟨rfl,rfl,rfl,rfl⟩)) (@q_v1 _ _ 7 _ (by exact⟨rfl,rfl,rfl,rfl⟩)) (nomark _)) (@qw_or1 _ _ _ _ (@qt_cmp _ _ _ _ _ _ _ _ (@o_ne _) (@q_callB _ _ _ _ _ _ _ _ _ (@c_reprK _ _ hr) (T.blt (by decide)) (by decide +kernel) (@qa_consP _ _ _ _ _ (@q_v1 _ _ 5 _ (by exact⟨rfl,rfl,rfl,rfl⟩)) (@qa_nil _) (by rfl)) (by rfl) (by decide) (by decide) (by rfl) (by rfl)) (@q_v1 _ _ 6 _ (by exact⟨rfl,rfl,rfl,rfl⟩)) (nomark _)))))) (@qss_one _ _ _ (@qs_ret _ _ _ _ (@q_bl _ _ _ _))) (@qss_nil _)) (@qss_one _ _ _ (@qs_if _ _ _ _ _ _ _ _ (@qt_of _ _ _ (@qw_and _ _ _ _ _ _ _ (@qt_not _ _ _ _ (@qt_tru _ _ _ (@q_v1 _ _ 7 _ (by exact⟨rfl,rfl,rfl,rfl⟩)) (by intro _ ;rfl))) (@qw_and1 _ _ _ _ (@qt_not _ _ _ _ (@qt_tru _ _ _ (@q_call _ _ _ _ _ _ _ _ noX _ _ _ Xk (hr.mono (by decide)) (@passN _ _) (@qa_consP _ _ _ _ _ (@q_v2 _ _ 3 _ (by exact⟨rfl,rfl,rfl,rfl⟩)) (@qa_consP _ _ _ _ _ (@q_v1 _ _ 5 _ (by exact⟨rfl,rfl,rfl,rfl⟩)) (@qa_nil _) (by rfl)) (by rfl)) (by rfl) (by decide) (by rfl) (by rfl)) (by intro _ ;rfl)))))) (@qss_one _ _ _ (@qs_ret _ _ _ _ (@q_bl _ _ _ _))) (@qss_nil _)))))) (by intro _ ;rfl)) (@qss_one _ _ _ (@qs_forR _ _ _ _ _ _ _ _ _ _ PassesOwn.never rfl (T.blt (by decide)) (@qa_consP _ _ _ _ _ (@q_callB _ _ _ _ _ _ _ _ _ (@c_len _) (T.blt (by decide)) (by decide +kernel) (@qa_consP _ _ _ _ _ (@q_v2 _ _ 3 _ (by exact⟨rfl,rfl,rfl,rfl⟩)) (@qa_nil _) (by rfl)) (by rfl) (by decide) (by decide) (by rfl) (by rfl)) (@qa_nil _) (by rfl)) (@qg_name _ _ 9 _ sc_law.nd (by rfl) (by exact .inl rfl) (by exact .inl rfl)) (@qss_cons _ _ _ _ _ (@qs_par _ _ _ _ 10 11 _ _ _ _ _ _ _ _ _ rfl sc_law.nd (@qa_consP _ _ _ _ _ (@q_call _ _ _ _ _ _ _ _ noX _ _ _ Ww (hr.mono (by decide)) (@passN _ _) (@qa_consP _ _ _ _ _ (@q_v2 _ _ 2 _ (by exact⟨rfl,rfl,rfl,rfl⟩)) (@qa_consP _ _ _ _ _ (@q_callB _ _ _ _ _ _ _ _ _ (@c_len _) (T.blt (by decide)) (by decide +kernel) (@qa_consP _ _ _ _ _ (@q_ix _ _ _ _ _ _ (@q_v2 _ _ 3 _ (by exact⟨rfl,rfl,rfl,rfl⟩)) (@q_int _ _ _ _) (by intro _ _ ;rfl)) (@qa_nil _) (by rfl)) (by rfl) (by decide) (by decide) (by rfl) (by rfl)) (@qa_nil _) (by rfl)) (by rfl)) (by rfl) (by decide) (by rfl) (by rfl)) (@qa_consP _ _ _ _ _ (@q_op _ _ _ _ _ _ _ _ (@o_addD _) (@q_int _ _ _ _) (@q_call _ _ _ _ _ _ _ _ noX _ _ _ Ww (hr.mono (by decide)) (@passN _ _) (@qa_consP _ _ _ _ _ (@q_v2 _ _ 2 _ (by exact⟨rfl,rfl,rfl,rfl⟩)) (@qa_consP _ _ _ _ _ (@q_int _ _ _ _) (@qa_nil _) (by rfl)) (by rfl)) (by rfl) (by decide) (by rfl) (by rfl))) (@qa_nil _) (by rfl)) (by rfl)) (by rfl) (by rfl) (by decide) (by rfl) (by rfl) (by rfl) (by rfl)) (@qss_cons _ _ _ _ _ (@qs_set _ _ _ _ 8 _ _ sc_law.nd (@q_call _ _ _ _ _ _ _ _ noX _ _ _ Wz (hr.mono (by decide)) passF (@qa_consP _ _ _ _ _ (@q_v2 _ _ 3 _ (by exact⟨rfl,rfl,rfl,rfl⟩)) (@qa_consP _ _ _ _ _ (@q_tup _ _ _ _ _ (@qa_consP _ _ _ _ _ (@q_v1 _ _ 9 _ (by exact⟨rfl,rfl,rfl,rfl⟩)) (@qa_consP _ _ _ _ _ (@q_v1 _ _ 10 _ (by exact⟨rfl,rfl,rfl,rfl⟩)) (@qa_nil _) (by rfl)) (by rfl))) (@qa_consP _ _ _ _ _ (@q_v1 _ _ 11 _ (by exact⟨rfl,rfl,rfl,rfl⟩)) (@qa_nil _) (by rfl)) (by rfl)) (by rfl)) (by rfl) (by decide) (by rfl) (by rfl)) (by rfl) (by exact .inl rfl) (by rfl) (by exact .inl rfl)) (@qss_one _ _ _ (@qs_if _ _ _ _ _ _ _ _ (@qt_of _ _ _ (@qw_or _ _ _ _ _ _ _ (@qt_not _ _ _ _ (@qt_tru _ _ _ (@q_callB _ _ _ _ _ _ _ _ _ (@c_isinst _) (T.blt (by decide)) (by decide +kernel) (@qa_consP _ _ _ _ _ (@q_v1 _ _ 8 _ (by exact⟨rfl,rfl,rfl,rfl⟩)) (@qa_consP _ _ _ _ _ (@q_globty _ _ _ "bool" (T.blt (by decide)) (by decide +kernel) (by rfl) (by decide) (by decide)) (@qa_nil _) (by rfl)) (by rfl)) (by rfl) (by decide) (by decide) (by rfl) (by rfl)) (by intro _ ;rfl))) (@qw_or1 _ _ _ _ (@qt_cmp _ _ _ _ _ _ _ _ (@o_ne _) (@q_v1 _ _ 8 _ (by exact⟨rfl,rfl,rfl,rfl⟩)) (@Nk _ _ _ _ _ _ _ _ (@P6 _) (@q_ix _ _ _ _ _ _ (@q_ix _ _ _ _ _ _ (@q_v2 _ _ 3 _ (by exact⟨rfl,rfl,rfl,rfl⟩)) (@q_v1 _ _ 9 _ (by exact⟨rfl,rfl,rfl,rfl⟩)) (by intro _ _ ;rfl)) (@q_v1 _ _ 10 _ (by exact⟨rfl,rfl,rfl,rfl⟩)) (by intro _ _ ;rfl)) (@q_v1 _ _ 11 _ (by exact⟨rfl,rfl,rfl,rfl⟩)) (nomark _)) (nomark _))))) (@qss_one _ _ _ (@qs_ret _ _ _ _ (@q_bl _ _ _ _))) (@qss_nil _))))) (by rfl) (by rfl) (by intro _ ;rfl))))))))) (by rfl) (by rfl) (by intro _ ;rfl)) (@qss_one _ _ _ (@qs_ret _ _ _ _ (@q_bl _ _ _ _)))),?_⟩
  simp only[Bk,E6,Ah,nCB,nC,Ap,Ak,List.map_cons,List.map_nil,List.length_cons,List.length_nil,Nat.zero_add,Nat.reduceAdd,Nat.reduceSub,List.replicate,List.cons_append,List.nil_append,List.getElem?_cons_zero,Option.some.injEq,Ao,List.cons.injEq,and_true,D.int.injEq,Int.reducePow,Int.reduceNeg,and_assoc,exists_eq_left',exists_and_left,Iz]
  have hb:∀n:Int,0≤n→1≤(if (if 4<n then 4 else n)>1 then (if 4<n then 4 else n) else 1)∧(if (if 4<n then 4 else n)>1 then (if 4<n then 4 else n) else 1)≤4:=fun n hn=>by
   by_cases h:4<n
   ·rw[if_pos h];decide
   ·rw[if_neg h]
    by_cases h2:n>1
    ·rw[if_pos h2];omega
    ·rw[if_neg h2];decide
  obtain⟨b1,b2⟩:=hb (ns.length:Nat) (by omega)
  generalize (if (if (4:Int)<(ns.length:Nat) then (4:Int) else (ns.length:Nat))>1 then (if (4:Int)<(ns.length:Nat) then (4:Int) else (ns.length:Nat)) else 1)=m at *
  refine⟨by omega,by omega,?_⟩
  refine Bu (fun i σ G'=>∃v1 v2 v3 v4 v5 v6 v7 v8 v9 v10 v11,σ=[some (.lint ns),v1,v2,v3,v4,v5,v6,v7,v8,v9,v10,v11]∧G' T0=some (.tbl qF)) ⟨none,none,none,none,none,none,none,none,none,none,none,rfl,hT0⟩ ?_ ?_
  ·rintro i σ G1 hi ⟨v1,v2,v3,v4,v5,v6,v7,v8,v9,v10,v11,rfl,hT1⟩
   have sz0:0≤sizeLine:=Nat.zero_le _
   have sz1:1≤sizeLine:=szl (by decide)
   have sz2:2≤sizeLine:=szl (by decide)
   simp only[A2,Bk,Cr,Ar,Ah,Ap,List.set_cons_succ,List.set_cons_zero,List.getElem?_cons_zero,Option.some.injEq,List.getElem?_cons_succ,Ao,nC,Eo,nSl,Eu,K8,D.int.injEq,nOp,Gx,List.length_cons,List.length_nil,Nat.zero_add,sz1,nCB,dIx,List.cons.injEq,and_true,sz0,Nat.reduceAdd,sz2,E7,Nc,Ig,L1,Li,Int.reducePow,Int.reduceNeg,and_assoc,exists_eq_left',Int.reduceLE,Int.reduceLT,Int.reduceToNat,true_and,D.ref.injEq,Aa,GO.lst.injEq,By]
   refine⟨ns,(i:Nat),rfl,⟨by omega,by omega⟩,fun p hp b c=>?_⟩
   have ib:Ct (Ab G1 p (.lst [.int b,.int c]) p):=⟨b,c,Aa⟩
   have hT2:=Al (u:=.lst [.int b,.int c]) hT1 hp
   have npT:p≠T0:=(gne hT1 hp).symm
   generalize Ab G1 p (.lst [.int b,.int c])=G2 at *
   refine⟨p,16,9,rfl,ib,by decide,fun s h G3 ok s3=>?_⟩
   have hT3:=s3.get npT hT2
   have hw:=ok.wide
   have hh:=ok.high
   obtain⟨c0,r0,ec⟩:∃c r,s=c::r:=by cases s with|nil=>simp at hw|cons c r=>exact⟨c,r,rfl⟩
   have hl0:c0.length=h:=(ok.col c0 (by simp[ec])).1
   have sne:s≠[]:=by rw[ec];simp
   obtain⟨lst,hlst,hlm⟩:∃c,atI (s.map Bp) (-1)=some (Bp c)∧c∈s:=⟨_,Q7 sne,by rw[List.getLastD_eq_getLast?,List.getLast?_eq_some_getLast sne];exact List.getLast_mem sne⟩
   have gc:∀{G:Gp} {c:D},c∈s.map Bp→Gd G 1 c:=fun {G c} hc=>by
    have:=D7 ok
    cases this with
    |tup _ r=>exact(r c hc).gd
   have at0:atI (s.map Bp) 0=some (Bp c0):=by rw[ec];exact Jz
   have hlen:(s.map Bp).length≤16:=by rw[List.length_map];omega
   have hcne:s.map Bp≠[]:=by rw[ec];simp
   have hll:=(ok.col lst hlm).1
   have gl:∀{G:Gp} {y:D},y∈lst.map D.int→Gd G 0 y:=fun {G y} hy=>by
    obtain⟨i,hi,rfl⟩:=List.mem_map.mp hy
    have:=(ok.col lst hlm).2 i hi
    exact .int i (by omega)
   have sea3:∀{G:Gp},Gd G 3 (.tup (s.map Bp)):=fun {G}=>((D7 ok).gd (G:=G)).up (by decide)
   generalize hcs:s.map Bp=cs at *
   have gt:∀{G:Gp} {ys:List D},ys.length≤20→(∀y∈ys,y∈cs)→Gd G 3 (.tup ys):=fun hy hm=>.tup hy fun y hym=>(gc (hm y hym)).up (by decide)
   show D6 G3 (Bo s) none (some 1) _
   rw[show Bo s=.tup cs from congrArg D.tup hcs]
   refine Ez (E3 hcne (by decide) (by omega) (Ez (E3 hcne (by decide) (by omega) (Ez ⟨Bp c0,at0,h,by rw[←hl0];exact congrArg some (List.length_map ..),E3 (by simp) (by omega) (by simp) (Im (by simp;omega) ⟨szl (by decide),fun p1 hp1=>⟨⟨_,rfl⟩,?_⟩⟩)⟩))))
   have gLA:∀x∈[D.tup cs,D.tup (Aw cs none (some 1)),D.tup (Aw (List.replicate (Int.toNat 9) cs).flatten none (some 16)),D.tup (Aw (List.replicate (Int.toNat 9) cs).flatten none (some 17)),D.tup (cs++[D.tup (List.replicate ((h:Int)+1).toNat [D.int 1]).flatten]),D.tup [D.tup [],D.tup []]],∀G:Gp,Gd G 3 x:=fun x hx G=>by
    simp only[List.mem_cons,List.not_mem_nil,or_false] at hx
    rcases hx with rfl|rfl|rfl|rfl|rfl|rfl
    ·exact sea3
    ·exact gt (Nat.le_trans Hn (by omega)) fun y hy=>Bd hy
    ·exact gt (Nat.le_trans (Kh (by decide)) (by decide)) fun y hy=>Cm (Bd hy)
    ·exact gt (Nat.le_trans (Kh (by decide)) (by decide)) fun y hy=>Cm (Bd hy)
    ·refine .tup (by simp;omega) fun y hy=>?_
     rcases List.mem_append.mp hy with z|z
     ·exact(gc z).up (by decide)
     ·rw[List.mem_singleton.mp z]
      exact .tup (by simp;omega) fun u hu=>by rw[List.mem_singleton.mp (Cm hu)];exact .int 1 (by decide)
    ·exact .tup (by simp) fun y hy=>by simp at hy;subst hy;exact .tup (by simp) fun u hu=>nomatch hu
   have lLA:[D.tup cs,D.tup (Aw cs none (some 1)),D.tup (Aw (List.replicate (Int.toNat 9) cs).flatten none (some 16)),D.tup (Aw (List.replicate (Int.toNat 9) cs).flatten none (some 17)),D.tup (cs++[D.tup (List.replicate ((h:Int)+1).toNat [D.int 1]).flatten]),D.tup [D.tup [],D.tup []]].length=6:=rfl
   generalize [D.tup cs,D.tup (Aw cs none (some 1)),D.tup (Aw (List.replicate (Int.toNat 9) cs).flatten none (some 16)),D.tup (Aw (List.replicate (Int.toNat 9) cs).flatten none (some 17)),D.tup (cs++[D.tup (List.replicate ((h:Int)+1).toNat [D.int 1]).flatten]),D.tup [D.tup [],D.tup []]]=LA at *
   refine E3 (by simp) (by decide) (by simp) (E3 (by simp) (by decide) (by simp) ⟨_,Aa,szm (by omega),?_⟩)
   have gX1:∀G:Gp,Gd G 3 (D.tup (List.replicate (Int.toNat 2) [D.tup (List.replicate (Int.toNat 10) [D.int 9]).flatten]).flatten):=fun G=>.tup (by simp) fun y hy=>by
    rw[List.mem_singleton.mp (Cm hy)]
    exact .tup (by simp) fun u hu=>by rw[List.mem_singleton.mp (Cm hu)];exact .int 9 (by decide)
   generalize D.tup (List.replicate (Int.toNat 2) [D.tup (List.replicate (Int.toNat 10) [D.int 9]).flatten]).flatten=X1 at *
   have nap1:=Step.ne s3.box hp1
   have s4:Step p G3 (Ab (Ab G3 p1 (.lst LA)) p1 (.lst (LA++[X1]))):=((Step.refl s3.box).lay hp1).write hp1 nap1
   have e4:Ab (Ab G3 p1 (.lst LA)) p1 (.lst (LA++[X1])) p1=some (.lst (LA++[X1])):=Aa
   generalize Ab (Ab G3 p1 (.lst LA)) p1 (.lst (LA++[X1]))=G4 at *
   refine E3 (by simp) (by decide) (by simp) (E3 (by simp) (by decide) (by simp) (Ez ⟨Bp lst,hlst,Ez (Im (by have:=Fh (ds:=lst.map D.int);simp at this ⊢;omega) (Im (by have:=Fh (ds:=cs);simp;omega) (Ez ⟨Bp lst,hlst,Ez (Im (by have:=Hn (ds:=lst.map D.int) (lo:=some 1) (hi:=none);simp at this ⊢;omega) (Im (by have:=Fh (ds:=cs);simp;omega) ⟨szl (by decide),fun p2 hp2=>?_⟩))⟩)))⟩))
   have gX2:∀x∈[D.tup (List.replicate (Int.toNat 2) [D.tup (List.replicate (Int.toNat 9) [D.int 0]).flatten]).flatten,D.tup (Aw cs none (some (-1))++[D.tup (Aw (List.map D.int lst) none (some (-1))++[D.int 10])]),D.tup (Aw cs none (some (-1))++[D.tup ([D.bl true]++Aw (List.map D.int lst) (some 1) none)])],∀G:Gp,Gd G 3 x:=fun x hx G=>by
    have l1:=Fh (ds:=cs)
    have l2:=Fh (ds:=lst.map D.int)
    have l3:=Hn (ds:=lst.map D.int) (lo:=some 1) (hi:=none)
    rw[List.length_map] at l2 l3
    simp only[List.mem_cons,List.not_mem_nil,or_false] at hx
    rcases hx with rfl|rfl|rfl
    ·refine .tup (by simp) fun y hy=>?_
     rw[List.mem_singleton.mp (Cm hy)]
     exact .tup (by simp) fun u hu=>by rw[List.mem_singleton.mp (Cm hu)];exact .int 0 (by decide)
    ·refine .tup (by simp;omega) fun y hy=>?_
     rcases List.mem_append.mp hy with z|z
     ·exact(gc (Bd z)).up (by decide)
     ·rw[List.mem_singleton.mp z]
      refine .tup (by simp;omega) fun u hu=>?_
      rcases List.mem_append.mp hu with z|z
      ·exact(gl (Bd z)).up (by decide)
      ·rw[List.mem_singleton.mp z];exact .int 10 (by decide)
    ·refine .tup (by simp;omega) fun y hy=>?_
     rcases List.mem_append.mp hy with z|z
     ·exact(gc (Bd z)).up (by decide)
     ·rw[List.mem_singleton.mp z]
      refine .tup (by simp;omega) fun u hu=>?_
      rcases List.mem_append.mp hu with z|z
      ·rw[List.mem_singleton.mp z];exact .bl true
      ·exact(gl (Bd z)).up (by decide)
   have lX2:[D.tup (List.replicate (Int.toNat 2) [D.tup (List.replicate (Int.toNat 9) [D.int 0]).flatten]).flatten,D.tup (Aw cs none (some (-1))++[D.tup (Aw (List.map D.int lst) none (some (-1))++[D.int 10])]),D.tup (Aw cs none (some (-1))++[D.tup ([D.bl true]++Aw (List.map D.int lst) (some 1) none)])].length=3:=rfl
   generalize [D.tup (List.replicate (Int.toNat 2) [D.tup (List.replicate (Int.toNat 9) [D.int 0]).flatten]).flatten,D.tup (Aw cs none (some (-1))++[D.tup (Aw (List.map D.int lst) none (some (-1))++[D.int 10])]),D.tup (Aw cs none (some (-1))++[D.tup ([D.bl true]++Aw (List.map D.int lst) (some 1) none)])]=LB at *
   have s5:=s4.lay (o:=.lst LB) hp2
   refine Ek (zs:=LA++[X1]++LB) (Al e4 hp2) Aa rfl (by simp only[List.length_append];exact szl (by simp;omega)) fun p3 hp3=>?_
   have gLC:∀x∈LA++[X1]++LB,∀G:Gp,Gd G 3 x:=fun x hx G=>by
    rcases List.mem_append.mp hx with z|z
    ·rcases List.mem_append.mp z with z|z
     ·exact gLA x z G
     ·rw[List.mem_singleton.mp z];exact gX1 G
    ·exact gX2 x z G
   have lLC:(LA++[X1]++LB).length=10:=by simp only[List.length_append,lLA,lX2];rfl
   generalize LA++[X1]++LB=LC at *
   have n3:=Step.ne s5.box hp3
   have s6:=s5.lay (o:=.lst LC) hp3
   have e6:Ab (Ab G4 p2 (.lst LB)) p3 (.lst LC) p3=some (.lst LC):=Aa
   generalize Ab (Ab G4 p2 (.lst LB)) p3 (.lst LC)=G6 at *
   refine Ke s6 fun d G7 s7 t7 gd=>fun p4 hp4=>?_
   have e7:=t7.get n3 e6
   have s8:=s7.lay (o:=.lst [d]) hp4
   refine Ek (zs:=LC++[d]) (Al e7 hp4) Aa rfl (by rw[lLC];exact szl (by simp)) fun p5 hp5=>?_
   have n5:=Step.ne s8.box hp5
   have s9:=s8.lay (o:=.lst (LC++[d])) hp5
   have gd9:Gd (hid (Ab (Ab G7 p4 (.lst [d])) p5 (.lst (LC++[d]))) p) 3 d:=((gd.sub (N4 s6.box)).sub (((Step.refl s7.box).lay hp4).lay hp5).sub).up (by decide)
   have e9:Ab (Ab G7 p4 (.lst [d])) p5 (.lst (LC++[d])) p5=some (.lst (LC++[d])):=Aa
   generalize Ab (Ab G7 p4 (.lst [d])) p5 (.lst (LC++[d]))=G9 at *
   refine fun p6 hp6=>?_
   have n6:=Step.ne s9.box hp6
   have n56:p5≠p6:=gne e9 hp6
   have hp6':=s9.back hp6
   refine⟨fun j ys G'=>Step p G9 G'∧G' p6=some (.lst ys)∧(∀y∈ys,Gd (hid (nw G9 G') p6) 3 y)∧ys.length≤j,⟨(Step.refl s9.box).lay hp6,Aa,(fun y hy=>nomatch hy),Nat.zero_le _⟩,fun j ys G' _ ⟨_,e,_⟩=>⟨trivial,e⟩,?_,?_⟩
   ·rintro j x ys G' hx ⟨t,e,g,l⟩
    have hj:j<8:=by have:=(List.getElem?_eq_some_iff.mp hx).1;rw[Bb] at this;exact this
    simp only[A2,List.replicate,List.cons_append,List.nil_append,List.set_cons_zero,E5,Ar,Ah,Ap,List.getElem?_cons_succ,List.getElem?_cons_zero,Option.some.injEq,nC,Ao,exists_eq_left',if_true]
    refine⟨⟨[some x],rfl,rfl⟩,p,.tup cs,2,rfl,by decide,by decide,t.box,by rw[←hcs];exact D7 ok,fun d' G'' t2 gd'=>?_⟩
    have e2:=t2.get n6 e
    refine⟨e2,szm (by omega),Fg.of ⟨(t.trans t2).write hp6 n6,Aa,fun y hy=>?_,by simp;omega⟩⟩
    have up:Sub (hid (nw G9 G'') p6) (hid (nw G9 (Ab G'' p6 (.lst (ys++[d'])))) p6):=fun b o eb=>by
     unfold hid at eb ⊢
     split at eb
     ·cases eb
     ·rename_i nb
      rw[if_neg nb]
      obtain⟨h1,h2⟩:=Ik eb
      exact Ck h1 (by rw[As nb];exact h2)
    rcases List.mem_append.mp hy with z|z
    ·refine((g y z).sub fun b o eb=>?_).sub up
     unfold hid at eb ⊢
     split at eb
     ·cases eb
     ·rename_i nb
      rw[if_neg nb]
      obtain⟨h1,h2⟩:=Ik eb
      exact Ck h1 (t2.get (Step.ne s9.box h1) h2)
    ·rw[List.mem_singleton.mp z]
     refine(gd'.sub fun b o eb=>?_).sub up
     obtain⟨h1,h2⟩:=Ik eb
     unfold hid
     rw[if_neg (gne e h1).symm]
     exact Ck (t.back h1) h2
   ·rintro ys G10 ⟨t10,e10,g10,l10⟩
    have l8:ys.length≤8:=by rw[Bb] at l10;exact l10
    refine Ek (zs:=LC++[d]++ys) (t10.get n5 e9) e10 rfl (by simp only[List.length_append];exact szl (by simp;omega)) fun p7 hp7=>?_
    have n7:=Step.ne t10.box hp7
    have t11:=t10.lay (o:=.lst (LC++[d]++ys)) hp7
    have e11:Ab G10 p7 (.lst (LC++[d]++ys)) p7=some (.lst (LC++[d]++ys)):=Aa
    have up:Sub (hid G10 p) (hid (Ab G10 p7 (.lst (LC++[d]++ys))) p):=((Step.refl t10.box).lay hp7).sub
    have gE:∀x∈LC++[d]++ys,Gd (hid (Ab G10 p7 (.lst (LC++[d]++ys))) p) 3 x:=fun x hx=>by
     rcases List.mem_append.mp hx with z|z
     ·rcases List.mem_append.mp z with z|z
      ·exact gLC x z _
      ·rw[List.mem_singleton.mp z];exact(gd9.sub t10.sub).sub up
     ·exact((g10 x z).sub fun b o eb=>N4 s9.box b o (Lp b o eb)).sub up
    have hT11:=(s3.trans (s9.trans t11)).get npT hT2
    have lE:(LC++[d]++ys).length≤19:=by simp only[List.length_append,lLC];simp;omega
    generalize Ab G10 p7 (.lst (LC++[d]++ys))=G11 at *
    generalize LC++[d]++ys=LE at *
    refine⟨_,Av e11,?_⟩
    have cse:D.tup cs=Bo s:=congrArg D.tup hcs.symm
    refine Cj (fun i' σ G'=>Step p G11 G'∧∃v5 v6 v7 v8,σ=[some (.lint ns),some (.int (i:Nat)),some (.ref p),some (.tup cs),some (.ref p3),v5,v6,v7,v8,v9,v10,v11]) ⟨Step.refl t11.box,_,_,_,_,rfl⟩ (fun i' σ G' _ ⟨t,_⟩=>Av (t.get n7 e11)) ?_ ?_
    ·rintro i' x σ G12 hx ⟨t12,w5,w6,w7,w8,rfl⟩
     have gx:Gd G12 3 x:=((gE x (List.mem_of_getElem? hx)).sub t12.sub).out
     have hT12:=t12.get npT hT11
     obtain⟨pd,sh⟩:=gx.sh
     have rpr:RepK G12 x pd∧pd.showable=true∧pd.shown.length≤sizeLine∧pd.depth≤99:=⟨sh.rep,sh.ok,U7 (Nat.le_trans sh.len (by decide)),Nat.le_trans sh.dep (by decide)⟩
     obtain⟨r1,r2,r3,r4⟩:=rpr
     simp only[A2,Bk,L0,Ah,nCB,Ap,List.set_cons_succ,List.set_cons_zero,List.getElem?_cons_succ,List.getElem?_cons_zero,Option.some.injEq,Ao,List.cons.injEq,and_true,Ar,Cr,Cb,nOr,Df,De,nC,D.ty.injEq,A9,A8,Uw,exists_eq_left',reduceCtorEq,if_false,if_true,Bg,nOp,dNe,eqS,D.bl.injEq,and_assoc,exists_and_left,Ey,true_and]
     refine⟨pd,r1,r2,r3,r4,x,rfl,gx.knT,gx.sz,x,rfl,gx.knT,gx.sz,?_⟩
     refine⟨"bool",rfl,true,rfl,it1 (by decide) ⟨_,rfl,it1 (by simp) ⟨pd,r1,r2,r3,r4,it1 (by simp) ⟨_,rfl,?_⟩⟩⟩⟩
     cases hs:Dd x with
     |true=>exact it1 (by decide) (Fs.of ⟨t12,_,_,_,_,rfl⟩)
     |false=>exact it0 (by decide) ⟨s,h,x,by rw[cse],ok,gx.knT,gx.sz,hs,hT12,fun G13 sb=>⟨true,rfl,it1 (by decide) (Fs.of ⟨t12.trans (Oo t12.box sb),_,_,_,_,rfl⟩)⟩⟩
    ·rintro σ G12 ⟨t12,w5,w6,w7,w8,rfl⟩
     have hcl:cs.length=s.length:=by rw[←hcs,List.length_map]
     simp only[E6,Ah,nCB,Ap,List.getElem?_cons_succ,List.getElem?_cons_zero,Option.some.injEq,Ao,List.cons.injEq,and_true,D.int.injEq,Int.reducePow,Int.reduceNeg,and_assoc,exists_eq_left',Ew]
     refine⟨by omega,by omega,?_⟩
     refine Bu (fun j σ G'=>Step p G12 G'∧∃v8 v9 v10 v11,σ=[some (.lint ns),some (.int (i:Nat)),some (.ref p),some (.tup cs),some (.ref p3),w5,w6,w7,v8,v9,v10,v11]) ⟨Step.refl t12.box,_,_,_,_,rfl⟩ ?_ ?_
     ·rintro j σ G13 hj ⟨t13,w8,w9,w10,w11,rfl⟩
      have hj:j<s.length:=by rw[←hcl];omega
      simp only[A2,Bk,L0,Ah,Ar,Ap,List.set_cons_succ,List.set_cons_zero,List.getElem?_cons_succ,List.getElem?_cons_zero,Option.some.injEq,nCB,nOp,nC,dIx,D.int.injEq,Ao,List.cons.injEq,and_true,Cr,Gx,List.length_cons,List.length_nil,Nat.zero_add,Nat.reduceAdd,sz2,Cb,nOr,Df,De,D.ty.injEq,A9,A8,if_true,Bg,dI0,dNe,eqS,D.bl.injEq,exists_eq_left',Ch,and_assoc,exists_and_left,Ey,true_and]
      refine⟨Bp c0,at0,h,by rw[←hl0];exact congrArg some (List.length_map ..),A5 t13.box (by omega) (by omega) fun r1 G14 r10 r11 t14=>?_⟩
      refine A5 t14.box (by decide) (by decide) fun r2 G15 r20 r21 t15=>?_
      rw[By]
      obtain⟨r,rfl⟩:=Int.eq_ofNat_of_zero_le r10
      have t15:=t13.trans (t14.trans t15)
      have ecol:s.getD j []=s[j]:=by rw[List.getD_eq_getElem?_getD,List.getElem?_eq_getElem hj];rfl
      have hrl:(s.getD j []).length=h:=by rw[ecol];exact(ok.col _ (List.getElem_mem hj)).1
      have acs:atI cs (j:Int)=some (Bp (s.getD j [])):=by rw[←hcs];exact Ca (by rw[List.getElem?_map,List.getElem?_eq_getElem hj,ecol];rfl)
      have arow:∀G:Gp,Ej G (Bp (s.getD j [])) (r:Int)=some (.int (Di s j r)):=fun G=>by
       show atI ((s.getD j []).map D.int) (r:Int)=_
       unfold Di
       generalize s.getD j []=col at *
       refine Ca ?_
       rw[List.getElem?_map,List.getElem?_eq_getElem (by omega),List.getD_eq_getElem?_getD,List.getElem?_eq_getElem (by omega)];rfl
      refine⟨Bo s,_,_,by rw[cse],Ue ok hj (by omega) (by omega) ⟨s,j,r,1+r2,rfl,rfl,rfl,hj,by rw[hrl];omega, "bool",rfl,true,rfl,it1 (by decide) ⟨_,acs,_,rfl,_,arow _,_,rfl,_,rfl,_,rfl,it1 (by simp) (Fs.of ⟨t15,_,_,_,_,rfl⟩)⟩⟩⟩
     ·rintro σ G13 ⟨t13,w8,w9,w10,w11,rfl⟩
      exact⟨G13,Sub.refl _,_,_,_,_,_,_,_,_,_,_,_,rfl,(t12.trans t13).get npT hT11⟩
  ·rintro σ G1 ⟨v1,v2,v3,v4,v5,v6,v7,v8,v9,v10,v11,rfl,_⟩
   simp only[A9,nC]
   exact Fq.of (q _)
end
section
variable{P:Program}{w:World}{K:W.Frag}{mg:Str→Option Value}{base:Heap}{T0 T1 M CN CS CC CR CD:Addr}{tbl:List (Str×Addr)}
theorem Pw{K:W.Frag}:∀f fd,Fun K "_law_box" "_law_box" s_L_box f fd→Binds K fd p_L_box []:=fun f fd F=>F.binds (ps:=p_L_box) fun _ _ _ _ _ _ us hl=>match us,hl with | [_,_],_=>rfl
theorem M5{K:W.Frag}:∀f fd,Fun K "_law_more" "_law_more" s_L_more f fd→Binds K fd Cg []:=fun f fd F=>F.binds (ps:=Cg) fun _ _ _ _ _ _ us hl=>match us,hl with | [_],_=>rfl
theorem M4{K:W.Frag}:∀f fd,Fun K "_law_take" "_law_take" s_L_take f fd→Binds K fd p_L_take []:=fun f fd F=>F.binds (ps:=p_L_take) fun _ _ _ _ _ _ us hl=>match us,hl with | [_,_],_=>rfl
theorem Dl{K:W.Frag}:∀f fd,Fun K "is_whole_within" "is_whole_within" s_is_whole_within f fd→Binds K fd Aj []:=fun f fd F=>F.binds (ps:=Aj) fun _ _ _ _ _ _ us hl=>match us,hl with | [_,_,_],_=>rfl
theorem Js{K:W.Frag}:∀f fd,Fun K "is_depth" "is_depth" s_is_depth f fd→Binds K fd Br []:=fun f fd F=>F.binds (ps:=Br) fun _ _ _ _ _ _ us hl=>match us,hl with | [_],_=>rfl
theorem F7{K:W.Frag}:∀f fd,Fun K "is_draught" "is_draught" s_is_draught f fd→Binds K fd A7 []:=fun f fd F=>F.binds (ps:=A7) fun _ _ _ _ _ _ us hl=>match us,hl with | [_],_=>rfl
theorem M3{K:W.Frag}:∀f fd,Fun K "is_day" "is_day" s_is_day f fd→Binds K fd Cf []:=fun f fd F=>F.binds (ps:=Cf) fun _ _ _ _ _ _ us hl=>match us,hl with | [_],_=>rfl
theorem Hy{K:W.Frag}:∀f fd,Fun K "is_column" "is_column" s_is_column f fd→Binds K fd Bi []:=fun f fd F=>F.binds (ps:=Bi) fun _ _ _ _ _ _ us hl=>match us,hl with | [_],_=>rfl
theorem M2{K:W.Frag}:∀f fd,Fun K "is_sea" "is_sea" s_is_sea f fd→Binds K fd p_is_sea []:=fun f fd F=>F.binds (ps:=p_is_sea) fun _ _ _ _ _ _ us hl=>match us,hl with | [_],_=>rfl
theorem Hz{K:W.Frag}:∀f fd,Fun K "check_sea" "check_sea" s_check_sea f fd→Binds K fd p_check_sea []:=fun f fd F=>F.binds (ps:=p_check_sea) fun _ _ _ _ _ _ us hl=>match us,hl with | [_],_=>rfl
theorem Eh{K:W.Frag}:∀f fd,Fun K "check_draught" "check_draught" s_check_draught f fd→Binds K fd p_check_draught []:=fun f fd F=>F.binds (ps:=p_check_draught) fun _ _ _ _ _ _ us hl=>match us,hl with | [_],_=>rfl
theorem Ia{K:W.Frag}:∀f fd,Fun K "check_day" "check_day" s_check_day f fd→Binds K fd Bj []:=fun f fd F=>F.binds (ps:=Bj) fun _ _ _ _ _ _ us hl=>match us,hl with | [_],_=>rfl
theorem Kv{K:W.Frag}:∀f fd,Fun K "is_cell" "is_cell" s_is_cell f fd→Binds K fd B2 []:=fun f fd F=>F.binds (ps:=B2) fun _ _ _ _ _ _ us hl=>match us,hl with | [_,_],_=>rfl
theorem F8{K:W.Frag}:∀f fd,Fun K "check_cell" "check_cell" s_check_cell f fd→Binds K fd p_check_cell []:=fun f fd F=>F.binds (ps:=p_check_cell) fun _ _ _ _ _ _ us hl=>match us,hl with | [_,_],_=>rfl
theorem Jt{K:W.Frag}:∀f fd,Fun K "depth_at" "depth_at" s_depth_at f fd→Binds K fd Bs []:=fun f fd F=>F.binds (ps:=Bs) fun _ _ _ _ _ _ us hl=>match us,hl with | [_,_],_=>rfl
theorem Jr{K:W.Frag}:∀f fd,Fun K "is_shoal" "is_shoal" s_is_shoal f fd→Binds K fd Bq []:=fun f fd F=>F.binds (ps:=Bq) fun _ _ _ _ _ _ us hl=>match us,hl with | [_,_,_],_=>rfl
theorem Ps{K:W.Frag}:∀f fd,Fun K "drift" "drift" s_drift f fd→Binds K fd C5 []:=fun f fd F=>F.binds (ps:=C5) fun _ _ _ _ _ _ us hl=>match us,hl with | [_,_,_],_=>rfl
theorem Kw{K:W.Frag}:∀f fd,Fun K "is_bank" "is_bank" s_is_bank f fd→Binds K fd p_is_bank []:=fun f fd F=>F.binds (ps:=p_is_bank) fun _ _ _ _ _ _ us hl=>match us,hl with | [_,_,_],_=>rfl
theorem Pt{K:W.Frag}:∀f fd,Fun K "_law_sea" "_law_sea" s_L_sea f fd→Binds K fd p_L_sea []:=fun f fd F=>F.binds (ps:=p_L_sea) fun _ _ _ _ _ _ us hl=>match us,hl with | [_,_,_],_=>rfl
theorem Kx{K:W.Frag}:∀f fd,Fun K "_law_whole" "_law_whole" s_L_whole f fd→Binds K fd B3 []:=fun f fd F=>F.binds (ps:=B3) fun _ _ _ _ _ _ us hl=>match us,hl with | [_,_,_],_=>rfl
theorem Ju{K:W.Frag}:∀f fd,Fun K "_law_is_sea" "_law_is_sea" s_L_is_sea f fd→Binds K fd p_L_is_sea []:=fun f fd F=>F.binds (ps:=p_L_is_sea) fun _ _ _ _ _ _ us hl=>match us,hl with | [_],_=>rfl
theorem Pv{K:W.Frag}:∀f fd,Fun K "_law_odd" "_law_odd" s_L_odd f fd→Binds K fd p_L_odd []:=fun f fd F=>F.binds (ps:=p_L_odd) fun _ _ _ _ _ _ us hl=>match us,hl with | [_],_=>rfl
theorem Db{K:W.Frag}:∀f fd,Fun K "_law_bent" "_law_bent" s_L_bent f fd→Binds K fd A4 []:=fun f fd F=>F.binds (ps:=A4) fun _ _ _ _ _ _ us hl=>match us,hl with | [_,_,_],_=>rfl
theorem M6{K:W.Frag}:∀f fd,Fun K "_law_kind" "_law_kind" s_L_kind f fd→Binds K fd p_L_kind []:=fun f fd F=>F.binds (ps:=p_L_kind) fun _ _ _ _ _ _ us hl=>match us,hl with | [_],_=>rfl
theorem Ib{K:W.Frag}:∀f fd,Fun K "_law_refused" "_law_refused" s_L_refused f fd→Binds K fd p_L_refused []:=fun f fd F=>F.binds (ps:=p_L_refused) fun _ _ _ _ _ _ us hl=>match us,hl with | [_,_],_=>rfl
theorem Uh{h:Heap}(X:K.In h)(G:h.Ns mainGlobals mg)(z0:PySem.W.nsIn K mainGlobals "len" = some none)(z1:PySem.W.nsIn K mainGlobals "range" = some none)(z2:PySem.W.nsIn K mainGlobals "abs" = some none)(z3:PySem.W.nsIn K mainGlobals "divmod" = some none)(z4:PySem.W.nsIn K mainGlobals "max" = some none)(z5:PySem.W.nsIn K mainGlobals "min" = some none)(z6:PySem.W.nsIn K mainGlobals "tuple" = some none)(z7:PySem.W.nsIn K mainGlobals "int" = some none)(z8:PySem.W.nsIn K mainGlobals "bool" = some none)(z9:PySem.W.nsIn K mainGlobals "list" = some none)(z10:PySem.W.nsIn K mainGlobals "isinstance" = some none)(z11:PySem.W.nsIn K mainGlobals "all" = some none)(z12:PySem.W.nsIn K mainGlobals "sorted" = some none)(z13:PySem.W.nsIn K mainGlobals "repr" = some none)(z14:PySem.W.nsIn K mainGlobals "ValueError" = some none):Blt mg:=⟨fun {x} hx=>by
 simp only[Ji,List.mem_cons,List.not_mem_nil,or_false] at hx
 rcases hx with rfl|rfl|rfl|rfl|rfl|rfl|rfl|rfl|rfl|rfl|rfl|rfl|rfl|rfl|rfl
 ·exact PySem.W.mg_none_of X G z0
 ·exact PySem.W.mg_none_of X G z1
 ·exact PySem.W.mg_none_of X G z2
 ·exact PySem.W.mg_none_of X G z3
 ·exact PySem.W.mg_none_of X G z4
 ·exact PySem.W.mg_none_of X G z5
 ·exact PySem.W.mg_none_of X G z6
 ·exact PySem.W.mg_none_of X G z7
 ·exact PySem.W.mg_none_of X G z8
 ·exact PySem.W.mg_none_of X G z9
 ·exact PySem.W.mg_none_of X G z10
 ·exact PySem.W.mg_none_of X G z11
 ·exact PySem.W.mg_none_of X G z12
 ·exact PySem.W.mg_none_of X G z13
 ·exact PySem.W.mg_none_of X G z14⟩
theorem Q3{h:Heap}(X:K.In h)(G:h.Ns mainGlobals mg)(B:Blt mg){t0 t1 t2 t3 t4 t5 t6 t7 t8:Tok}(a0:PySem.W.nsIn K mainGlobals "LEAST_COLUMNS" = some (some (.int 2 t0)))(a1:PySem.W.nsIn K mainGlobals "MOST_COLUMNS" = some (some (.int 16 t1)))(a2:PySem.W.nsIn K mainGlobals "LEAST_ROWS" = some (some (.int 1 t2)))(a3:PySem.W.nsIn K mainGlobals "MOST_ROWS" = some (some (.int 9 t3)))(a4:PySem.W.nsIn K mainGlobals "LAND" = some (some (.int 0 t4)))(a5:PySem.W.nsIn K mainGlobals "MOST_DEPTH" = some (some (.int 9 t5)))(a6:PySem.W.nsIn K mainGlobals "LEAST_DRAUGHT" = some (some (.int 1 t6)))(a7:PySem.W.nsIn K mainGlobals "MOST_DRAUGHT" = some (some (.int 9 t7)))(a8:PySem.W.nsIn K mainGlobals "LAST_DAY" = some (some (.int 400 t8))):Nums mg:=⟨B,⟨t0,PySem.W.mg_of X G a0⟩,⟨t1,PySem.W.mg_of X G a1⟩,⟨t2,PySem.W.mg_of X G a2⟩,⟨t3,PySem.W.mg_of X G a3⟩,⟨t4,PySem.W.mg_of X G a4⟩,⟨t5,PySem.W.mg_of X G a5⟩,⟨t6,PySem.W.mg_of X G a6⟩,⟨t7,PySem.W.mg_of X G a7⟩,⟨t8,PySem.W.mg_of X G a8⟩⟩
theorem Pe{f:Addr}{fd:FuncData}{k:Nat}(F:Fun K "_law_bent" "_law_bent" s_L_bent f fd):FnOk P w K mg base CX0 (k+1) f fd A4 (Ag K (Cu 0)):=by
 refine okD F sc_L_bent (fun ds G Q E h=>?_) (fun cdv A outer s H XE ds G Q E hr h=>?_)
 ·obtain⟨a,d,c,rfl,_⟩:=h;rfl
 ·obtain⟨a,d,kk,rfl,k1,_⟩:=h
  exact absurd k1 (by omega)
structure ClSeen(K:PySem.W.Frag)(x:Str)(a:Addr):Prop where
 nm:PySem.W.nsIn K mainGlobals x=some (some (.ref a))
 ty:PySem.W.typeIn K (.ref a)=some (.type "type")
 ob:PySem.W.mroIn K a (.type "object")=some true
theorem Fi{x:Str}:∀{tbl:List (Str×Addr)},x∈tbl.map (·.1)→(x,Dp tbl x)∈tbl
 |[],h=>by cases h
 |(y,a)::r,h=>by
  unfold Dp
  rw[List.lookup_cons]
  by_cases e:x=y
  ·subst e
   rw[show(x == x)=true by simp]
   exact List.mem_cons_self
  ·rw[show(x == y)=false by simpa using e]
   exact List.mem_cons_of_mem _ (Fi ((List.mem_cons.mp h).elim (fun q=>absurd q e) id))
theorem Ud{h:Heap}(X:K.In h)(G:h.Ns mainGlobals mg)(hn:tbl.map (·.1)=Ci)(hs:AllP (fun p:Str×Addr=>ClSeen K p.1 p.2) tbl):Cls K mg tbl:=
 ⟨fun x hx=>PySem.W.mg_of X G (hs.get _ (Fi (by rw[hn];exact hx))).nm,fun x hx=>⟨(hs.get _ (Fi (by rw[hn];exact hx))).ty,(hs.get _ (Fi (by rw[hn];exact hx))).ob⟩⟩
theorem Ui{x:Str}{j k:Nat}:∀{tbl:List (Str×Addr)},(tbl.map (·.1)).Nodup→(tbl.map (·.1))[j]? = some x→((x,Dp tbl x),j+k)∈tbl.zipIdx k
 |tbl,nd,h=>by
  obtain⟨p,hp,e⟩:=Option.map_eq_some_iff.mp (by rw[List.getElem?_map] at h;exact h)
  have hm:=Fi (tbl:=tbl) (x:=x) (List.mem_of_getElem? h)
  obtain⟨i,hi,ei⟩:=List.getElem_of_mem hm
  have hj:j<tbl.length:=(List.getElem?_eq_some_iff.mp hp).1
  have ij:i=j:=by
   have h1:(tbl.map (·.1))[i]? = some x:=by rw[List.getElem?_map,List.getElem?_eq_getElem hi,ei];rfl
   have a1:=(List.getElem?_eq_some_iff.mp h1)
   have a2:=(List.getElem?_eq_some_iff.mp h)
   exact(List.getElem_inj nd).mp (a1.2.trans a2.2.symm)
  subst ij
  refine List.mem_of_getElem? (i:=i) ?_
  rw[List.getElem?_zipIdx,List.getElem?_eq_getElem hi,ei]
  simp[Nat.add_comm]
theorem Ex{i:Nat}(hn:tbl.map (·.1)=Ci)(hi:i<15)(ga:PySem.W.findIn K (.ref CN) "__getattribute__" = some (some (.builtin "BaseException.__getattribute__")))(gt:PySem.W.findIn K (.ref CN) "__getattr__" = some none)(cl:PySem.W.findIn K (.ref CN) "__class__" = some (some (.builtin "object.__class__")))(ob:PySem.W.mroIn K CN (.type "object")=some true)(be:PySem.W.mroIn K CN (.type "BaseException")=some true)(ve:PySem.W.mroIn K CN (.type "ValueError")=some true)(ms:AllP (fun p:(Str×Addr)×Nat=>PySem.W.mroIn K CN (.ref p.1.2)=some (p.2 == i)) tbl.zipIdx)(ne:AllP (fun p:(Str×Addr)×Nat=>CN=p.1.2→(p.2 == i)=true) tbl.zipIdx):ExKind K tbl CN i:=
 ⟨⟨ga,gt,cl,ob,be⟩,ve,hi,fun j x hx=>by
  have hm:((x,Dp tbl x),j+0)∈tbl.zipIdx 0:=Ui (by rw[hn];decide +kernel) (by rw[hn];exact hx)
  exact⟨ms.get _ hm,ne.get _ hm⟩⟩
theorem Fe{C:Addr}{oc:Value}{od:Option Addr}{cd:ClassData}{sl:Array (Option Value)}{tl:List Value}(l:K.lookup C=some ⟨oc,od,.cls cd,sl⟩)(e:cd.mro=.ref C::tl):mroK K C=some (.ref C::tl):=by
 unfold mroK;rw[l];exact congrArg some e
structure LamIs(K:PySem.W.Frag)(x:Str)(st:Stmt)(T0:Addr):Prop where
 ex:∃f fd c0,Fun K x x st f fd∧PySem.W.nsIn K mainGlobals x=some (some (.ref f))∧PySem.W.keepIn K (.ref f)=true∧fd.code=.ref c0∧PySem.W.codeHdIn K c0 T0=true
theorem Jb{x:Str}{st:Stmt}{f c0:Addr}{od an:Option Addr}{sl:Array (Option Value)}{oc kV dc pm ct:Value}(a:PySem.W.nsIn K mainGlobals x=some (some (.ref f)))(l:K.lookup f=some ⟨oc,od,.func (PySem.W.fnOf x x (C8 st) (Bl st) (defScope st) .none kV dc pm an (.ref c0) ct),sl⟩)(c:PySem.W.codeIn K (.ref c0) x=true)(k:PySem.W.keepIn K (.ref f)=true)(t:PySem.W.codeHdIn K c0 T0=true):LamIs K x st T0:=
 ⟨f,_,c0,Oa l c k,a,k,rfl,t⟩
theorem C7{h:Heap}{x:Str}{st:Stmt}{k:Nat}{ps:List Str}{sp:DSp}(I:FnIs K x st)(X:K.In h)(G:h.Ns mainGlobals mg)(hb:∀f fd,Fun K x x st f fd→Binds K fd ps [])(ok:∀f fd,Fun K x x st f fd→FnOk P w K mg base (CX1 P w) k f fd ps (Ag K sp)):Def P w K mg base (CX1 P w) k x ps sp:=by
 obtain⟨f,fd,F,a,kp⟩:=I.ex
 exact⟨f,fd,ok f fd F,PySem.W.mg_of X G a,kp,hb f fd F⟩
structure MkIs(K:PySem.W.Frag)(M:Addr):Prop where
 exk:ExcK K "MarkError" M
 mro:∃tm,mroK K M=some (.ref M::tm)∧tm.contains (.type "BaseException")=true
theorem Uj{h:Heap}(X:K.In h)(G:h.Ns mainGlobals mg)(T:Nums mg)(Z:Cls K mg tbl)(BS:Exn K tbl M CS "NoSea" 0)(BC:Exn K tbl M CC "NoCell" 1)(BR:Exn K tbl M CR "NoDraught" 2)(BD:Exn K tbl M CD "NoDay" 3)(Mk:MkIs K M)(J_L_refused:LamIs K "_law_refused" s_L_refused T0)(Xl:FnIs K "_law_box" s_L_box)(Xm:FnIs K "_law_more" s_L_more)(Xn:FnIs K "_law_take" s_L_take)(Xo:FnIs K "is_whole_within" s_is_whole_within)(Xp:FnIs K "is_depth" s_is_depth)(Xq:FnIs K "is_draught" s_is_draught)(Xr:FnIs K "is_day" s_is_day)(Xs:FnIs K "is_column" s_is_column)(Xt:FnIs K "is_sea" s_is_sea)(Xu:FnIs K "check_sea" s_check_sea)(Xv:FnIs K "check_draught" s_check_draught)(Xw:FnIs K "check_day" s_check_day)(Xx:FnIs K "is_cell" s_is_cell)(Xy:FnIs K "check_cell" s_check_cell)(Xz:FnIs K "depth_at" s_depth_at)(X0:FnIs K "is_shoal" s_is_shoal)(X2:FnIs K "drift" s_drift)(X3:FnIs K "is_bank" s_is_bank)(X4:FnIs K "_law_sea" s_L_sea)(X5:FnIs K "_law_whole" s_L_whole)(X6:FnIs K "_law_is_sea" s_L_is_sea)(X7:FnIs K "_law_odd" s_L_odd)(W3:FnIs K "_law_bent" s_L_bent)(X8:FnIs K "_law_kind" s_L_kind){f:Addr}{fd:FuncData}(F:Fun K "law" "law" s_law f fd):FnOk P w K mg base CX0 10 f fd Nm (Ag K (Ha [(T0,qF)])):=by
 have Xh:Def P w K mg base CX0 1 "_law_box" p_L_box spBox:=Ax Xl X G Pw fun f fd F=>Tv F T.toBlt
 have W5:Def P w K mg base CX0 1 "_law_more" Cg Gz:=Ax Xm X G M5 fun f fd F=>Qx F T.toBlt
 have Ww:Def P w K mg base CX0 2 "_law_take" p_L_take spTake:=Ax Xn X G M4 fun f fd F=>Qv F T.toBlt W5
 have Wx:Def P w K mg base CX0 1 "is_whole_within" Aj B0:=Ax Xo X G Dl fun f fd F=>O8 F T
 have W6:Def P w K mg base CX0 2 "is_depth" Br (Cp 0 9):=Ax Xp X G Js fun f fd F=>Pc F T Wx
 have W8:Def P w K mg base CX0 2 "is_draught" A7 (Cp 1 9):=Ax Xq X G F7 fun f fd F=>Kq F T Wx
 have W9:Def P w K mg base CX0 2 "is_day" Cf (Cp 0 400):=Ax Xr X G M3 fun f fd F=>Tt F T Wx
 have W7:Def P w K mg base CX0 3 "is_column" Bi K5:=Ax Xs X G Hy fun f fd F=>Tu F T W6
 have W0:Def P w K mg base CX0 4 "is_sea" p_is_sea spSeaT:=Ax Xt X G M2 fun f fd F=>Qw F T W7
 have W1:Def P w K mg base (CX1 P w) 5 "check_sea" p_check_sea (spCheckSea CS):=C7 Xu X G Hz fun f fd F=>Jl F T BS.exk W0
 have Xd:Def P w K mg base (CX1 P w) 3 "check_draught" p_check_draught (spCheckN CR 1 9):=C7 Xv X G Eh fun f fd F=>Ep F T BR.exk W8
 have Xc:Def P w K mg base (CX1 P w) 3 "check_day" Bj (spCheckN CD 0 400):=C7 Xw X G Ia fun f fd F=>Jm F T BD.exk W9
 have Xa:Def P w K mg base CX0 2 "is_cell" B2 Hg:=Ax Xx X G Kv fun f fd F=>Pd F T Wx
 have W2:Def P w K mg base (CX1 P w) 3 "check_cell" p_check_cell (spCheckCell CC):=C7 Xy X G F8 fun f fd F=>Hx F T BC.exk Xa
 have Xb:Def P w K mg base CX0 1 "depth_at" Bs Eb:=Ax Xz X G Jt fun f fd F=>Kr F T
 have Xe:Def P w K mg base CX0 2 "is_shoal" Bq Hf:=Ax X0 X G Jr fun f fd F=>O9 F T Xb
 have W4:Def P w K mg base (CX1 P w) 6 "drift" C5 (Dv CS CC CD):=C7 X2 X G Ps fun f fd F=>Pb F T W1 W2 Xc
 have Wz:Def P w K mg base (CX1 P w) 6 "is_bank" p_is_bank (spBank CS CC CR):=C7 X3 X G Kw fun f fd F=>Q0 F T W1 W2 Xd Xe
 have Xi:Def P w K mg base CX0 3 "_law_sea" p_L_sea spLSea:=Ax X4 X G Pt fun f fd F=>Qy F T.toBlt Ww
 have Xf:Def P w K mg base CX0 1 "_law_whole" B3 Du:=Ax X5 X G Kx fun f fd F=>Mf F T.toBlt
 have Xj:Def P w K mg base CX0 2 "_law_is_sea" p_L_is_sea spLIsSea:=Ax X6 X G Ju fun f fd F=>Mg F T.toBlt Xf
 have Wy:Def P w K mg base CX0 3 "_law_odd" p_L_odd spOdd:=Ax X7 X G Pv fun f fd F=>Tr F T.toBlt Ww
 have D0:Def P w K mg base CX0 4 "_law_bent" A4 (Cu 0):=Ax W3 X G Db fun f fd F=>Pe (k:=3) F
 have D1:Def P w K mg base CX0 5 "_law_bent" A4 (Cu 1):=Ax W3 X G Db fun f fd F=>Hk (by decide) F T.toBlt Ww Wy D0
 have D2:Def P w K mg base CX0 6 "_law_bent" A4 (Cu 2):=Ax W3 X G Db fun f fd F=>Hk (by decide) F T.toBlt Ww Wy D1
 have D3:Def P w K mg base CX0 7 "_law_bent" A4 (Cu 3):=Ax W3 X G Db fun f fd F=>Hk (by decide) F T.toBlt Ww Wy D2
 obtain⟨fs,fds,FS,as,ks⟩:=X8.ex
 obtain⟨tm,hm1,hm2⟩:=Mk.mro
 have S:Kind P w K mg base 8 7 "_law_kind" M "told" (C4 K tbl):=Qz (k:=7) (kr:=7) FS T.toBlt Z Mk.exk (PySem.W.mg_of X G Mk.exk.nm) hm1 hm2 (Nat.le_refl _) (PySem.W.mg_of X G as) (M6 _ _ FS)
 obtain⟨fc,fdc,c0,FC,ac,kc,hc1,hc2⟩:=J_L_refused.ex
 have Xk:Def P w K mg base CX0 9 "_law_refused" p_L_refused (spRefused T0 qF):=⟨fc,fdc,Kp FC T hc1 hc2 BS BC BR BD S Wz W4,PySem.W.mg_of X G ac,kc,Ib _ _ FC⟩
 exact Ts F T Xh Xi Wy D3 Xj W0 Xk Ww Wz
end
end K2
open PySem PySem.W PyProof.Rows L2 D3
set_option maxRecDepth 100000 in
set_option maxHeartbeats 0 in
theorem PySem.Challenge.cw_laidmarks_k01_seas_known_holds : PySem.Challenge.rw_laidmarks_k01_seas_known.Holds := by
  w_on;o_law;k_head;(case hw=>w_witness2)
  k_fill
  refine D3.Om (l:=PySem.Challenge.rw_laidmarks_k01_seas_known) (n:=63) (k:=10) (x:="_law_script") (ts:=[447]) (CX:=CX0) (sp:=fun K=>Ag K (Ha [(447,K2.qF)])) ?I rfl (by decide) rfl ⟨rfl,by decide,by decide,rfl⟩ (fun w h Y=>⟨PySem.W.km_in_of Y,fun T hT=>PySem.W.km_tabs_of Y T (by (obtain hT:=List.mem_singleton.mp hT;subst hT;decide))⟩) ?C ?F (Q6 [(447,K2.qF)] (by decide)) (fun _ _ _ _ z=>z)
  case I=>first | rfl | decide
  case C=>
    intro w h KX T hT
    obtain hT:=List.mem_singleton.mp hT;subst hT
    have J_L_refused:K2.LamIs (KOf KX) "_law_refused" K2.s_L_refused 447:=by (dsimp only [KOf];refine' K2.Jb ?a ?l ?c ?k ?t;(case a=>k_is);(case l=>k_is);(case c=>k_is);(case k=>k_is);(case t=>kernel_rfl))
    obtain ⟨_,_,c0,_,_,_,_,hc⟩:=J_L_refused.ex
    exact ⟨⟨c0,hc⟩,by kernel_rfl⟩
  case F=>
    intro w mg fa h KX G hmg
    have Xl:FnIs (KOf KX) "_law_box" K2.s_L_box:=by (dsimp only [KOf];refine' Am ?a ?l ?c ?k;(case a=>k_is);(case l=>k_is);(case c=>k_is);(case k=>k_is))
    have Xm:FnIs (KOf KX) "_law_more" K2.s_L_more:=by (dsimp only [KOf];refine' Am ?a ?l ?c ?k;(case a=>k_is);(case l=>k_is);(case c=>k_is);(case k=>k_is))
    have Xn:FnIs (KOf KX) "_law_take" K2.s_L_take:=by (dsimp only [KOf];refine' Am ?a ?l ?c ?k;(case a=>k_is);(case l=>k_is);(case c=>k_is);(case k=>k_is))
    have Xo:FnIs (KOf KX) "is_whole_within" K2.s_is_whole_within:=by (dsimp only [KOf];refine' Am ?a ?l ?c ?k;(case a=>k_is);(case l=>k_is);(case c=>k_is);(case k=>k_is))
    have Xp:FnIs (KOf KX) "is_depth" K2.s_is_depth:=by (dsimp only [KOf];refine' Am ?a ?l ?c ?k;(case a=>k_is);(case l=>k_is);(case c=>k_is);(case k=>k_is))
    have Xq:FnIs (KOf KX) "is_draught" K2.s_is_draught:=by (dsimp only [KOf];refine' Am ?a ?l ?c ?k;(case a=>k_is);(case l=>k_is);(case c=>k_is);(case k=>k_is))
    have Xr:FnIs (KOf KX) "is_day" K2.s_is_day:=by (dsimp only [KOf];refine' Am ?a ?l ?c ?k;(case a=>k_is);(case l=>k_is);(case c=>k_is);(case k=>k_is))
    have Xs:FnIs (KOf KX) "is_column" K2.s_is_column:=by (dsimp only [KOf];refine' Am ?a ?l ?c ?k;(case a=>k_is);(case l=>k_is);(case c=>k_is);(case k=>k_is))
    have Xt:FnIs (KOf KX) "is_sea" K2.s_is_sea:=by (dsimp only [KOf];refine' Am ?a ?l ?c ?k;(case a=>k_is);(case l=>k_is);(case c=>k_is);(case k=>k_is))
    have Xu:FnIs (KOf KX) "check_sea" K2.s_check_sea:=by (dsimp only [KOf];refine' Am ?a ?l ?c ?k;(case a=>k_is);(case l=>k_is);(case c=>k_is);(case k=>k_is))
    have Xv:FnIs (KOf KX) "check_draught" K2.s_check_draught:=by (dsimp only [KOf];refine' Am ?a ?l ?c ?k;(case a=>k_is);(case l=>k_is);(case c=>k_is);(case k=>k_is))
    have Xw:FnIs (KOf KX) "check_day" K2.s_check_day:=by (dsimp only [KOf];refine' Am ?a ?l ?c ?k;(case a=>k_is);(case l=>k_is);(case c=>k_is);(case k=>k_is))
    have Xx:FnIs (KOf KX) "is_cell" K2.s_is_cell:=by (dsimp only [KOf];refine' Am ?a ?l ?c ?k;(case a=>k_is);(case l=>k_is);(case c=>k_is);(case k=>k_is))
    have Xy:FnIs (KOf KX) "check_cell" K2.s_check_cell:=by (dsimp only [KOf];refine' Am ?a ?l ?c ?k;(case a=>k_is);(case l=>k_is);(case c=>k_is);(case k=>k_is))
    have Xz:FnIs (KOf KX) "depth_at" K2.s_depth_at:=by (dsimp only [KOf];refine' Am ?a ?l ?c ?k;(case a=>k_is);(case l=>k_is);(case c=>k_is);(case k=>k_is))
    have X0:FnIs (KOf KX) "is_shoal" K2.s_is_shoal:=by (dsimp only [KOf];refine' Am ?a ?l ?c ?k;(case a=>k_is);(case l=>k_is);(case c=>k_is);(case k=>k_is))
    have X2:FnIs (KOf KX) "drift" K2.s_drift:=by (dsimp only [KOf];refine' Am ?a ?l ?c ?k;(case a=>k_is);(case l=>k_is);(case c=>k_is);(case k=>k_is))
    have X3:FnIs (KOf KX) "is_bank" K2.s_is_bank:=by (dsimp only [KOf];refine' Am ?a ?l ?c ?k;(case a=>k_is);(case l=>k_is);(case c=>k_is);(case k=>k_is))
    have X4:FnIs (KOf KX) "_law_sea" K2.s_L_sea:=by (dsimp only [KOf];refine' Am ?a ?l ?c ?k;(case a=>k_is);(case l=>k_is);(case c=>k_is);(case k=>k_is))
    have X5:FnIs (KOf KX) "_law_whole" K2.s_L_whole:=by (dsimp only [KOf];refine' Am ?a ?l ?c ?k;(case a=>k_is);(case l=>k_is);(case c=>k_is);(case k=>k_is))
    have X6:FnIs (KOf KX) "_law_is_sea" K2.s_L_is_sea:=by (dsimp only [KOf];refine' Am ?a ?l ?c ?k;(case a=>k_is);(case l=>k_is);(case c=>k_is);(case k=>k_is))
    have X7:FnIs (KOf KX) "_law_odd" K2.s_L_odd:=by (dsimp only [KOf];refine' Am ?a ?l ?c ?k;(case a=>k_is);(case l=>k_is);(case c=>k_is);(case k=>k_is))
    have W3:FnIs (KOf KX) "_law_bent" K2.s_L_bent:=by (dsimp only [KOf];refine' Am ?a ?l ?c ?k;(case a=>k_is);(case l=>k_is);(case c=>k_is);(case k=>k_is))
    have X8:FnIs (KOf KX) "_law_kind" K2.s_L_kind:=by (dsimp only [KOf];refine' Am ?a ?l ?c ?k;(case a=>k_is);(case l=>k_is);(case c=>k_is);(case k=>k_is))
    have X9:FnIs (KOf KX) "law" K2.s_law:=by (dsimp only [KOf];refine' Am ?a ?l ?c ?k;(case a=>k_is);(case l=>k_is);(case c=>k_is);(case k=>k_is))
    have J_L_refused:K2.LamIs (KOf KX) "_law_refused" K2.s_L_refused 447:=by (dsimp only [KOf];refine' K2.Jb ?a ?l ?c ?k ?t;(case a=>k_is);(case l=>k_is);(case c=>k_is);(case k=>k_is);(case t=>kernel_rfl))
    have B:K2.Blt mg:=by (refine' K2.Uh KX G ?z0 ?z1 ?z2 ?z3 ?z4 ?z5 ?z6 ?z7 ?z8 ?z9 ?z10 ?z11 ?z12 ?z13 ?z14;(case z0=>k_is);(case z1=>k_is);(case z2=>k_is);(case z3=>k_is);(case z4=>k_is);(case z5=>k_is);(case z6=>k_is);(case z7=>k_is);(case z8=>k_is);(case z9=>k_is);(case z10=>k_is);(case z11=>k_is);(case z12=>k_is);(case z13=>k_is);(case z14=>k_is))
    have N:K2.Nums mg:=by (refine' K2.Q3 KX G B ?a0 ?a1 ?a2 ?a3 ?a4 ?a5 ?a6 ?a7 ?a8;(case a0=>k_is);(case a1=>k_is);(case a2=>k_is);(case a3=>k_is);(case a4=>k_is);(case a5=>k_is);(case a6=>k_is);(case a7=>k_is);(case a8=>k_is))
    have c_NoSea:K2.ClSeen (KOf KX) "NoSea" 37:=by (dsimp only [KOf];refine' K2.ClSeen.mk ?a ?b ?c;(case a=>k_is);(case b=>k_is);(case c=>k_is))
    have c_NoCell:K2.ClSeen (KOf KX) "NoCell" 49:=by (dsimp only [KOf];refine' K2.ClSeen.mk ?a ?b ?c;(case a=>k_is);(case b=>k_is);(case c=>k_is))
    have c_NoDraught:K2.ClSeen (KOf KX) "NoDraught" 61:=by (dsimp only [KOf];refine' K2.ClSeen.mk ?a ?b ?c;(case a=>k_is);(case b=>k_is);(case c=>k_is))
    have c_NoDay:K2.ClSeen (KOf KX) "NoDay" 73:=by (dsimp only [KOf];refine' K2.ClSeen.mk ?a ?b ?c;(case a=>k_is);(case b=>k_is);(case c=>k_is))
    have c_NoNotices:K2.ClSeen (KOf KX) "NoNotices" 85:=by (dsimp only [KOf];refine' K2.ClSeen.mk ?a ?b ?c;(case a=>k_is);(case b=>k_is);(case c=>k_is))
    have c_NoNumber:K2.ClSeen (KOf KX) "NoNumber" 97:=by (dsimp only [KOf];refine' K2.ClSeen.mk ?a ?b ?c;(case a=>k_is);(case b=>k_is);(case c=>k_is))
    have c_NoMark:K2.ClSeen (KOf KX) "NoMark" 109:=by (dsimp only [KOf];refine' K2.ClSeen.mk ?a ?b ?c;(case a=>k_is);(case b=>k_is);(case c=>k_is))
    have c_NoChannel:K2.ClSeen (KOf KX) "NoChannel" 121:=by (dsimp only [KOf];refine' K2.ClSeen.mk ?a ?b ?c;(case a=>k_is);(case b=>k_is);(case c=>k_is))
    have c_NoSightings:K2.ClSeen (KOf KX) "NoSightings" 133:=by (dsimp only [KOf];refine' K2.ClSeen.mk ?a ?b ?c;(case a=>k_is);(case b=>k_is);(case c=>k_is))
    have c_NoFairway:K2.ClSeen (KOf KX) "NoFairway" 145:=by (dsimp only [KOf];refine' K2.ClSeen.mk ?a ?b ?c;(case a=>k_is);(case b=>k_is);(case c=>k_is))
    have c_NoSide:K2.ClSeen (KOf KX) "NoSide" 157:=by (dsimp only [KOf];refine' K2.ClSeen.mk ?a ?b ?c;(case a=>k_is);(case b=>k_is);(case c=>k_is))
    have c_NoColumns:K2.ClSeen (KOf KX) "NoColumns" 169:=by (dsimp only [KOf];refine' K2.ClSeen.mk ?a ?b ?c;(case a=>k_is);(case b=>k_is);(case c=>k_is))
    have c_NoLine:K2.ClSeen (KOf KX) "NoLine" 181:=by (dsimp only [KOf];refine' K2.ClSeen.mk ?a ?b ?c;(case a=>k_is);(case b=>k_is);(case c=>k_is))
    have c_There:K2.ClSeen (KOf KX) "There" 193:=by (dsimp only [KOf];refine' K2.ClSeen.mk ?a ?b ?c;(case a=>k_is);(case b=>k_is);(case c=>k_is))
    have c_Nothing:K2.ClSeen (KOf KX) "Nothing" 205:=by (dsimp only [KOf];refine' K2.ClSeen.mk ?a ?b ?c;(case a=>k_is);(case b=>k_is);(case c=>k_is))
    have c_Unlike:K2.ClSeen (KOf KX) "Unlike" 224:=by (dsimp only [KOf];refine' K2.ClSeen.mk ?a ?b ?c;(case a=>k_is);(case b=>k_is);(case c=>k_is))
    have c_NoText:K2.ClSeen (KOf KX) "NoText" 243:=by (dsimp only [KOf];refine' K2.ClSeen.mk ?a ?b ?c;(case a=>k_is);(case b=>k_is);(case c=>k_is))
    have c_TooMany:K2.ClSeen (KOf KX) "TooMany" 262:=by (dsimp only [KOf];refine' K2.ClSeen.mk ?a ?b ?c;(case a=>k_is);(case b=>k_is);(case c=>k_is))
    have Z:K2.Cls (KOf KX) mg [("NoSea",37),("NoCell",49),("NoDraught",61),("NoDay",73),("NoNotices",85),("NoNumber",97),("NoMark",109),("NoChannel",121),("NoSightings",133),("NoFairway",145),("NoSide",157),("NoColumns",169),("NoLine",181),("There",193),("Nothing",205),("Unlike",224),("NoText",243),("TooMany",262)]:=K2.Ud KX G rfl ⟨c_NoSea,c_NoCell,c_NoDraught,c_NoDay,c_NoNotices,c_NoNumber,c_NoMark,c_NoChannel,c_NoSightings,c_NoFairway,c_NoSide,c_NoColumns,c_NoLine,c_There,c_Nothing,c_Unlike,c_NoText,c_TooMany,trivial⟩
    have mS_NoSea:PySem.W.mroIn (KOf KX) 37 (.ref 37)=some true:=by (dsimp only [KOf];k_is)
    have mS_NoCell:PySem.W.mroIn (KOf KX) 37 (.ref 49)=some false:=by (dsimp only [KOf];k_is)
    have mS_NoDraught:PySem.W.mroIn (KOf KX) 37 (.ref 61)=some false:=by (dsimp only [KOf];k_is)
    have mS_NoDay:PySem.W.mroIn (KOf KX) 37 (.ref 73)=some false:=by (dsimp only [KOf];k_is)
    have mS_NoNotices:PySem.W.mroIn (KOf KX) 37 (.ref 85)=some false:=by (dsimp only [KOf];k_is)
    have mS_NoNumber:PySem.W.mroIn (KOf KX) 37 (.ref 97)=some false:=by (dsimp only [KOf];k_is)
    have mS_NoMark:PySem.W.mroIn (KOf KX) 37 (.ref 109)=some false:=by (dsimp only [KOf];k_is)
    have mS_NoChannel:PySem.W.mroIn (KOf KX) 37 (.ref 121)=some false:=by (dsimp only [KOf];k_is)
    have mS_NoSightings:PySem.W.mroIn (KOf KX) 37 (.ref 133)=some false:=by (dsimp only [KOf];k_is)
    have mS_NoFairway:PySem.W.mroIn (KOf KX) 37 (.ref 145)=some false:=by (dsimp only [KOf];k_is)
    have mS_NoSide:PySem.W.mroIn (KOf KX) 37 (.ref 157)=some false:=by (dsimp only [KOf];k_is)
    have mS_NoColumns:PySem.W.mroIn (KOf KX) 37 (.ref 169)=some false:=by (dsimp only [KOf];k_is)
    have mS_NoLine:PySem.W.mroIn (KOf KX) 37 (.ref 181)=some false:=by (dsimp only [KOf];k_is)
    have mS_There:PySem.W.mroIn (KOf KX) 37 (.ref 193)=some false:=by (dsimp only [KOf];k_is)
    have mS_Nothing:PySem.W.mroIn (KOf KX) 37 (.ref 205)=some false:=by (dsimp only [KOf];k_is)
    have mS_Unlike:PySem.W.mroIn (KOf KX) 37 (.ref 224)=some false:=by (dsimp only [KOf];k_is)
    have mS_NoText:PySem.W.mroIn (KOf KX) 37 (.ref 243)=some false:=by (dsimp only [KOf];k_is)
    have mS_TooMany:PySem.W.mroIn (KOf KX) 37 (.ref 262)=some false:=by (dsimp only [KOf];k_is)
    have ES:K2.ExKind (KOf KX) [("NoSea",37),("NoCell",49),("NoDraught",61),("NoDay",73),("NoNotices",85),("NoNumber",97),("NoMark",109),("NoChannel",121),("NoSightings",133),("NoFairway",145),("NoSide",157),("NoColumns",169),("NoLine",181),("There",193),("Nothing",205),("Unlike",224),("NoText",243),("TooMany",262)] 37 0:=by (refine' K2.Ex rfl (by decide) ?a ?b ?c ?d ?e ?f ⟨mS_NoSea,mS_NoCell,mS_NoDraught,mS_NoDay,mS_NoNotices,mS_NoNumber,mS_NoMark,mS_NoChannel,mS_NoSightings,mS_NoFairway,mS_NoSide,mS_NoColumns,mS_NoLine,mS_There,mS_Nothing,mS_Unlike,mS_NoText,mS_TooMany,trivial⟩ ⟨(fun _=>rfl),(fun z=>absurd z (by decide)),(fun z=>absurd z (by decide)),(fun z=>absurd z (by decide)),(fun z=>absurd z (by decide)),(fun z=>absurd z (by decide)),(fun z=>absurd z (by decide)),(fun z=>absurd z (by decide)),(fun z=>absurd z (by decide)),(fun z=>absurd z (by decide)),(fun z=>absurd z (by decide)),(fun z=>absurd z (by decide)),(fun z=>absurd z (by decide)),(fun z=>absurd z (by decide)),(fun z=>absurd z (by decide)),(fun z=>absurd z (by decide)),(fun z=>absurd z (by decide)),(fun z=>absurd z (by decide)),trivial⟩;(case a=>(dsimp only [KOf];k_is));(case b=>(dsimp only [KOf];k_is));(case c=>(dsimp only [KOf];k_is));(case d=>(dsimp only [KOf];k_is));(case e=>(dsimp only [KOf];k_is));(case f=>(dsimp only [KOf];k_is)))
    have hNS:∃tl,D3.mroK (KOf KX) 37=some (.ref 37::tl)∧(Value.ref 37::tl).contains (.ref 24)=true:=by (dsimp only [KOf];refine' ⟨_,K2.Fe ?l ?e,?c⟩;(case l=>k_is);(case e=>rfl);(case c=>decide))
    have BS:K2.Exn (KOf KX) [("NoSea",37),("NoCell",49),("NoDraught",61),("NoDay",73),("NoNotices",85),("NoNumber",97),("NoMark",109),("NoChannel",121),("NoSightings",133),("NoFairway",145),("NoSide",157),("NoColumns",169),("NoLine",181),("There",193),("Nothing",205),("Unlike",224),("NoText",243),("TooMany",262)] 24 37 "NoSea" 0:=⟨⟨by (dsimp only [KOf];k_is),by (dsimp only [KOf];k_exc)⟩,hNS,ES⟩
    have mC_NoSea:PySem.W.mroIn (KOf KX) 49 (.ref 37)=some false:=by (dsimp only [KOf];k_is)
    have mC_NoCell:PySem.W.mroIn (KOf KX) 49 (.ref 49)=some true:=by (dsimp only [KOf];k_is)
    have mC_NoDraught:PySem.W.mroIn (KOf KX) 49 (.ref 61)=some false:=by (dsimp only [KOf];k_is)
    have mC_NoDay:PySem.W.mroIn (KOf KX) 49 (.ref 73)=some false:=by (dsimp only [KOf];k_is)
    have mC_NoNotices:PySem.W.mroIn (KOf KX) 49 (.ref 85)=some false:=by (dsimp only [KOf];k_is)
    have mC_NoNumber:PySem.W.mroIn (KOf KX) 49 (.ref 97)=some false:=by (dsimp only [KOf];k_is)
    have mC_NoMark:PySem.W.mroIn (KOf KX) 49 (.ref 109)=some false:=by (dsimp only [KOf];k_is)
    have mC_NoChannel:PySem.W.mroIn (KOf KX) 49 (.ref 121)=some false:=by (dsimp only [KOf];k_is)
    have mC_NoSightings:PySem.W.mroIn (KOf KX) 49 (.ref 133)=some false:=by (dsimp only [KOf];k_is)
    have mC_NoFairway:PySem.W.mroIn (KOf KX) 49 (.ref 145)=some false:=by (dsimp only [KOf];k_is)
    have mC_NoSide:PySem.W.mroIn (KOf KX) 49 (.ref 157)=some false:=by (dsimp only [KOf];k_is)
    have mC_NoColumns:PySem.W.mroIn (KOf KX) 49 (.ref 169)=some false:=by (dsimp only [KOf];k_is)
    have mC_NoLine:PySem.W.mroIn (KOf KX) 49 (.ref 181)=some false:=by (dsimp only [KOf];k_is)
    have mC_There:PySem.W.mroIn (KOf KX) 49 (.ref 193)=some false:=by (dsimp only [KOf];k_is)
    have mC_Nothing:PySem.W.mroIn (KOf KX) 49 (.ref 205)=some false:=by (dsimp only [KOf];k_is)
    have mC_Unlike:PySem.W.mroIn (KOf KX) 49 (.ref 224)=some false:=by (dsimp only [KOf];k_is)
    have mC_NoText:PySem.W.mroIn (KOf KX) 49 (.ref 243)=some false:=by (dsimp only [KOf];k_is)
    have mC_TooMany:PySem.W.mroIn (KOf KX) 49 (.ref 262)=some false:=by (dsimp only [KOf];k_is)
    have EC:K2.ExKind (KOf KX) [("NoSea",37),("NoCell",49),("NoDraught",61),("NoDay",73),("NoNotices",85),("NoNumber",97),("NoMark",109),("NoChannel",121),("NoSightings",133),("NoFairway",145),("NoSide",157),("NoColumns",169),("NoLine",181),("There",193),("Nothing",205),("Unlike",224),("NoText",243),("TooMany",262)] 49 1:=by (refine' K2.Ex rfl (by decide) ?a ?b ?c ?d ?e ?f ⟨mC_NoSea,mC_NoCell,mC_NoDraught,mC_NoDay,mC_NoNotices,mC_NoNumber,mC_NoMark,mC_NoChannel,mC_NoSightings,mC_NoFairway,mC_NoSide,mC_NoColumns,mC_NoLine,mC_There,mC_Nothing,mC_Unlike,mC_NoText,mC_TooMany,trivial⟩ ⟨(fun z=>absurd z (by decide)),(fun _=>rfl),(fun z=>absurd z (by decide)),(fun z=>absurd z (by decide)),(fun z=>absurd z (by decide)),(fun z=>absurd z (by decide)),(fun z=>absurd z (by decide)),(fun z=>absurd z (by decide)),(fun z=>absurd z (by decide)),(fun z=>absurd z (by decide)),(fun z=>absurd z (by decide)),(fun z=>absurd z (by decide)),(fun z=>absurd z (by decide)),(fun z=>absurd z (by decide)),(fun z=>absurd z (by decide)),(fun z=>absurd z (by decide)),(fun z=>absurd z (by decide)),(fun z=>absurd z (by decide)),trivial⟩;(case a=>(dsimp only [KOf];k_is));(case b=>(dsimp only [KOf];k_is));(case c=>(dsimp only [KOf];k_is));(case d=>(dsimp only [KOf];k_is));(case e=>(dsimp only [KOf];k_is));(case f=>(dsimp only [KOf];k_is)))
    have hNC:∃tl,D3.mroK (KOf KX) 49=some (.ref 49::tl)∧(Value.ref 49::tl).contains (.ref 24)=true:=by (dsimp only [KOf];refine' ⟨_,K2.Fe ?l ?e,?c⟩;(case l=>k_is);(case e=>rfl);(case c=>decide))
    have BC:K2.Exn (KOf KX) [("NoSea",37),("NoCell",49),("NoDraught",61),("NoDay",73),("NoNotices",85),("NoNumber",97),("NoMark",109),("NoChannel",121),("NoSightings",133),("NoFairway",145),("NoSide",157),("NoColumns",169),("NoLine",181),("There",193),("Nothing",205),("Unlike",224),("NoText",243),("TooMany",262)] 24 49 "NoCell" 1:=⟨⟨by (dsimp only [KOf];k_is),by (dsimp only [KOf];k_exc)⟩,hNC,EC⟩
    have mR_NoSea:PySem.W.mroIn (KOf KX) 61 (.ref 37)=some false:=by (dsimp only [KOf];k_is)
    have mR_NoCell:PySem.W.mroIn (KOf KX) 61 (.ref 49)=some false:=by (dsimp only [KOf];k_is)
    have mR_NoDraught:PySem.W.mroIn (KOf KX) 61 (.ref 61)=some true:=by (dsimp only [KOf];k_is)
    have mR_NoDay:PySem.W.mroIn (KOf KX) 61 (.ref 73)=some false:=by (dsimp only [KOf];k_is)
    have mR_NoNotices:PySem.W.mroIn (KOf KX) 61 (.ref 85)=some false:=by (dsimp only [KOf];k_is)
    have mR_NoNumber:PySem.W.mroIn (KOf KX) 61 (.ref 97)=some false:=by (dsimp only [KOf];k_is)
    have mR_NoMark:PySem.W.mroIn (KOf KX) 61 (.ref 109)=some false:=by (dsimp only [KOf];k_is)
    have mR_NoChannel:PySem.W.mroIn (KOf KX) 61 (.ref 121)=some false:=by (dsimp only [KOf];k_is)
    have mR_NoSightings:PySem.W.mroIn (KOf KX) 61 (.ref 133)=some false:=by (dsimp only [KOf];k_is)
    have mR_NoFairway:PySem.W.mroIn (KOf KX) 61 (.ref 145)=some false:=by (dsimp only [KOf];k_is)
    have mR_NoSide:PySem.W.mroIn (KOf KX) 61 (.ref 157)=some false:=by (dsimp only [KOf];k_is)
    have mR_NoColumns:PySem.W.mroIn (KOf KX) 61 (.ref 169)=some false:=by (dsimp only [KOf];k_is)
    have mR_NoLine:PySem.W.mroIn (KOf KX) 61 (.ref 181)=some false:=by (dsimp only [KOf];k_is)
    have mR_There:PySem.W.mroIn (KOf KX) 61 (.ref 193)=some false:=by (dsimp only [KOf];k_is)
    have mR_Nothing:PySem.W.mroIn (KOf KX) 61 (.ref 205)=some false:=by (dsimp only [KOf];k_is)
    have mR_Unlike:PySem.W.mroIn (KOf KX) 61 (.ref 224)=some false:=by (dsimp only [KOf];k_is)
    have mR_NoText:PySem.W.mroIn (KOf KX) 61 (.ref 243)=some false:=by (dsimp only [KOf];k_is)
    have mR_TooMany:PySem.W.mroIn (KOf KX) 61 (.ref 262)=some false:=by (dsimp only [KOf];k_is)
    have ER:K2.ExKind (KOf KX) [("NoSea",37),("NoCell",49),("NoDraught",61),("NoDay",73),("NoNotices",85),("NoNumber",97),("NoMark",109),("NoChannel",121),("NoSightings",133),("NoFairway",145),("NoSide",157),("NoColumns",169),("NoLine",181),("There",193),("Nothing",205),("Unlike",224),("NoText",243),("TooMany",262)] 61 2:=by (refine' K2.Ex rfl (by decide) ?a ?b ?c ?d ?e ?f ⟨mR_NoSea,mR_NoCell,mR_NoDraught,mR_NoDay,mR_NoNotices,mR_NoNumber,mR_NoMark,mR_NoChannel,mR_NoSightings,mR_NoFairway,mR_NoSide,mR_NoColumns,mR_NoLine,mR_There,mR_Nothing,mR_Unlike,mR_NoText,mR_TooMany,trivial⟩ ⟨(fun z=>absurd z (by decide)),(fun z=>absurd z (by decide)),(fun _=>rfl),(fun z=>absurd z (by decide)),(fun z=>absurd z (by decide)),(fun z=>absurd z (by decide)),(fun z=>absurd z (by decide)),(fun z=>absurd z (by decide)),(fun z=>absurd z (by decide)),(fun z=>absurd z (by decide)),(fun z=>absurd z (by decide)),(fun z=>absurd z (by decide)),(fun z=>absurd z (by decide)),(fun z=>absurd z (by decide)),(fun z=>absurd z (by decide)),(fun z=>absurd z (by decide)),(fun z=>absurd z (by decide)),(fun z=>absurd z (by decide)),trivial⟩;(case a=>(dsimp only [KOf];k_is));(case b=>(dsimp only [KOf];k_is));(case c=>(dsimp only [KOf];k_is));(case d=>(dsimp only [KOf];k_is));(case e=>(dsimp only [KOf];k_is));(case f=>(dsimp only [KOf];k_is)))
    have hNR:∃tl,D3.mroK (KOf KX) 61=some (.ref 61::tl)∧(Value.ref 61::tl).contains (.ref 24)=true:=by (dsimp only [KOf];refine' ⟨_,K2.Fe ?l ?e,?c⟩;(case l=>k_is);(case e=>rfl);(case c=>decide))
    have BR:K2.Exn (KOf KX) [("NoSea",37),("NoCell",49),("NoDraught",61),("NoDay",73),("NoNotices",85),("NoNumber",97),("NoMark",109),("NoChannel",121),("NoSightings",133),("NoFairway",145),("NoSide",157),("NoColumns",169),("NoLine",181),("There",193),("Nothing",205),("Unlike",224),("NoText",243),("TooMany",262)] 24 61 "NoDraught" 2:=⟨⟨by (dsimp only [KOf];k_is),by (dsimp only [KOf];k_exc)⟩,hNR,ER⟩
    have mD_NoSea:PySem.W.mroIn (KOf KX) 73 (.ref 37)=some false:=by (dsimp only [KOf];k_is)
    have mD_NoCell:PySem.W.mroIn (KOf KX) 73 (.ref 49)=some false:=by (dsimp only [KOf];k_is)
    have mD_NoDraught:PySem.W.mroIn (KOf KX) 73 (.ref 61)=some false:=by (dsimp only [KOf];k_is)
    have mD_NoDay:PySem.W.mroIn (KOf KX) 73 (.ref 73)=some true:=by (dsimp only [KOf];k_is)
    have mD_NoNotices:PySem.W.mroIn (KOf KX) 73 (.ref 85)=some false:=by (dsimp only [KOf];k_is)
    have mD_NoNumber:PySem.W.mroIn (KOf KX) 73 (.ref 97)=some false:=by (dsimp only [KOf];k_is)
    have mD_NoMark:PySem.W.mroIn (KOf KX) 73 (.ref 109)=some false:=by (dsimp only [KOf];k_is)
    have mD_NoChannel:PySem.W.mroIn (KOf KX) 73 (.ref 121)=some false:=by (dsimp only [KOf];k_is)
    have mD_NoSightings:PySem.W.mroIn (KOf KX) 73 (.ref 133)=some false:=by (dsimp only [KOf];k_is)
    have mD_NoFairway:PySem.W.mroIn (KOf KX) 73 (.ref 145)=some false:=by (dsimp only [KOf];k_is)
    have mD_NoSide:PySem.W.mroIn (KOf KX) 73 (.ref 157)=some false:=by (dsimp only [KOf];k_is)
    have mD_NoColumns:PySem.W.mroIn (KOf KX) 73 (.ref 169)=some false:=by (dsimp only [KOf];k_is)
    have mD_NoLine:PySem.W.mroIn (KOf KX) 73 (.ref 181)=some false:=by (dsimp only [KOf];k_is)
    have mD_There:PySem.W.mroIn (KOf KX) 73 (.ref 193)=some false:=by (dsimp only [KOf];k_is)
    have mD_Nothing:PySem.W.mroIn (KOf KX) 73 (.ref 205)=some false:=by (dsimp only [KOf];k_is)
    have mD_Unlike:PySem.W.mroIn (KOf KX) 73 (.ref 224)=some false:=by (dsimp only [KOf];k_is)
    have mD_NoText:PySem.W.mroIn (KOf KX) 73 (.ref 243)=some false:=by (dsimp only [KOf];k_is)
    have mD_TooMany:PySem.W.mroIn (KOf KX) 73 (.ref 262)=some false:=by (dsimp only [KOf];k_is)
    have ED:K2.ExKind (KOf KX) [("NoSea",37),("NoCell",49),("NoDraught",61),("NoDay",73),("NoNotices",85),("NoNumber",97),("NoMark",109),("NoChannel",121),("NoSightings",133),("NoFairway",145),("NoSide",157),("NoColumns",169),("NoLine",181),("There",193),("Nothing",205),("Unlike",224),("NoText",243),("TooMany",262)] 73 3:=by (refine' K2.Ex rfl (by decide) ?a ?b ?c ?d ?e ?f ⟨mD_NoSea,mD_NoCell,mD_NoDraught,mD_NoDay,mD_NoNotices,mD_NoNumber,mD_NoMark,mD_NoChannel,mD_NoSightings,mD_NoFairway,mD_NoSide,mD_NoColumns,mD_NoLine,mD_There,mD_Nothing,mD_Unlike,mD_NoText,mD_TooMany,trivial⟩ ⟨(fun z=>absurd z (by decide)),(fun z=>absurd z (by decide)),(fun z=>absurd z (by decide)),(fun _=>rfl),(fun z=>absurd z (by decide)),(fun z=>absurd z (by decide)),(fun z=>absurd z (by decide)),(fun z=>absurd z (by decide)),(fun z=>absurd z (by decide)),(fun z=>absurd z (by decide)),(fun z=>absurd z (by decide)),(fun z=>absurd z (by decide)),(fun z=>absurd z (by decide)),(fun z=>absurd z (by decide)),(fun z=>absurd z (by decide)),(fun z=>absurd z (by decide)),(fun z=>absurd z (by decide)),(fun z=>absurd z (by decide)),trivial⟩;(case a=>(dsimp only [KOf];k_is));(case b=>(dsimp only [KOf];k_is));(case c=>(dsimp only [KOf];k_is));(case d=>(dsimp only [KOf];k_is));(case e=>(dsimp only [KOf];k_is));(case f=>(dsimp only [KOf];k_is)))
    have hND:∃tl,D3.mroK (KOf KX) 73=some (.ref 73::tl)∧(Value.ref 73::tl).contains (.ref 24)=true:=by (dsimp only [KOf];refine' ⟨_,K2.Fe ?l ?e,?c⟩;(case l=>k_is);(case e=>rfl);(case c=>decide))
    have BD:K2.Exn (KOf KX) [("NoSea",37),("NoCell",49),("NoDraught",61),("NoDay",73),("NoNotices",85),("NoNumber",97),("NoMark",109),("NoChannel",121),("NoSightings",133),("NoFairway",145),("NoSide",157),("NoColumns",169),("NoLine",181),("There",193),("Nothing",205),("Unlike",224),("NoText",243),("TooMany",262)] 24 73 "NoDay" 3:=⟨⟨by (dsimp only [KOf];k_is),by (dsimp only [KOf];k_exc)⟩,hND,ED⟩
    have hM:∃tl,D3.mroK (KOf KX) 24=some (.ref 24::tl)∧tl.contains (.type "BaseException")=true:=by (dsimp only [KOf];refine' ⟨_,K2.Fe ?l ?e,?c⟩;(case l=>k_is);(case e=>rfl);(case c=>decide))
    have Mk:K2.MkIs (KOf KX) 24:=⟨⟨by (dsimp only [KOf];k_is),by (dsimp only [KOf];k_exc)⟩,hM⟩
    obtain ⟨f,fd,F,a,kp⟩:=X9.ex
    have e0:=hmg.symm.trans (PySem.W.mg_of KX G a)
    cases e0
    obtain ⟨oc,od,kV,doc,pm,an,cdv,ct,osl,efd,lk,hcd⟩:=id F.ex
    refine ⟨fd,fun s u=>by (subst efd;exact .of_eq rfl),fun base kb nb=>K2.Uj KX G N Z BS BC BR BD Mk J_L_refused Xl Xm Xn Xo Xp Xq Xr Xs Xt Xu Xv Xw Xx Xy Xz X0 X2 X3 X4 X5 X6 X7 W3 X8 F⟩

