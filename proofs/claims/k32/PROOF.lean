import PyProof.Rows.All
import Wide.All
import OpenK.AllK
import Wide.FinOn
import Lean
import PyProof.EqAt
import PyProof.EqKinds
import PyProof.TupleCall
import OpenK.KOwn
import KE.KIsAll
import KE.KRevIter
import KE.KDictList
import PyProof.RulesAs
import PyProof.Rows.SumAny
import PyProof.Rows.SortRunsK
import KE.KSortTup
import KE.KDictOf
import PyProof.AttrMissHeap
import PyProof.EnumMake
import PyProof.EnumFor
import PyProof.EnumStmt
import PySem.Challenge.RW_laidmarks_k32_ways_one_by_one
set_option linter.all false
set_option compiler.extract_closed false
set_option Elab.async false
set_option maxRecDepth 100000
set_option maxHeartbeats 4000000
namespace PySem.W.Fast
def tw16454050455990217222:=0
def tw17252155873280643575:=0
def tw6156786128115013299:=0
def tw4320011926871928962:=0
def tw7345752282873728955:=0
def tw5933009290432290994:=0
def tw13041086884432501167:=0
def tw14833082362529266215:=0
def tw12247299372491818931:=0
def tw10144923042656416611:=0
def tw8959952118894351738:=0
def tw2393251053173572373:=0
def tw6599315024161470479:=0
def tw850997495326993946:=0
def tw8197042342092272920:=0
def tw4771857869686397029:=0
def tw3221195212630628583:=0
def tw9466301515064384784:=0
def tw15341178232300954749:=0
def tw6410979100236493060:=0
def tw1526331282391646732:=0
def tw5822373983903026990:=0
def tw12912693843719744589:=0
def tw17610588311225433525:=0
def tw6498255328993266065:=0
def tw13425234028501979972:=0
def tw3274927469912499329:=0
def tw17994355468856755915:=0
def tw17166910347935029297:=0
def tw5775685197364064614:=0
def tw3698190876481667901:=0
def tw137748292913194047:=0
def tw8379926513257976435:=0
def tw13319365234262986539:=0
def tw8209034449813183615:=0
def tw12146861222986408295:=0
def tw10445438157465636264:=0
def tw878099925166710371:=0
def tw12684328145754121539:=0
def tw12590894832411620823:=0
def tw10273244263091858304:=0
def tw7765382255062781189:=0
def tw8880211835485824674:=0
def tw8587070982458106629:=0
def tw13956319913563324953:=0
def tw9560225702478737451:=0
def tw13152528986064978775:=0
def tw14394516080099556715:=0
def tw3627014352823138167:=0
def tw12376168587735097228:=0
def tw12549947808323126631:=0
def tw15566233375407282433:=0
def tw3441324704445611242:=0
def tw6091260475443379036:=0
def tw15709341188664283393:=0
def tw17559866872354276076:=0
def tw17672990261718948399:=0
def tw18238026476310956399:=0
def tw18429021619020749231:=0
def tw10881754315014049777:=0
def tw9635728421576990661:=0
def tw8589272187425491633:=0
def tw14190219769961629841:=0
def tw10628332638686340918:=0
def tw10603276400997980675:=0
def tw8689388168832265163:=0
def tw6638042727044105152:=0
def tw16676814268404463106:=0
def tw15964597289567288030:=0
def tw11977961443569531877:=0
def tw18358118021814444748:=0
def tw3410131164230243581:=0
def tw12839445294036909957:=0
def tw1892707059545641373:=0
def tw13512017627253813751:=0
def tw7201321791553821947:=0
def tw192867219516733802:=0
def tw18248169301903983270:=0
def tw8468532019794415168:=0
def tw7330441889460186350:=0
def tw8263617025043762038:=0
def tw3553136522724866991:=0
def tw3566371586488661818:=0
def tw1677517219451979110:=0
def tw12038089819324390459:=0
def tw17939192565511045430:=0
def tw9013699600113400572:=0
def tw15464903527053431612:=0
def tw8133067394242976346:=0
def tw7000694639490651708:=0
def tw10006896739030838246:=0
def tw15793206036933900250:=0
def tw4923095065857381500:=0
def tw4719318306400795882:=0
def tw16012968857297768182:=0
def tw572596250558591278:=0
def tw18273856880698666522:=0
def tw10401580131299991286:=0
def tw3074203148003744807:=0
def tw12043279750461451893:=0
def tw7907019754613547643:=0
def tw5666442426930462946:=0
def tw10097004352875097617:=0
def tw4001351440246166761:=0
def tw10537524198694124412:=0
def tw258356026154417576:=0
def tw12325411695138539845:=0
def tw4601602525544952482:=0
def tw10349555224467167576:=0
def tw3614015773039560340:=0
def tw4483487325797306075:=0
def tw1534164256177596172:=0
def tw4376465265175071094:=0
def tw5091214187142527583:=0
def tw14255431808010350954:=0
def tw14165336026732904670:=0
def tw11033227161376316684:=0
def tw896373424172701001:=0
def tw1039635592737323546:=0
def tw11493654046916249956:=0
def tw14196761386338663032:=0
def tw9826836290338325426:=0
def tw16888782841670980295:=0
def tw16615589958605586359:=0
def tw6861117576851369284:=0
def tw8159165721612110039:=0
def tw18082423918055049154:=0
def tw16497545539439011371:=0
def tw5891367592202806444:=0
def tw2405540241773126407:=0
def tw6293887865860743312:=0
def tw13577334474219243514:=0
def tw3060463461718946344:=0
def tw17533289355917798707:=0
def tw18273365073832924828:=0
def tw7510147464756402635:=0
def tw3913190142401660121:=0
def tw15932678876848592137:=0
def tw307142822520213884:=0
def tw7337073963727791785:=0
def tw3564072000618328987:=0
def tw6119818328039996787:=0
def tw505107855472299357:=0
def tw10509045119675418511:=0
def tw13522959962393625185:=0
def tw14876268011458083084:=0
def tw17754808094169930570:=0
def tw9373314262327282336:=0
def tw4221898675187223101:=0
def tw10544184474861564649:=0
def tw13766667444306914934:=0
def tw9237101967757426196:=0
def tw5086613355136463358:=0
def tw17302479489104658160:=0
def tw4570032797390056834:=0
def tw6051731157025825923:=0
def tw4743290236323063681:=0
def tw1537670977007744525:=0
def tw7920186132619644522:=0
def tw9613911420833232380:=0
def tw2590262820611265948:=0
def tw3045911115939764341:=0
def tw7432994085721887595:=0
def tw9913346298218049032:=0
def tw17890574410875961379:=0
def tw6783193600334041781:=0
def tw9139247568843858876:=0
def tw7001578404402283747:=0
def tw10213630091272389914:=0
def tw4338826701039138797:=0
def tw9663014399634550855:=0
def tw701145191076221186:=0
def tw17274683434659215901:=0
def tw8256355120677031874:=0
def tw7408472238519441677:=0
def tw14508303364661197127:=0
def tw8121615832738349580:=0
def tw10249926865048927498:=0
def tw11786666741220264680:=0
def tw10815916260659874044:=0
def tw11211242926818054209:=0
def tw888214756380225580:=0
def tw8846881570320075815:=0
def tw10579680334924523662:=0
def tw11452052165450203193:=0
def tw10561631233698228375:=0
def tw11582747755440052083:=0
def tw8085892808187582658:=0
def tw5237956760768441982:=0
def tw523546438072409266:=0
def tw7061742372595829136:=0
def tw12381321955659489042:=0
def tw11624601043395454361:=0
def tw6780610762619914343:=0
def tw16490528591844274294:=0
def tw1073719005650501362:=0
def tw6127572377492732282:=0
def tw9761542599435652124:=0
def tw16997895369152237283:=0
def tw14734326333575501132:=0
def tw2323644938906874114:=0
def tw7630610926369629286:=0
def tw1724944843703703319:=0
def tw1708755642000433078:=0
def tw10792787230966424411:=0
def tw627181336203751833:=0
def tw7074390516625050563:=0
def tw16369069298800884496:=0
def tw15244496494605035520:=0
def tw17697278720842278456:=0
def tw6882227434861202912:=0
def tw15450468730492169723:=0
def tw9557179533241599840:=0
def tw16885379961779754505:=0
def tw13468819382839832733:=0
def tw304707766852585220:=0
def tw12503947932800381254:=0
def tw1170033908850230899:=0
def tw17660093245241103145:=0
def tw2322395826547362602:=0
def tw10364823126983057311:=0
def tw6228875362215921183:=0
def tw34993738403759348:=0
def tw14894283786989324631:=0
def tw7100728636481601444:=0
def tw494075985098271861:=0
def tw13314313102986809837:=0
def tw7704471649031073141:=0
def tw13979188243618276297:=0
def tw8966903931484327743:=0
def tw7119140349114708306:=0
def tw472343699339673796:=0
def tw4956239847091652307:=0
def tw12392821315082281457:=0
def tw7180953474426235244:=0
def tw15741865347575300432:=0
def tw7134334556854682715:=0
def tw17459489498872710277:=0
def tw12671079366774202474:=0
def tw10697188398992642658:=0
def tw1840643153237961825:=0
def tw5753941275400917656:=0
def tw18023319346448991483:=0
def tw3327303916794046659:=0
def tw6405665366654364524:=0
def tw14626448455607989191:=0
def tw4517118362783403878:=0
def tw1657814573867625568:=0
def tw17979649828564479775:=0
def tw4429930521961822017:=0
def tw12232366292216572000:=0
def tw15078441186242403062:=0
def tw7609819570236922791:=0
def tw1455884076987606515:=0
def tw17707389529780033321:=0
def tw857328888131015980:=0
def tw7211763386926177946:=0
def tw17881638774235975349:=0
def tw5801439358738744307:=0
def tw4154345840713216650:=0
def tw1489736390769093809:=0
def tw3472486398162869408:=0
def tw6615298726573947504:=0
def tw16976884499729968473:=0
def tw3413453132327369418:=0
def tw1022223957833194479:=0
def tw10097249892348662455:=0
def tw11281750228949579427:=0
def tw3436037852693748827:=0
def tw3825914660114302819:=0
def tw18209963323040825194:=0
def tw14894652889092972493:=0
def tw10699276342765655868:=0
def tw11515349530326356016:=0
def tw3406126788041697410:=0
def tw5562970080165055742:=0
def tw11532998389896288447:=0
def tw6938625605759177293:=0
def tw17946573341054860536:=0
def tw16168517595964374684:=0
def tw10541271293200835620:=0
def tw1653036366604813610:=0
def tw17211088773342645675:=0
def tw4854494792237564295:=0
def tw15937386394893680060:=0
def tw9410593668957923367:=0
def tw5363114750418833214:=0
def tw14398204216549432205:=0
def tw2754542240151430472:=0
def tw3558299999367356130:=0
def tw17775978404260488289:=0
def tw2060304143102406688:=0
def tw4564220074804315645:=0
def tw14410116059677801231:=0
def tw2432916595562773820:=0
def tw11458330394734342596:=0
def tw17704382489645814692:=0
def tw8369223492251766649:=0
def tw4153482555007106941:=0
def tw11910685284249640874:=0
def tw13823508656662653413:=0
def tw3293295072223443860:=0
def tw13880193427816876115:=0
def tw8756498301914846315:=0
def tw8212492154139016738:=0
def tw17144061751105143988:=0
def tw15812450495843664913:=0
def tw8911549355530837565:=0
def tw14779605086260872677:=0
def tw6591066010992193591:=0
def tw14188625756202173307:=0
def tw13510877330237672475:=0
def tw8006187813227758583:=0
def tw14129325150257535661:=0
def tw7280022507682323592:=0
def tw10587190521112919662:=0
def tw2721428782455662207:=0
def tw17431877020664156490:=0
def tw6392687139085448079:=0
def tw16653613158036631306:=0
def tw15558412024075371710:=0
def tw12738344055363479538:=0
def tw3225433916726722654:=0
def tw17999771169642999545:=0
def tw4146165338703666865:=0
def tw927682006111768643:=0
def tw3753589345425262725:=0
def tw4770599361420972436:=0
def tw16082635915888769261:=0
def tw9988723802565870488:=0
def tw12086283509058623384:=0
def tw9684589624218691938:=0
def tw12418696453976660936:=0
def tw10506649342073471313:=0
def tw11664924556531522979:=0
def tw3750446505981548057:=0
def tw5952131650517355083:=0
def tw714360198090424872:=0
def tw9898156364947723435:=0
def tw5033659133262150034:=0
def tw17054922741808971756:=0
def tw1077115173293874251:=0
def tw12942062998661756922:=0
def tw5782853642133035906:=0
def tw7634743713911628675:=0
def tw14456913223788951952:=0
def tw16496574660153054398:=0
def tw17246050144102450365:=0
def tw11936642839479583124:=0
def tw17040038689691829163:=0
def tw2397798260981406214:=0
def tw6547369482377779445:=0
def tw10537084920533725744:=0
def tw16394437945792644496:=0
def tw12463490168175953936:=0
def tw10062704492999566080:=0
def tw14990484359586126434:=0
def tw514542663519355511:=0
def tw12897120239062623842:=0
def tw4822542723055738351:=0
def tw12676306247864551801:=0
def tw16504806497359163471:=0
def tw9449924179073169274:=0
def tw16698617431822533513:=0
def tw16489452718932426902:=0
def tw10309637991503404155:=0
def tw16446681385291968812:=0
def tw11549005570919535915:=0
def tw7318736234342731796:=0
def tw11438346432657830850:=0
def tw9569875955717967472:=0
def tw13772994208241854645:=0
def tw6686824484911222542:=0
def tw6492563185641506596:=0
def tw11308811163768913014:=0
def tw14315308422329314818:=0
def tw9859498465533190954:=0
def tw15606612369185316068:=0
def tw685749851017033846:=0
def tw15138387345673219902:=0
def tw1894386626270409892:=0
def tw2418275463660781445:=0
def tw5261845193094497933:=0
def tw14473899253360904193:=0
def tw5498618690678584691:=0
def tw1533100943159438305:=0
def tw10256064122786496776:=0
def tw11797172172994862166:=0
def tw10134486665212525439:=0
def tw5983225512440980520:=0
def tw4893289195714230400:=0
def tw8734846483963864930:=0
def tw13881538463497177521:=0
def tw7584012565666307477:=0
def tw10938079611947339839:=0
def tw13278086890924104522:=0
def tw5842685925353265078:=0
def tw7511737248479011516:=0
def tw11222727975862443074:=0
def tw4901731315927454370:=0
def tw14637481456050481897:=0
def tw8400485392000485460:=0
def tw15503945389342175485:=0
def tw456364527592992056:=0
def tw12467629620985523402:=0
def tw6185037675314033408:=0
def tw16691601388347487638:=0
def tw6675335013097763543:=0
def tw6226792983180061127:=0
def tw5278211562791914210:=0
def tw16016132439615256375:=0
def tw5026485917079182891:=0
def tw14436698508251021536:=0
def tw2791348719443625830:=0
def tw5068347514281105303:=0
def tw2311451124464821730:=0
def tw11617433171230143779:=0
def tw2694971117441848763:=0
def tw17387218063901728456:=0
def tw2435018344470897025:=0
def tw11581289030587664553:=0
def tw13011405344189694419:=0
def tw15051695443167833372:=0
def tw220171274446474424:=0
def tw8114873727778024440:=0
def tw868699593560327438:=0
def tw7214151454721905783:=0
def tw14276636078191087743:=0
def tw4386069520856357563:=0
def tw15070876413627543566:=0
def tw11306509751178447239:=0
def tw3689006926160612802:=0
def tw4494699969941891751:=0
def tw2971441976062486426:=0
def tw17338321462210233061:=0
def tw14081762236824548727:=0
def tw8049935452775924310:=0
def tw12587911368060817014:=0
def tw9594785242681909651:=0
def tw10169992711111098202:=0
def tw5552956673656848566:=0
def tw13959051104110490442:=0
def tw16839836024072470354:=0
def tw7532816425785419103:=0
def tw9051876222731466834:=0
def tw6998892994122758545:=0
def tw5798410184277362562:=0
def tw3141821468830782386:=0
def tw11549056007098398271:=0
def tw13452943651036576879:=0
def tw1117955452092456244:=0
def tw9934310040932455901:=0
def tw7316022981390382429:=0
def tw11234727253733435418:=0
def tw15506549497966028095:=0
def tw7806818572271162869:=0
def tw10278219930684361220:=0
def tw7189720952634460110:=0
def tw12250241657874002039:=0
def tw15974841464114393066:=0
def tw4119209436398587593:=0
def tw10647631806739175758:=0
def tw10387235484484687692:=0
def tw1688879368751952661:=0
def tw10551301677322192508:=0
def tw1946774338789811892:=0
def tw15768275075828625668:=0
def tw8192655125178585555:=0
def tw2887435226813980815:=0
def tw6755743563449092236:=0
def tw7382753407235520967:=0
def tw6915862942829457771:=0
def tw18443150266722387486:=0
def tw17852614686638657403:=0
def tw10608201568952041332:=0
def tw17066895720959286450:=0
def tw4984951705561757882:=0
def tw1641339525160533487:=0
def tw8218365037582219979:=0
def tw575558816627313269:=0
def tw9395153418963351638:=0
def tw9842866852663070908:=0
def tw6888904209584593285:=0
def tw12762443534735196666:=0
def tw11159818752454939163:=0
def tw8676052042326792786:=0
def tw15817991169294076730:=0
def tw12858304556035728918:=0
def tw8062493211068393621:=0
def tw525413943479045267:=0
end PySem.W.Fast
namespace L2
open PySem PySem.Spec PyProof.Rows
abbrev Key:=Sum Int Str
def Jx:Key→Value→Bool
 |.inl k,v=>Value.isInt k v
 |.inr x,v=>Value.isStrOf x v
def keyH(w:World):Key→Int
 |.inl k=>hashInt k
 |.inr x=>hashStr w x
theorem Az:∀{k:Key} {v:Value},Jx k v=true→(∃i t,k=Sum.inl i∧v=Value.int i t)∨(∃x t,k=Sum.inr x∧v=Value.str x t)
 |.inl i,v,h=>by
  obtain⟨t,e⟩:=Value.isInt_shape (k:=i) (v:=v) h;exact .inl ⟨i,t,rfl,e⟩
 |.inr x,v,h=>by
  obtain⟨t,e⟩:=Value.isStrOf_shape (x:=x) (v:=v) h;exact .inr ⟨x,t,rfl,e⟩
theorem Sf(i:Int)(t:Tok):Jx (.inl i) (.int i t)=true:=by simp[Jx,Value.isInt]
theorem Se(x:Str)(t:Tok):Jx (.inr x) (.str x t)=true:=by simp[Jx,Value.isStrOf]
theorem Ad9(a b:Int):decide ((Sum.inl a:Key)=Sum.inl b)=(a == b):=by
 by_cases e:a=b
 ·subst e;simp
 ·have h:¬(Sum.inl a:Key)=Sum.inl b:=fun q=>e (Sum.inl.inj q);rw[decide_eq_false h];exact(beq_eq_false_iff_ne.mpr e).symm
theorem Ad6(a b:Str):decide ((Sum.inr a:Key)=Sum.inr b)=decide (a=b):=by
 by_cases e:a=b
 ·subst e;simp
 ·have h:¬(Sum.inr a:Key)=Sum.inr b:=fun q=>e (Sum.inr.inj q);rw[decide_eq_false h,decide_eq_false e]
theorem Ad8(a:Int)(b:Str):decide ((Sum.inl a:Key)=Sum.inr b)=false:=decide_eq_false (fun q=>nomatch q)
theorem Ad7(a:Str)(b:Int):decide ((Sum.inr a:Key)=Sum.inl b)=false:=decide_eq_false (fun q=>nomatch q)

def Ap(prog:Program)(w:World):PySem.KeyKind prog w Key where
 is:=Jx
 hash:=keyH w
 inj:=fun v a b ha hb=>by
  rcases Az ha with ⟨i,t,rfl,rfl⟩|⟨x,t,rfl,rfl⟩
  ·rcases Az hb with ⟨j,u,rfl,e⟩|⟨y,u,rfl,e⟩
   ·injection e with e1 _;rw[e1]
   ·exact nomatch e
  ·rcases Az hb with ⟨j,u,rfl,e⟩|⟨y,u,rfl,e⟩
   ·exact nomatch e
   ·injection e with e1 _;rw[e1]
 byValue:=fun k v h=>by
  rcases Az h with ⟨i,t,rfl,rfl⟩|⟨x,t,rfl,rfl⟩<;>rfl
 pyHash:=fun hv h=>by
  rcases Az hv with ⟨i,t,rfl,rfl⟩|⟨x,t,rfl,rfl⟩
  ·exact wpAny_pyHash_int h
  ·exact wpAny_pyHash_str h
 eqBool:=fun hu hv h=>by
  rcases Az hu with ⟨i,t,rfl,rfl⟩|⟨x,t,rfl,rfl⟩
  ·rcases Az hv with ⟨j,u,rfl,rfl⟩|⟨y,u,rfl,rfl⟩
   ·rw[Ad9] at h;exact wpAny_eqBool_int h
   ·rw[Ad8] at h;exact SeqAt.EqAt.int_str i t y u _ _ _ _ h
  ·rcases Az hv with ⟨j,u,rfl,rfl⟩|⟨y,u,rfl,rfl⟩
   ·rw[Ad7] at h;exact SeqAt.EqAt.str_int x t j u _ _ _ _ h
   ·rw[Ad6] at h;exact wpAny_eqBool_str h
 «strs»:=fun k x t v h=>by
  rcases Az h with ⟨i,u,rfl,e⟩|⟨y,u,rfl,e⟩
  ·exact nomatch e
  ·injection e with e1 _;subst e1;cases v<;>rfl

theorem N1(prog:Program)(w:World)(i:Int)(t:Tok):(Ap prog w).is (.inl i) (.int i t)=true:=Sf i t
theorem N0(prog:Program)(w:World)(x:Str)(t:Tok):(Ap prog w).is (.inr x) (.str x t)=true:=Se x t
end L2
namespace L2
open PySem PySem.Spec PyProof.Rows
inductive V where
 |non|bl (b:Bool)|int (i:Int)|str (x:Str)|byt (b:Array UInt8)|flt (b:UInt64)|ref (a:Addr)|ty (n:String)
 deriving DecidableEq

def RelV:V→Value→Prop
 |.non,u=>u=Value.none
 |.bl b,u=>u=Value.bool b
 |.int i,u=>∃t,u=Value.int i t
 |.str x,u=>∃t,u=Value.str x t
 |.byt b,u=>∃t,u=Value.bytes b t
 |.flt b,u=>∃t,u=Value.float b t
 |.ref a,u=>u=Value.ref a
 |.ty n,u=>u=Value.type n

abbrev Vals:List V→List Value→Prop:=Paired RelV
theorem Vals.length{xs:List V}{us:List Value}(r:Vals xs us):xs.length=us.length:=Paired.length r
theorem Vals.get:∀{xs:List V} {us:List Value} {i:Nat} {x:V},Vals xs us→xs[i]? = some x→∃u,us[i]? = some u∧RelV x u
 |_,_,_,_,.nil,e=>by simp at e
 |_,_,0,_,.cons r _,e=>by simp at e;subst e;exact⟨_,rfl,r⟩
 |_,_,i+1,x,.cons _ t,e=>by
  obtain⟨u,h1,h2⟩:=Vals.get (i:=i) (x:=x) t (by simpa using e)
  exact⟨u,by simpa using h1,h2⟩
theorem Vals.set{x:V}{u:Value}(r:RelV x u):∀{xs:List V} {us:List Value} (i:Nat),Vals xs us→Vals (xs.set i x) (us.set i u)
 |_,_,_,.nil=>.nil
 |_,_,0,.cons _ t=>.cons r t
 |_,_,i+1,.cons q t=>.cons q (Vals.set r i t)
theorem Vals.append:∀{xs ys:List V} {us ws:List Value},Vals xs us→Vals ys ws→Vals (xs++ys) (us++ws)
 |_,_,_,_,.nil,s=>s
 |_,_,_,_,.cons r t,s=>.cons r (Vals.append t s)
theorem Vals.take:∀{xs:List V} {us:List Value} (n:Nat),Vals xs us→Vals (xs.take n) (us.take n)
 |_,_,0,_=>.nil
 |_,_,_+1,.nil=>.nil
 |_,_,n+1,.cons r t=>.cons r (Vals.take n t)
theorem Vals.drop:∀{xs:List V} {us:List Value} (n:Nat),Vals xs us→Vals (xs.drop n) (us.drop n)
 |_,_,0,r=>r
 |_,_,_+1,.nil=>.nil
 |_,_,n+1,.cons _ t=>Vals.drop n t
def RelO:Option V→Option Value→Prop
 |some v,some u=>RelV v u
 |none,none=>True
 |_,_=>False
def KV{κ:Type}:List (κ×V)→List (κ×Value)→Prop:=Paired fun(p:κ×V) (q:κ×Value)=>p.1=q.1∧RelV p.2 q.2

def kV:Key→V
 |.inl i=>.int i
 |.inr x=>.str x

inductive HO where
 /-- a list -/
 |lst (xs:List V)
 /-- a tuple (never changes) -/
 |tup (xs:List V)
 /-- a dict whose keys are ints and texts;one whose keys are tuples of ints and texts (the empty one is both) -/
 |dK (kvs:List (Key×V))|dT (kvs:List (List Key×V))
 /-- a set of ints: its members,its size -/
 |set (S:Int→Bool) (n:Nat)
 /-- an instance of the class at C,its dict at dx,its attributes -/
 |ins (C dx:Addr) (fs:List (Str×V))
 /-- the dict of the instance at x -/
 |own (x:Addr)
 /-- the dict of an exception -/
 |xd (fs:List (Str×V))
 /-- a bound method,f of x -/
 |met (f x:Addr)
 /-- a range object lo,lo+1,.. below hi -/
 |rng (lo hi:Int)
 /-- a thing that is known to the object (the script;a dict while a loop walks it): read,never written while it is so -/
 |frz (o:Obj) (u:HO)
 /-- a code object's table -/
 |tbl (ps:Array Value)
 /-- any other thing,by what is true of its one object (a def of one's own: SetO a S n:=HO.ext fun h=>..) -/
 |ext (φ:Heap→Prop)

abbrev Hp:=Addr→Option HO
def upd(H:Hp)(a:Addr)(o:HO):Hp:=fun b=>if b=a then some o else H b
theorem Af{H:Hp}{a:Addr}{o:HO}:upd H a o a=some o:=by unfold upd;rw[if_pos rfl]
theorem Ae{H:Hp}{a b:Addr}{o:HO}(h:b≠a):upd H a o b=H b:=by unfold upd;rw[if_neg h]
theorem Yf{H:Hp}{a:Addr}{o u:HO}:upd (upd H a o) a u=upd H a u:=by
 funext b;unfold upd;split<;>rfl
theorem Di{H:Hp}{a b:Addr}{o u:HO}(h:H a=some o)(h':H b=some u)(d:o≠u):a≠b:=by
 intro e;subst e;rw[h] at h';exact d (Option.some.inj h')
theorem Aj{H:Hp}{a b:Addr}{o:HO}(h:H a=some o)(h':H b=none):a≠b:=by
 intro e;subst e;rw[h] at h';cases h'

section
variable(P:Program)(w:World)
def ObjOk(H:Hp)(h:Heap)(a:Addr):HO→Prop
 |.lst xs=>xs.length≤sizeLine∧∃(its:List Value) (n:Nat),Vals xs its∧h.get? a=some { cls:=.type "list",data:=.seq its.toArray n }
 |.tup xs=>xs.length≤sizeLine∧∃its:List Value,Vals xs its∧IsTup h a its.toArray
 |.dK kvs=>kvs.length≤sizeLine∧(a == sysModules)=false∧∃vs,KV kvs vs∧h.DictOf (Ap P w) a vs
 |.dT kvs=>kvs.length≤sizeLine∧(a == sysModules)=false∧∃xs:List (List Key×Addr×Value),
   Paired (fun(p:List Key×V) (q:List Key×Addr×Value)=>p.1=q.1∧H q.2.1=some (.tup (p.1.map kV))∧RelV p.2 q.2.2) kvs xs∧
   ∃o es ep,h.get? a=some o∧o.ExactDict∧o.data=.dict es ep∧es.toList=xs.map (entryOfKey (tupleKind (Ap P w)))∧(xs.map (·.1)).Nodup
 |.set S n=>h.SetOf (intKind P w) a S n
 |.ins C dx fs=>H dx=some (.own a)∧fs.length≤1000∧dx≠a∧h.get? a=some (W.instObj C dx)∧
   ∃mA,h.Ns1 dx mA∧(∀f,RelO (fs.lookup f) (mA f))∧PySem.Within mA (fs.map (·.1))
 |.own _=>∃o,h.get? a=some o
 |.xd fs=>∃mA,h.Ns1 a mA∧∀f,RelO (fs.lookup f) (mA f)
 |.rng lo hi=>∃t u v,h.get? a=some { cls:=.type "range",data:=.fields #[.int lo t,.int hi u,.int 1 v] }
 |.frz o u=>h.get? a=some o∧ObjOk H h a u
 |.tbl ps=>h.get? a=some { cls:=.none,data:=.fields ps }
 |.met f x=>h.get? a=some (W.methodObj (.ref f) (.ref x))
 |.ext φ=>φ h∧(∃o,h.get? a=some o)∧∀h1 h2:Heap,φ h1→(∀o,h1.get? a=some o→h2.get? a=some o)→φ h2
def HOk(H:Hp)(h:Heap):Prop:=∀a o,H a=some o→ObjOk P w H h a o
end
section
variable{P:Program}{w:World}{H H':Hp}{h h':Heap}{a:Addr}{o:HO}
theorem ObjOk.lt(x:ObjOk P w H h a o):a<h.objs.size:=by
 cases o with
 |lst xs=>obtain⟨_,_,_,_,e⟩:=x;exact Heap.lt_size e
 |tup xs=>obtain⟨_,_,_,p⟩:=x;exact p.lt
 |dK kvs=>obtain⟨_,_,_,_,o,_,_,e,_⟩:=x;exact Heap.lt_size e
 |dT kvs=>obtain⟨_,_,_,_,o,_,_,e,_⟩:=x;exact Heap.lt_size e
 |set S n=>obtain⟨o,_,_,_,e,_⟩:=x;exact Heap.lt_size e
 |ins C dx fs=>obtain⟨_,_,_,e,_⟩:=x;exact Heap.lt_size e
 |own y=>obtain⟨_,e⟩:=x;exact Heap.lt_size e
 |xd fs=>obtain⟨_,⟨_,_,_,e,_⟩,_⟩:=x;exact Heap.lt_size e
 |rng lo hi=>obtain⟨_,_,_,e⟩:=x;exact Heap.lt_size e
 |frz ob u=>obtain⟨e,_⟩:=x;exact Heap.lt_size e
 |tbl ps=>exact Heap.lt_size (show h.get? a=some _ from x)
 |met f y=>exact Heap.lt_size (show h.get? a=some _ from x)
 |ext φ=>obtain⟨_,⟨_,e⟩,_⟩:=x;exact Heap.lt_size e
theorem Paired.mapP{α β:Type}{F G:α→β→Prop}:∀{l₁:List α} {l₂:List β},Paired F l₁ l₂→(∀a b,F a b→G a b)→Paired G l₁ l₂
 |_,_,.nil,_=>.nil
 |_,_,.cons r t,f=>.cons (f _ _ r) (Paired.mapP t f)
theorem ObjOk.stay(x:ObjOk P w H h a o)(k:∀b u,(b=a∨H b=some (.own a))→h.get? b=some u→h'.get? b=some u)(ho:∀b,H b=some (.own a)→H' b=some (.own a))(ht:∀b xs,H b=some (.tup xs)→H' b=some (.tup xs)):ObjOk P w H' h' a o:=by
 induction o with
 |lst xs=>obtain⟨z,its,n,r,e⟩:=x;exact⟨z,its,n,r,k _ _ (.inl rfl) e⟩
 |tup xs=>obtain⟨z,its,r,ob,e,c⟩:=x;exact⟨z,its,r,ob,k _ _ (.inl rfl) e,c⟩
 |dK kvs=>obtain⟨z,y,vs,r,ob,es,ep,e,c⟩:=x;exact⟨z,y,vs,r,ob,es,ep,k _ _ (.inl rfl) e,c⟩
 |dT kvs=>
  obtain⟨z,y,xs,r,ob,es,ep,e,c⟩:=x;exact⟨z,y,xs,Paired.mapP r fun p q z=>⟨z.1,ht _ _ z.2.1,z.2.2⟩,ob,es,ep,k _ _ (.inl rfl) e,c⟩
 |set S n=>obtain⟨ob,es,ep,t,e,c⟩:=x;exact⟨ob,es,ep,t,k _ _ (.inl rfl) e,c⟩
 |ins C dx fs=>
  obtain⟨d,z,ne,e,mA,⟨od,es,ep,e2,c⟩,r⟩:=x;exact⟨ho _ d,z,ne,k _ _ (.inl rfl) e,mA,⟨od,es,ep,k _ _ (.inr d) e2,c⟩,r⟩
 |own y=>obtain⟨ob,e⟩:=x;exact⟨ob,k _ _ (.inl rfl) e⟩
 |xd fs=>obtain⟨mA,⟨od,es,ep,e,c⟩,r⟩:=x;exact⟨mA,⟨od,es,ep,k _ _ (.inl rfl) e,c⟩,r⟩
 |rng lo hi=>obtain⟨t,u,v,e⟩:=x;exact⟨t,u,v,k _ _ (.inl rfl) e⟩
 |frz ob u ih=>obtain⟨e,q⟩:=x;exact⟨k _ _ (.inl rfl) e,ih q⟩
 |tbl ps=>
  have e:h.get? a=some { cls:=.none,data:=.fields ps }:=x;show h'.get? a=some { cls:=.none,data:=.fields ps };exact k a _ (.inl rfl) e
 |met f y=>
  have e:h.get? a=some (W.methodObj (.ref f) (.ref y)):=x;show h'.get? a=some (W.methodObj (.ref f) (.ref y));exact k a _ (.inl rfl) e
 |ext φ=>obtain⟨p,⟨o,e⟩,st⟩:=x;exact⟨st _ _ p fun o q=>k _ _ (.inl rfl) q,⟨o,k _ _ (.inl rfl) e⟩,st⟩
theorem HOk.lt(x:HOk P w H h)(e:H a=some o):a<h.objs.size:=(x a o e).lt
theorem HOk.fresh(x:HOk P w H h)(e:h.objs.size≤a):H a=none:=by
 cases q:H a with
 |none=>rfl
 |some u=>exact absurd (Nat.lt_of_lt_of_le (x.lt q) e) (Nat.lt_irrefl _)
theorem HOk.kept(x:HOk P w H h)(k:∀b u,h.get? b=some u→h'.get? b=some u):HOk P w H h':=fun a o e=>
 (x a o e).stay (fun b u _ q=>k b u q) (fun _ q=>q) fun _ _ q=>q
theorem HOk.laid(x:HOk P w H h)(k:∀b u,h.get? b=some u→h'.get? b=some u)(hp:h.objs.size≤a)(new:ObjOk P w (upd H a o) h' a o):HOk P w (upd H a o) h':=fun b u e=>by
 have hn:=x.fresh hp
 by_cases hb:b=a
 ·subst hb;rw[Af] at e;cases e;exact new
 ·rw[Ae hb] at e;exact(x b u e).stay (fun c v _ q=>k c v q) (fun c q=>by rw[Ae (Aj q hn)];exact q) fun c xs q=>by rw[Ae (Aj q hn)];exact q
end
def Rd(H:Hp)(a:Addr)(u:HO):Prop:=H a=some u∨∃o,H a=some (.frz o u)
theorem Rd.ok{P:Program}{w:World}{H:Hp}{h:Heap}{a:Addr}{u:HO}(r:Rd H a u)(x:HOk P w H h):ObjOk P w H h a u:=by
 rcases r with r|⟨o,r⟩
 ·exact x a u r
 ·obtain⟨_,q⟩:=x a _ r;exact q
def Mut:Option HO→Prop
 |some (.lst _)=>True
 |some (.dK _)=>True
 |some (.dT _)=>True
 |some (.set _ _)=>True
 |some (.ins _ _ _)=>True
 |some (.ext _)=>True
 |_=>False
section
variable{P:Program}{w:World}{H:Hp}{h h':Heap}{x e:Addr}{o':HO}
theorem HOk.write(ok:HOk P w H h)(mu:Mut (H x))(he:e=x∨H e=some (.own x))(k:∀b u,b≠e→h.get? b=some u→h'.get? b=some u)(heo:∃u,h'.get? e=some u)(new:ObjOk P w (upd H x o') h' x o'):HOk P w (upd H x o') h':=fun b u q=>by
 have nown:∀c y,H c=some (.own y)→c≠x:=fun c y r z=>by subst z;rw[r] at mu;exact mu
 have ntup:∀c xs,H c=some (.tup xs)→c≠x:=fun c xs r z=>by subst z;rw[r] at mu;exact mu
 by_cases hb:b=x
 ·subst hb;rw[Af] at q;cases q;exact new
 ·rw[Ae hb] at q
  by_cases hbe:b=e
  ·have q':H b=some (.own x):=by
    rcases he with z|z
    ·exact absurd (hbe.trans z) hb
    ·rw[hbe];exact z
   rw[q] at q';cases q';obtain⟨v,hv⟩:=heo;exact⟨v,by rw[hbe];exact hv⟩
  ·refine(ok b u q).stay (fun c v hc r=>k c v ?_ r) (fun c r=>by rw[Ae (nown c b r)];exact r) fun c xs r=>by rw[Ae (ntup c xs r)];exact r
   rcases hc with rfl|hc
   ·exact hbe
   ·rintro rfl;rcases he with z|z
    ·exact nown c b hc z
    ·rw[hc] at z;cases z;exact hb rfl
end
structure Un(fs ex:List Addr)(H H':Hp)(h h':Heap):Prop where
 keep:∀b o,h.get? b=some o→H b=none→b ∉ fs→b ∉ ex→h'.get? b=some o
 slot:∀b o,h.get? b=some o→H b=none→b∈fs→b ∉ ex→∃sl,h'.get? b=some { o with slots:=sl }
 free:∀b o,h.get? b=some o→H b=none→b ∉ ex→H' b=none
 there:∀b o,h.get? b=some o→b ∉ ex→∃o',h'.get? b=some o'
 tups:∀b xs,H b=some (.tup xs)→H' b=some (.tup xs)
 frzs:∀b o u,H b=some (.frz o u)→H' b=some (.frz o u)
 tbls:∀b ps,H b=some (.tbl ps)→∃more,H' b=some (.tbl (ps++more))
section
variable{fs fs' ex ex':List Addr}{H H1 H2:Hp}{h h1 h2 h':Heap}{a x e:Addr}{o:HO}
theorem Un.any(u:Un fs ex H H1 h h1){b:Addr}{ob:Obj}(q:h.get? b=some ob)(n:H b=none)(hx:b ∉ ex):∃sl,h1.get? b=some { ob with slots:=sl }:=by
 by_cases hb:b∈fs
 ·exact u.slot b ob q n hb hx
 ·exact⟨ob.slots,u.keep b ob q n hb hx⟩
theorem Un.trans(a:Un fs ex H H1 h h1)(b:Un fs ex H1 H2 h1 h2):Un fs ex H H2 h h2 where
 keep:=fun c ob q n hc hx=>b.keep c ob (a.keep c ob q n hc hx) (a.free c ob q n hx) hc hx
 slot:=fun c ob q n hc hx=>by
  obtain⟨sl,e1⟩:=a.slot c ob q n hc hx;obtain⟨sl',e2⟩:=b.slot c _ e1 (a.free c ob q n hx) hc hx;exact⟨sl',e2⟩
 free:=fun c ob q n hx=>by
  obtain⟨o',e1⟩:=a.there c ob q hx;exact b.free c o' e1 (a.free c ob q n hx) hx
 there:=fun c ob q hx=>by
  obtain⟨o',e1⟩:=a.there c ob q hx;exact b.there c o' e1 hx
 tups:=fun c xs q=>b.tups c xs (a.tups c xs q)
 frzs:=fun c ob xs q=>b.frzs c ob xs (a.frzs c ob xs q)
 tbls:=fun c ps q=>by
  obtain⟨m1,e1⟩:=a.tbls c ps q;obtain⟨m2,e2⟩:=b.tbls c _ e1;exact⟨m1++m2,by rw[e2,Array.append_assoc]⟩
theorem Un.kept(k:∀b u,h.get? b=some u→h'.get? b=some u):Un fs ex H H h h':=
 ⟨fun b ob q _ _ _=>k b ob q,fun b ob q _ _ _=>⟨ob.slots,k b ob q⟩,fun _ _ _ n _=>n,fun b ob q _=>⟨ob,k b ob q⟩,fun _ _ q=>q,fun _ _ _ q=>q,fun _ ps q=>⟨#[],by rw[q];simp⟩⟩
theorem Un.refl:Un fs ex H H h h:=Un.kept fun _ _ q=>q
theorem Un.laid(k:∀b u,h.get? b=some u→h'.get? b=some u)(hp:h.objs.size≤a)(hn:H a=none):Un fs ex H (upd H a o) h h' where
 keep:=fun b u q _ _ _=>k b u q
 slot:=fun b u q _ _ _=>⟨u.slots,k b u q⟩
 free:=fun b u q n _=>by rw[Ae (Nat.ne_of_lt (Nat.lt_of_lt_of_le (Heap.lt_size q) hp))];exact n
 there:=fun b u q _=>⟨u,k b u q⟩
 tups:=fun b xs q=>by rw[Ae (Aj q hn)];exact q
 frzs:=fun b u xs q=>by rw[Ae (Aj q hn)];exact q
 tbls:=fun b ps q=>⟨#[],by rw[Ae (Aj q hn),q];simp⟩
theorem Un.write(mu:Mut (H x))(he:e=x∨H e=some (.own x))(k:∀b u,b≠e→h.get? b=some u→h'.get? b=some u)(heo:∃u,h'.get? e=some u):Un fs ex H (upd H x o) h h':=by
 have hx:∀b,H b=none→b≠x:=fun b n z=>by subst z;rw[n] at mu;exact mu
 have hb:∀b,H b=none→b≠e:=fun b n z=>by
  subst z;rcases he with r|r
  ·exact hx b n r
  ·rw[n] at r;cases r
 have hm:∀b u,H b=some u→¬Mut (some u)→b≠x:=fun b u q nm z=>by subst z;rw[q] at mu;exact nm mu
 refine⟨fun b u q n _ _=>k b u (hb b n) q,fun b u q n _ _=>⟨u.slots,k b u (hb b n) q⟩,fun b u q n _=>by rw[Ae (hx b n)];exact n,fun b u q _=>?_,
  fun b xs q=>by rw[Ae (hm b _ q fun z=>z)];exact q,fun b u xs q=>by rw[Ae (hm b _ q fun z=>z)];exact q,fun b ps q=>⟨#[],by rw[Ae (hm b _ q fun z=>z),q];simp⟩⟩
 by_cases hbe:b=e
 ·subst hbe;exact heo
 ·exact⟨u,k b u hbe q⟩
end
def trk(h:Heap)(H:Hp):List Addr:=(List.range h.objs.size).filter fun a=>(H a).isSome
def Kt(h:Heap)(H:Hp):Heap:=W.hideAll h (trk h H)
theorem Sj(h:Heap)(H:Hp):(Kt h H).objs.size=h.objs.size:=W.hideAll_size _ _
theorem Xk{h:Heap}{H:Hp}{b:Addr}{o:Obj}(e:h.get? b=some o)(n:H b=none):(Kt h H).get? b=some o:=
 W.hideAll_get _ e fun hm=>by
  have q:(H b).isSome=true:=(List.mem_filter.mp hm).2;rw[n] at q;simp at q
theorem Z2{h:Heap}{H:Hp}{b:Addr}{o:Obj}(e:(Kt h H).get? b=some o):h.get? b=some o∧H b=none:=by
 have e':h.get? b=some o:=W.of_hideAll (trk h H) e;refine⟨e',?_⟩;cases q:H b with
 |none=>rfl
 |some x=>
  have hm:b∈trk h H:=List.mem_filter.mpr ⟨List.mem_range.mpr (Heap.lt_size e'),by simp[q]⟩
  have z:(Kt h H).get? b=none:=W.hideAll_none (trk h H) hm;rw[z] at e;cases e

def Aaw(g h:Heap)(L:Addr):List (Addr×Obj):=(List.range h.objs.size).filterMap fun a=>if a=L∨(g.get? a).isSome=true then none else (h.get? a).map fun o=>(a,o)
def rest(g h:Heap)(L d:Addr):List (Addr×Obj):=(Aaw g h L).filter fun p=>decide (p.1≠d)
end L2
namespace L2
open PySem PySem.Spec PyProof.Rows
structure Mod(K:W.Frag)(mg:Str→Option Value)(base:Heap):Prop where
 kin:K.In base
 glob:base.Ns mainGlobals mg
 sm:∃mm,base.Ns sysModules mm
 bm:∃bm ob,mg "__builtins__" = some (.ref bm)∧bm≠builtinsNs∧base.get? bm=some ob∧ob.cls=.type "module"∧ob.dict=some builtinsNs∧ob.data=.plain
 blt:∃mb,base.Ns builtinsNs mb∧∀x:Str,x≠"__name__"→mb x=bootBuiltins x
 nolimit:base.NoLimit

structure Cx where
 prog:Program
 w:World
 K:W.Frag
 mg:Str→Option Value
 base:Heap
 A:Around
 N:List Str
 s₀:Shared
 H₀:Hp
 env:Env
 outer:List Env
 stack:List Env
 ex:List Addr
 fn:Str→Bool
 calm:Bool
 pn:List (Addr×Obj)
 xe:Value→Shared→Prop
def frs(l:List Env):List Addr:=l.filterMap (·.frame)
abbrev Cx.fs(X:Cx):List Addr:=frs X.outer

def Vis(sc:Scope)(x:Str):Prop:=sc.names.lookup x=some .local∨sc.names.lookup x=some .cell∨sc.names.lookup x=some .free
def Loc(sc:Scope)(x:Str):Prop:=sc.names.lookup x=some .local∨sc.names.lookup x=some .cell
def Look(env:Env)(h:Heap)(m:Str→Option Value)(x:Str)(u:Value):Prop:=
 (env.kindOf x=some .local∧m x=some u)∨((env.kindOf x=some .cell∨env.kindOf x=some .free)∧∃c,env.cells.lookup x=some c∧h.IsCell c (some u))

structure Cx.Ok(X:Cx):Prop where
 mod:Mod X.K X.mg X.base
 kind:X.env.scope.kind=.function
 glob:X.env.globals=mainGlobals
 blt:X.env.builtins=builtinsNs
 above:X.s₀.heap.objs.size≤X.env.locals
 inj:∀x y c,X.env.cells.lookup x=some c→X.env.cells.lookup y=some c→x=y
 has:∀x,(X.env.kindOf x=some .cell∨X.env.kindOf x=some .free)→∃c,X.env.cells.lookup x=some c
 cab:∀x c,X.fn x=true→X.env.cells.lookup x=some c→X.s₀.heap.objs.size≤c
 hd:X.calm=true→X.A.handled=none
 frames:X.A.frames=some X.stack
 stk:X.stack=X.outer∨(X.stack=X.env::X.outer∧X.env.frame=some X.env.locals)
 exf:∀b∈X.ex,b≠X.env.locals∧∀x c,X.env.cells.lookup x=some c→c≠b
 bs:∀b o,X.base.get? b=some o→X.s₀.heap.get? b=some o∧X.H₀ b=none
 bsz:X.base.objs.size≤X.s₀.heap.objs.size
 noex:∀b o,X.base.get? b=some o→b ∉ X.ex
 exfs:∀b∈X.ex,b ∉ X.fs
 funs:X.s₀.heap.FunFrames X.base X.outer
 frf:∀b∈X.fs,X.H₀ b=none

structure Inv(X:Cx)(pins:List (Addr×Obj))(σ:List (Option V))(H:Hp)(s:Shared):Prop where
 ok:X.Ok
 os:s.os=X.s₀.os
 bare:AllBare s.gens
 base:Un X.fs X.ex X.H₀ H X.s₀.heap s.heap
 loc:∃m,s.heap.Ns X.env.locals m∧∀(i:Nat) (x:Str) (v:V),X.N[i]? = some x→σ[i]? = some (some v)→Vis X.env.scope x→∃u,RelV v u∧Look X.env s.heap m x u
 cell:∀x c,X.env.cells.lookup x=some c→∃v,s.heap.IsCell c v
 free:H X.env.locals=none
 freeC:∀x c,X.env.cells.lookup x=some c→H c=none
 pin:∀p∈X.pn++pins,s.heap.get? p.1=some p.2∧H p.1=none∧p.1≠X.env.locals∧p.1 ∉ X.fs∧∀v,p.2.data≠.cell v
 hok:HOk X.prog X.w H s.heap
 len:σ.length=X.N.length

section
variable{X:Cx}{pins:List (Addr×Obj)}{σ:List (Option V)}{H H':Hp}{s:Shared}{h':Heap}
theorem Cx.Ok.nofr(ok:X.Ok){b:Addr}{o:Obj}(e:X.base.get? b=some o):b ∉ X.fs:=fun hb=>by
 have:=(ok.funs.mem hb).1
 rw[e] at this;cases this
theorem Inv.bs(I:Inv X pins σ H s):∀b o,X.base.get? b=some o→s.heap.get? b=some o∧H b=none:=fun b o e=>
 ⟨I.base.keep b o (I.ok.bs b o e).1 (I.ok.bs b o e).2 (I.ok.nofr e) (I.ok.noex b o e),I.base.free b o (I.ok.bs b o e).1 (I.ok.bs b o e).2 (I.ok.noex b o e)⟩
theorem Inv.bk(I:Inv X pins σ H s):∀b o,X.base.get? b=some o→s.heap.get? b=some o:=fun b o e=>(I.bs b o e).1
theorem Inv.mod(I:Inv X pins σ H s):Mod X.K X.mg X.base:=I.ok.mod
theorem Inv.kIn(I:Inv X pins σ H s):X.K.In s.heap:=I.ok.mod.kin.keeps I.bk
theorem Inv.fr(I:Inv X pins σ H s):∃m,Fr X.base X.env.locals s.heap m:=
 let ⟨m,hn,_⟩:=I.loc
 ⟨m,hn,I.bk,Nat.le_trans I.ok.bsz I.ok.above⟩
theorem Inv.lt(I:Inv X pins σ H s):X.env.locals<s.heap.objs.size:=let ⟨_,hn,_⟩:=I.loc;hn.lt
theorem Inv.sz(I:Inv X pins σ H s):X.s₀.heap.objs.size≤s.heap.objs.size:=Nat.le_trans I.ok.above (Nat.le_of_lt I.lt)
theorem Inv.nofs(I:Inv X pins σ H s){a:Addr}(h:s.heap.objs.size≤a):a ∉ X.fs:=fun hb=>by
 obtain⟨_,o,ho,_⟩:=I.ok.funs.mem hb;exact absurd (Nat.lt_of_lt_of_le (Heap.lt_size ho) (Nat.le_trans I.sz h)) (Nat.lt_irrefl _)
theorem Inv.cne(I:Inv X pins σ H s):∀x c,X.env.cells.lookup x=some c→c≠X.env.locals:=fun x c e z=>by
 obtain⟨v,o,ho,hd⟩:=I.cell x c e;obtain⟨m,⟨o',es,ep,ho',hd',_⟩,_⟩:=I.loc;rw[z,ho'] at ho;cases ho;rw[hd'] at hd;cases hd
theorem Inv.funs(I:Inv X pins σ H s):s.heap.FunFrames X.base X.outer:=by
 have all:∀(l:List Env),(∀b∈frs l,b∈X.fs)→X.s₀.heap.FunFrames X.base l→s.heap.FunFrames X.base l:=by
  intro l
  induction l with
  |nil=>intro _ _;trivial
  |cons env r ih=>
   intro hs hl;obtain⟨hk,⟨L,o,hf,hn,ho,hd⟩,hr⟩:=hl;have hL:L∈X.fs:=hs L (by unfold frs;rw[List.filterMap_cons,hf];exact List.mem_cons_self)
   obtain⟨sl,e⟩:=I.base.slot L o ho (I.ok.frf L hL) hL fun z=>I.ok.exfs L z hL;exact⟨hk,⟨L,_,hf,hn,e,hd⟩,ih (fun b hb=>hs b (by unfold frs;rw[List.filterMap_cons,hf];exact List.mem_cons_of_mem _ hb)) hr⟩
 exact all X.outer (fun _ hb=>hb) I.ok.funs

theorem Inv.stack(I:Inv X pins σ H s):s.heap.FunFrames X.base X.stack:=by
 rcases I.ok.stk with e|⟨e,hf⟩
 ·rw[e];exact I.funs
 ·rw[e];obtain⟨m,hn,_⟩:=I.loc;refine .cons (by rw[I.ok.kind];decide) hf hn ?_ I.funs
  exact Heap.get?_none_of_le (Nat.le_trans I.ok.bsz I.ok.above)
theorem Inv.stkSub(I:Inv X pins σ H s):∀b∈frs X.stack,b∈X.env.locals::X.fs:=fun b hb=>by
 rcases I.ok.stk with e|⟨e,hf⟩
 ·rw[e] at hb;exact List.mem_cons_of_mem _ hb
 ·rw[e] at hb;unfold frs at hb;rw[List.filterMap_cons,hf] at hb;exact hb
theorem Inv.stkFree(I:Inv X pins σ H s):∀b∈frs X.stack,H b=none:=fun b hb=>by
 rcases List.mem_cons.mp (I.stkSub b hb) with e|hb
 ·rw[e];exact I.free
 ·obtain⟨_,o,ho,_⟩:=I.ok.funs.mem hb;exact I.base.free b o ho (I.ok.frf b hb) fun z=>I.ok.exfs b z hb

theorem Inv.step{g':Array GenState}{t':Nat}{d':Drawn}{ch:List Addr}(I:Inv X pins σ H s)(hch:∀b∈ch,(b∈X.ex∨X.s₀.heap.objs.size≤b)∧b≠X.env.locals∧(∀x c,X.env.cells.lookup x=some c→c≠b)∧∀p∈X.pn++pins,p.1≠b)(keep:∀b o,b≠X.env.locals→b ∉ X.fs→b ∉ ch→s.heap.get? b=some o→H b=none→h'.get? b=some o)(slot:∀b o,b≠X.env.locals→b∈X.fs→b ∉ ch→s.heap.get? b=some o→H b=none→∃sl,h'.get? b=some { o with slots:=sl })(free:∀b o,b ∉ ch→s.heap.get? b=some o→H b=none→H' b=none)(there:∀b o,b ∉ ch→s.heap.get? b=some o→∃o',h'.get? b=some o')(tups:∀b xs,H b=some (.tup xs)→H' b=some (.tup xs))(frzs:∀b o u,H b=some (.frz o u)→H' b=some (.frz o u))(tbls:∀b ps,H b=some (.tbl ps)→∃more,H' b=some (.tbl (ps++more)))(ns:∀m,s.heap.Ns X.env.locals m→h'.Ns X.env.locals m)(hok:HOk X.prog X.w H' h')(hg:AllBare g') :
  Inv X pins σ H' { s with heap:=h',gens:=g',drawn:=d',toks:=t' }:=by
 have neL:∀b o,X.s₀.heap.get? b=some o→b≠X.env.locals:=fun b o e=>Nat.ne_of_lt (Nat.lt_of_lt_of_le (Heap.lt_size e) I.ok.above);have neC:∀b o,X.s₀.heap.get? b=some o→b ∉ X.ex→b ∉ ch:=fun b o e hx hb=>by
  rcases(hch b hb).1 with z|z
  ·exact hx z
  ·exact absurd (Nat.lt_of_lt_of_le (Heap.lt_size e) z) (Nat.lt_irrefl _)
 have T7:∀x c,X.env.cells.lookup x=some c→∀v,s.heap.IsCell c v→h'.IsCell c v:=fun x c e v zz=>by
  obtain⟨o,ho,hd⟩:=zz;have nch:c ∉ ch:=fun z=>(hch c z).2.2.1 x c e rfl
  by_cases hc:c∈X.fs
  ·obtain⟨sl,q⟩:=slot c o (I.cne x c e) hc nch ho (I.freeC x c e);exact⟨_,q,hd⟩
  ·exact⟨o,keep c o (I.cne x c e) hc nch ho (I.freeC x c e),hd⟩
 refine⟨I.ok,I.os,hg,⟨fun b o e n hb hx=>?_,fun b o e n hb hx=>?_,fun b o e n hx=>?_,fun b o e hx=>?_,fun b xs e=>tups b xs (I.base.tups b xs e),fun b o xs e=>frzs b o xs (I.base.frzs b o xs e),fun b ps e=>?_⟩,?_,fun x c e=>?_,?_,fun x c e=>?_,fun p hp=>?_,hok,I.len⟩
 ·exact keep b o (neL b o e) hb (neC b o e hx) (I.base.keep b o e n hb hx) (I.base.free b o e n hx)
 ·obtain⟨sl,e1⟩:=I.base.slot b o e n hb hx;obtain⟨sl',e2⟩:=slot b _ (neL b o e) hb (neC b o e hx) e1 (I.base.free b o e n hx);exact⟨sl',e2⟩
 ·obtain⟨o',e1⟩:=I.base.there b o e hx;exact free b o' (neC b o e hx) e1 (I.base.free b o e n hx)
 ·obtain⟨o',e1⟩:=I.base.there b o e hx;exact there b o' (neC b o e hx) e1
 ·obtain⟨m1,e1⟩:=I.base.tbls b ps e;obtain⟨m2,e2⟩:=tbls b _ e1;exact⟨m1++m2,by rw[e2,Array.append_assoc]⟩
 ·obtain⟨m,hn,hl⟩:=I.loc;refine⟨m,ns m hn,fun i x v e1 e2 e3=>?_⟩;obtain⟨u,r,l⟩:=hl i x v e1 e2 e3;refine⟨u,r,?_⟩;rcases l with l|⟨k,c,e,z⟩
  ·exact .inl l
  ·exact .inr ⟨k,c,e,T7 x c e _ z⟩
 ·obtain⟨v,z⟩:=I.cell x c e;exact⟨v,T7 x c e v z⟩
 ·obtain⟨m,⟨o,_,_,ho,_⟩,_⟩:=I.loc;exact free _ o (fun z=>(hch _ z).2.1 rfl) ho I.free
 ·obtain⟨v,o,ho,hd⟩:=I.cell x c e;exact free c o (fun z=>(hch c z).2.2.1 x c e rfl) ho (I.freeC x c e)
 ·obtain⟨e,n,ne,nf,d⟩:=I.pin p hp;have nch:p.1 ∉ ch:=fun z=>(hch p.1 z).2.2.2 p hp rfl;exact⟨keep p.1 p.2 ne nf nch e n,free p.1 p.2 nch e n,ne,nf,d⟩
theorem Inv.un{t':Nat}(I:Inv X pins σ H s)(u:Un X.fs [] H H' s.heap h')(hok:HOk X.prog X.w H' h'):Inv X pins σ H' { s with heap:=h',toks:=t' }:=by
 obtain⟨m,⟨o,es,ep,ho,r⟩,_⟩:=id I.loc;obtain⟨sl,hL⟩:=u.any ho I.free (by simp)
 exact I.step (g':=s.gens) (d':=s.drawn) (ch:=[]) (fun _ z=>nomatch z) (fun b o _ hb _ e n=>u.keep b o e n hb (by simp)) (fun b o _ hb _ e n=>u.slot b o e n hb (by simp)) (fun b o _ e n=>u.free b o e n (by simp)) (fun b o _ e=>u.there b o e (by simp)) u.tups u.frzs u.tbls (fun m' hm=>by
  obtain⟨o',es',ep',ho',r'⟩:=hm;rw[ho] at ho';cases ho';exact⟨_,es',ep',hL,r'⟩) hok I.bare
theorem Inv.call{g':Array GenState}{t':Nat}{d':Drawn}{ch:List Addr}(I:Inv X pins σ H s)(u:Un (frs X.stack) ch H H' s.heap h')(hok:HOk X.prog X.w H' h')(hg:AllBare g')(hch:∀b∈ch,(b∈X.ex∨X.s₀.heap.objs.size≤b)∧b≠X.env.locals∧(∀x c,X.env.cells.lookup x=some c→c≠b)∧∀p∈X.pn++pins,p.1≠b) :
  Inv X pins σ H' { s with heap:=h',gens:=g',drawn:=d',toks:=t' }:=by
 obtain⟨m,⟨o,es,ep,ho,r⟩,_⟩:=id I.loc;obtain⟨sl,hL⟩:=u.any ho I.free fun z=>(hch _ z).2.1 rfl;exact I.step (ch:=ch) hch (fun b o hL hb hc e n=>u.keep b o e n (fun z=>(List.mem_cons.mp (I.stkSub b z)).elim hL hb) hc) (fun b o _ _ hc e n=>u.any e n hc) (fun b o hc e n=>u.free b o e n hc) (fun b o hc e=>u.there b o e hc) u.tups u.frzs u.tbls (fun m' hm=>by
  obtain⟨o',es',ep',ho',r'⟩:=hm;rw[ho] at ho';cases ho';exact⟨_,es',ep',hL,r'⟩) hok hg
theorem Inv.turned{t':Nat}{it:Addr}(I:Inv X pins σ H s)(k:∀b o,b≠it→s.heap.get? b=some o→h'.get? b=some o)(hn:H it=none)(hL:it≠X.env.locals)(h1:it∈X.ex∨X.s₀.heap.objs.size≤it)(h2:∀x c,X.env.cells.lookup x=some c→c≠it)(h3:∀p∈X.pn++pins,p.1≠it):Inv X pins σ H { s with heap:=h',toks:=t' }:=by
 have nit:∀b u,H b=some u→b≠it:=fun b u e z=>by rw[z,hn] at e;cases e
 refine I.step (g':=s.gens) (d':=s.drawn) (ch:=[it]) (fun b hb=>?_) (fun b o _ _ hc e _=>k b o (fun z=>hc (by simp[z])) e) (fun b o _ _ hc e _=>⟨o.slots,k b o (fun z=>hc (by simp[z])) e⟩) (fun _ _ _ _ n=>n)
  (fun b o hc e=>⟨o,k b o (fun z=>hc (by simp[z])) e⟩) (fun _ _ e=>e) (fun _ _ _ e=>e) (fun b ps e=>⟨#[],by rw[e];simp⟩) (fun m hm=>?_) (fun b u e=>?_) I.bare
 ·have e:b=it:=by simpa using hb
  subst e;exact⟨h1,hL,h2,h3⟩
 ·obtain⟨o,es,ep,ho,r⟩:=hm;exact⟨o,es,ep,k _ o (Ne.symm hL) ho,r⟩
 ·refine(I.hok b u e).stay (fun c v hc q=>k c v ?_ q) (fun _ q=>q) fun _ _ q=>q;rcases hc with z|z
  ·rw[z];exact nit b u e
  ·exact nit c _ z
theorem Inv.tok(I:Inv X pins σ H s)(t:Nat):Inv X pins σ H { s with toks:=t }:=I.un (h':=s.heap) (t':=t) Un.refl I.hok
theorem Inv.kept{t':Nat}(I:Inv X pins σ H s)(k:∀b u,s.heap.get? b=some u→h'.get? b=some u):Inv X pins σ H { s with heap:=h',toks:=t' }:=I.un (Un.kept k) (I.hok.kept k)
theorem Inv.laid{a:Addr}{o:HO}{t':Nat}(I:Inv X pins σ H s)(k:∀b u,s.heap.get? b=some u→h'.get? b=some u)(hp:s.heap.objs.size≤a)(new:ObjOk X.prog X.w (upd H a o) h' a o) :
  Inv X pins σ (upd H a o) { s with heap:=h',toks:=t' }:=I.un (Un.laid k hp (I.hok.fresh hp)) (I.hok.laid k hp new)
theorem Inv.write{x e:Addr}{o:HO}{t':Nat}(I:Inv X pins σ H s)(mu:Mut (H x))(he:e=x∨H e=some (.own x))(k:∀b u,b≠e→s.heap.get? b=some u→h'.get? b=some u)(heo:∃u,h'.get? e=some u)(new:ObjOk X.prog X.w (upd H x o) h' x o):Inv X pins σ (upd H x o) { s with heap:=h',toks:=t' }:=I.un (Un.write mu he k heo) (I.hok.write mu he k heo new)
theorem Inv.weak{σ':List (Option V)}(I:Inv X pins σ H s)(hl:σ'.length=σ.length)(w:∀(i:Nat) v,σ'[i]? = some (some v)→σ[i]? = some (some v)):Inv X pins σ' H s:=
 ⟨I.ok,I.os,I.bare,I.base,let ⟨m,hn,hl'⟩:=I.loc;⟨m,hn,fun i x v e1 e2 e3=>hl' i x v e1 (w i v e2) e3⟩,I.cell,I.free,I.freeC,I.pin,I.hok,hl.trans I.len⟩
theorem Inv.pins_of{pins':List (Addr×Obj)}(I:Inv X pins σ H s)(h:∀p∈pins',s.heap.get? p.1=some p.2∧H p.1=none∧p.1≠X.env.locals∧p.1 ∉ X.fs∧∀v,p.2.data≠.cell v):Inv X pins' σ H s:=
 ⟨I.ok,I.os,I.bare,I.base,I.loc,I.cell,I.free,I.freeC,fun p hp=>(List.mem_append.mp hp).elim (fun z=>I.pin p (List.mem_append_left _ z)) (h p),I.hok,I.len⟩

theorem Na{N:List Str}(hN:N.Nodup){i j:Nat}{x:Str}(a:N[i]? = some x)(b:N[j]? = some x):i=j:=by
 obtain⟨h1,e1⟩:=List.getElem?_eq_some_iff.mp a;obtain⟨h2,e2⟩:=List.getElem?_eq_some_iff.mp b;exact(List.getElem_inj hN).mp (e1.trans e2.symm)

theorem J3{M:Model}{A:Around}{E:Value→Shared→Prop}{i:Nat}{x:Str}{v:V}{u:Value}{Q:Unit→Shared→Prop}(I:Inv X pins σ H s)(hN:X.N.Nodup)(hi:X.N[i]? = some x)(hx:Loc X.env.scope x)(r:RelV v u)(h:∀s',Inv X pins (σ.set i (some v)) H s'→(∃a,Heap.SameBut a s.heap s'.heap∧(a=X.env.locals∨X.env.cells.lookup x=some a))→Q () s')(hf:X.fn x=true∨X.env.scope.names.lookup x=some .local:=by first|exact .inl rfl|exact .inr rfl|assumption):wpAny M A (storeName X.env x u) Q E s:=by
 obtain⟨m,hn,hl⟩:=id I.loc;have hcls:(X.env.scope.kind == .class||(X.env.scope.kind == .module&&X.env.locals != X.env.globals))=false:=by rw[I.ok.kind];rfl
 have hiσ:i<σ.length:=by rw[I.len];exact(List.getElem?_eq_some_iff.mp hi).1
 have cne:=I.cne;have tracked:∀{a:Addr} {h':Heap},(∃o,s.heap.get? a=some o∧H a=none)→Heap.SameBut a s.heap h'→HOk X.prog X.w H h':=fun {a h'} ha hs b ob e=>by
  obtain⟨_,_,hfree⟩:=ha;refine(I.hok b ob e).stay (fun c w' hc q=>(hs.2 c ?_).trans q) (fun _ q=>q) fun _ _ q=>q;rintro rfl;rcases hc with rfl|hc
  ·rw[hfree] at e;cases e
  ·rw[hfree] at hc;cases hc
 rcases hx with hk|hk
 ·refine wpAny_storeName_local hk hn (fun h' hn' hs=>?_) hcls;obtain⟨oL,_,_,hoL,_⟩:=id hn;refine h _ ⟨I.ok,I.os,I.bare,⟨fun b o e n hb hx=>?_,fun b o e n hb hx=>?_,I.base.free,fun b o e hx=>?_,I.base.tups,I.base.frzs,I.base.tbls⟩,⟨_,hn',fun j y v' e1 e2 e3=>?_⟩,fun y c e=>?_,I.free,I.freeC,fun p hp=>?_,tracked ⟨oL,hoL,I.free⟩ hs,by simpa using I.len⟩ ⟨_,hs,.inl rfl⟩
  ·exact(hs.2 b (Nat.ne_of_lt (Nat.lt_of_lt_of_le (Heap.lt_size e) I.ok.above))).trans (I.base.keep b o e n hb hx)
  ·obtain⟨sl,e1⟩:=I.base.slot b o e n hb hx;exact⟨sl,(hs.2 b (Nat.ne_of_lt (Nat.lt_of_lt_of_le (Heap.lt_size e) I.ok.above))).trans e1⟩
  ·obtain⟨o',e1⟩:=I.base.there b o e hx;exact⟨o',(hs.2 b (Nat.ne_of_lt (Nat.lt_of_lt_of_le (Heap.lt_size e) I.ok.above))).trans e1⟩
  ·by_cases hj:j=i
   ·subst hj;rw[hi] at e1;cases e1;rw[List.getElem?_set_self hiσ] at e2;cases e2;exact⟨u,r,.inl ⟨hk,by simp⟩⟩
   ·rw[List.getElem?_set_ne (Ne.symm hj)] at e2;obtain⟨u',r',q⟩:=hl j y v' e1 e2 e3;refine⟨u',r',?_⟩;rcases q with ⟨k,e⟩|⟨k,c,e,z⟩
    ·refine .inl ⟨k,?_⟩
     have:y≠x:=fun e=>hj (Na hN e1 (e ▸ hi))
     simp[this,e]
    ·exact .inr ⟨k,c,e,z.sameBut hs (cne y c e)⟩
  ·obtain⟨w',z⟩:=I.cell y c e;exact⟨w',z.sameBut hs (cne y c e)⟩
  ·obtain⟨e,n,ne,nf,d⟩:=I.pin p hp;exact⟨(hs.2 p.1 ne).trans e,n,ne,nf,d⟩
 ·have hfn:X.fn x=true:=by
   rcases hf with z|z
   ·exact z
   ·rw[z] at hk;cases hk
  obtain⟨c,hc⟩:=I.ok.has x (.inl hk);obtain⟨w',z⟩:=I.cell x c hc;refine wpAny_storeName_cell I.ok.kind hk hc z (fun h' hc' hs=>?_);obtain⟨oc,hoc,hocd⟩:=id z;refine h { s with heap:=h' } ⟨I.ok,I.os,I.bare,⟨fun b o e n hb hx=>?_,fun b o e n hb hx=>?_,I.base.free,fun b o e hx=>?_,I.base.tups,I.base.frzs,I.base.tbls⟩,⟨m,hn.sameBut hs (Ne.symm (cne x c hc)),fun j y v' e1 e2 e3=>?_⟩,fun y c' e=>?_,I.free,I.freeC,fun p hp=>?_,tracked ⟨oc,hoc,I.freeC x c hc⟩ hs,by simpa using I.len⟩ ⟨c,hs,.inr hc⟩
  ·exact(hs.2 b (Nat.ne_of_lt (Nat.lt_of_lt_of_le (Heap.lt_size e) (I.ok.cab x c hfn hc)))).trans (I.base.keep b o e n hb hx)
  ·obtain⟨sl,e1⟩:=I.base.slot b o e n hb hx;exact⟨sl,(hs.2 b (Nat.ne_of_lt (Nat.lt_of_lt_of_le (Heap.lt_size e) (I.ok.cab x c hfn hc)))).trans e1⟩
  ·obtain⟨o',e1⟩:=I.base.there b o e hx;exact⟨o',(hs.2 b (Nat.ne_of_lt (Nat.lt_of_lt_of_le (Heap.lt_size e) (I.ok.cab x c hfn hc)))).trans e1⟩
  ·by_cases hj:j=i
   ·subst hj;rw[hi] at e1;cases e1;rw[List.getElem?_set_self hiσ] at e2;cases e2;exact⟨u,r,.inr ⟨.inl hk,c,hc,hc'⟩⟩
   ·rw[List.getElem?_set_ne (Ne.symm hj)] at e2;obtain⟨u',r',q⟩:=hl j y v' e1 e2 e3;refine⟨u',r',?_⟩;rcases q with q|⟨k,c',e,z'⟩
    ·exact .inl q
    ·refine .inr ⟨k,c',e,z'.sameBut hs ?_⟩;rintro rfl;exact hj (Na hN e1 (I.ok.inj _ _ _ e hc ▸ hi))
  ·by_cases hcc:c'=c
   ·subst hcc;exact⟨_,hc'⟩
   ·obtain⟨w2,z2⟩:=I.cell y c' e;exact⟨w2,z2.sameBut hs hcc⟩
  ·obtain⟨e,n,ne,nf,d⟩:=I.pin p hp;refine⟨(hs.2 p.1 ?_).trans e,n,ne,nf,d⟩;intro q;rw[q,hoc] at e;have q':oc=p.2:=Option.some.inj e;exact d w' (by rw[←q'];exact hocd)
theorem Cs{M:Model}{A:Around}{E:Value→Shared→Prop}{i:Nat}{x:Str}{v:V}{u:Value}{Q:Unit→Shared→Prop}(I:Inv X pins σ H s)(hN:X.N.Nodup)(hi:X.N[i]? = some x)(hx:Loc X.env.scope x)(r:RelV v u)(h:∀s',Inv X pins (σ.set i (some v)) H s'→Q () s')(hf:X.fn x=true∨X.env.scope.names.lookup x=some .local:=by first|exact .inl rfl|exact .inr rfl|assumption):wpAny M A (storeName X.env x u) Q E s:=
 J3 I hN hi hx r (fun s' I' _=>h s' I') hf
theorem Inv.call'{s':Shared}{ch:List Addr}(I:Inv X pins σ H s)(ho:s'.os=s.os)(u:Un (frs X.stack) ch H H' s.heap s'.heap)(hok:HOk X.prog X.w H' s'.heap)(hg:AllBare s'.gens)(hch:∀b∈ch,(b∈X.ex∨X.s₀.heap.objs.size≤b)∧b≠X.env.locals∧(∀x c,X.env.cells.lookup x=some c→c≠b)∧∀p∈X.pn++pins,p.1≠b):Inv X pins σ H' s':=by
 obtain⟨h',g',d',t',o'⟩:=s';have e:o'=s.os:=ho;subst e;exact I.call (g':=g') (t':=t') (d':=d') u hok hg hch
end
abbrev XK:=Value→Option Addr→Hp→Prop
abbrev St:=List (Option V)
abbrev VK:=V→Hp→Prop
abbrev TE:=St→Hp→VK→Prop
abbrev TT:=St→Hp→(Bool→Hp→Prop)→Prop
abbrev TA:=St→Hp→(List V→Hp→Prop)→Prop
structure Ends where
 nx:St→Hp→Prop
 rt:VK
 bk:St→Hp→Prop:=fun _ _=>False
 ct:St→Hp→Prop:=fun _ _=>False
abbrev TS:=Ends→St→Hp→Prop

def EP(X:Cx)(pins:List (Addr×Obj))(σ:St)(Q:VK)(u:Value)(s':Shared):Prop:=∃v H',Inv X pins σ H' s'∧RelV v u∧Q v H'
def TP(X:Cx)(pins:List (Addr×Obj))(σ:St)(Q:Bool→Hp→Prop)(b:Bool)(s':Shared):Prop:=∃H',Inv X pins σ H' s'∧Q b H'
def AP(X:Cx)(pins:List (Addr×Obj))(σ:St)(Q:List V→Hp→Prop)(us:List Value)(s':Shared):Prop:=∃vs H',Inv X pins σ H' s'∧Vals vs us∧Q vs H'
def SP(X:Cx)(pins:List (Addr×Obj))(D:Ends)(f:Flow)(s':Shared):Prop:=
 match f with
 |.next=>∃σ' H',Inv X pins σ' H' s'∧D.nx σ' H'
 |.brk=>∃σ' H',Inv X pins σ' H' s'∧D.bk σ' H'
 |.cont=>∃σ' H',Inv X pins σ' H' s'∧D.ct σ' H'
 |.ret u=>∃v σ' H',Inv X pins σ' H' s'∧RelV v u∧D.rt v H'

def PE(X:Cx)(e:Expr)(t:TE):Prop:=
 ∀(pins:List (Addr×Obj)) (s:Shared) (σ:St) (H:Hp) (Q:VK),Inv X pins σ H s→t σ H Q→wpAny (model X.prog X.w) X.A (eval e X.env) (EP X pins σ Q) X.xe s
def PT(X:Cx)(e:Expr)(t:TT):Prop:=
 ∀(pins:List (Addr×Obj)) (s:Shared) (σ:St) (H:Hp) (Q:Bool→Hp→Prop),Inv X pins σ H s→t σ H Q→wpAny (model X.prog X.w) X.A (isTrue e X.env (eval e X.env)) (TP X pins σ Q) X.xe s
def PW(X:Cx)(e:Expr)(t:TT):Prop:=
 ∀(whole:Sem Value) (pins:List (Addr×Obj)) (s:Shared) (σ:St) (H:Hp) (Q:Bool→Hp→Prop),Inv X pins σ H s→t σ H Q→wpAny (model X.prog X.w) X.A (isTrue e X.env whole) (TP X pins σ Q) X.xe s
theorem PW.pt{X:Cx}{e:Expr}{t:TT}(h:PW X e t):PT X e t:=h _
def PA(X:Cx)(es:List Expr)(t:TA):Prop:=
 ∀(pos:Pos) (pins:List (Addr×Obj)) (s:Shared) (σ:St) (H:Hp) (Q:List V→Hp→Prop),Inv X pins σ H s→t σ H Q→wpAny (model X.prog X.w) X.A (spliced (backTo pos (starEach es X.env))) (AP X pins σ Q) X.xe s
def PS(X:Cx)(st:Stmt)(t:TS):Prop:=
 ∀(pins:List (Addr×Obj)) (s:Shared) (σ:St) (H:Hp) (D:Ends),Inv X pins σ H s→t D σ H→wpAny (model X.prog X.w) X.A (exec st X.env) (SP X pins D) X.xe s
def PSs(X:Cx)(st:List Stmt)(t:TS):Prop:=
 ∀(pins:List (Addr×Obj)) (s:Shared) (σ:St) (H:Hp) (D:Ends),Inv X pins σ H s→t D σ H→wpAny (model X.prog X.w) X.A (execs st X.env) (SP X pins D) X.xe s
theorem thn{α:Type}{t:Sem α}{Q Q':α→Shared→Prop}{M:Model}{A:Around}{E:Value→Shared→Prop}{s:Shared}(h:wpAny M A t Q E s)(hQ:∀a s,Q a s→Q' a s):wpAny M A t Q' E s:=wpAny_mono h hQ fun _ _ x=>x
end L2
namespace L2
open PySem PySem.Spec PyProof.Rows
section
variable{X:Cx}
theorem bin{a b:Expr}{ta tb:TE}(ha:PE X a ta)(hb:PE X b tb){pins:List (Addr×Obj)}{s:Shared}{σ:St}{H:Hp}{R:V→V→Hp→Prop}(I:Inv X pins σ H s)(h:ta σ H fun x H1=>tb σ H1 fun y H2=>R x y H2){α:Type}{Q:α→Shared→Prop}{f:Value→Value→Sem α}(hf:∀v u s2 x y H2,Inv X pins σ H2 s2→RelV x v→RelV y u→R x y H2→wpAny (model X.prog X.w) X.A (f v u) Q X.xe s2) :
  wpAny (model X.prog X.w) X.A (eval a X.env) (fun v s₁=>wpAny (model X.prog X.w) X.A (eval b X.env) (fun u s₂=>wpAny (model X.prog X.w) X.A (f v u) Q X.xe s₂) X.xe s₁) X.xe s:=by
 refine thn (ha pins s σ H _ I h) fun v s1 zz=>?_;obtain⟨x,H1,I1,r1,q1⟩:=zz;refine thn (hb pins s1 σ H1 _ I1 q1) fun u s2 zz=>?_;obtain⟨y,H2,I2,r2,q2⟩:=zz;exact hf v u s2 x y H2 I2 r1 r2 q2

def tVar(i:Nat):TE:=fun σ H Q=>∃v,σ[i]? = some (some v)∧Q v H
def tC(v:V):TE:=fun _ H Q=>Q v H
theorem K5{i:Nat}{x:Str}{pos:Pos}(hN:X.N[i]? = some x)(hv:Vis X.env.scope x)(hd:(x == ("__debug__" : Str))=false:=by decide)(hcd:(x == ("__classdict__" : Str))=false:=by decide):PE X (.Name x pos) (tVar i):=by
 intro pins s σ H Q I h;obtain⟨v,e,h⟩:=h;obtain⟨m,hn,hl⟩:=I.loc;obtain⟨u,r,l⟩:=hl i x v hN e hv;have fin:EP X pins σ Q u s:=⟨v,H,I,r,h⟩;rcases l with ⟨hk,hm⟩|⟨hk,c,hc,hcell⟩
 ·exact wpAny_Name (wpAny_loadName_local I.ok.kind hk hn hm fin) hd
 ·rcases hk with hk|hk
  ·exact wpAny_Name (wpAny_loadName_cell I.ok.kind hk hc hcell fin) hd
  ·exact wpAny_Name (wpAny_loadName_free I.ok.kind hk hc hcell fin hcd) hd
theorem Adi{i j pos}:PE X (.Constant (.int i) j pos) (tC (.int i)):=fun _ _ _ H _ I h=>wpAny_Constant_int ⟨.int i,H,I.tok _,⟨_,rfl⟩,h⟩
theorem pe_bl{b j pos}:PE X (.Constant (.bool b) j pos) (tC (.bl b)):=fun _ _ _ H _ I h=>Constant_bool ⟨.bl b,H,I,rfl,h⟩
theorem Um{j pos}:PE X (.Constant .none j pos) (tC .non):=fun _ _ _ H _ I h=>Constant_none ⟨.non,H,I,rfl,h⟩
theorem Ade{x j pos}:PE X (.Constant (.str x) j pos) (tC (.str x)):=fun _ _ _ H _ I h=>Calls.Constant_str ⟨.str x,H,I.tok _,⟨_,rfl⟩,h⟩

def Gl(X:Cx)(x:Str):Prop:=X.env.kindOf x=some .globalImplicit
theorem D5{E:Value→Shared→Prop}{pins:List (Addr×Obj)}{s:Shared}{σ:St}{H:Hp}{x:Str}{u:Value}{pos:Pos}{Q:Value→Shared→Prop}(I:Inv X pins σ H s)(hg:Gl X x)(hm:X.mg x=some u)(h:Q u s)(hd:(x == ("__debug__" : Str))=false:=by decide):wpAny (model X.prog X.w) X.A (eval (.Name x pos) X.env) Q E s:=
 Calls.Name_function_global I.ok.kind hg (Calls.loadGlobal_global (by rw[I.ok.glob];exact I.mod.glob.keeps I.bk) hm h) hd
theorem Df{E:Value→Shared→Prop}{pins:List (Addr×Obj)}{s:Shared}{σ:St}{H:Hp}{x:Str}{u:Value}{pos:Pos}{Q:Value→Shared→Prop}(I:Inv X pins σ H s)(hg:Gl X x)(hm:X.mg x=none)(hv:bootBuiltins x=some u)(h:Q u s)(hn:x≠"__name__":=by decide)(hd:(x == ("__debug__" : Str))=false:=by decide):wpAny (model X.prog X.w) X.A (eval (.Name x pos) X.env) Q E s:=by
 obtain⟨mb,h1,h2⟩:=I.mod.blt;exact Calls.Name_function_global I.ok.kind hg (Calls.loadGlobal_builtin (by rw[I.ok.glob];exact I.mod.glob.keeps I.bk) hm (by rw[I.ok.blt];exact h1.keeps I.bk) ((h2 x hn).trans hv) h) hd
theorem Qi{x:Str}{v:V}{u:Value}{pos:Pos}(hg:Gl X x)(hm:X.mg x=some u)(r:RelV v u)(hd:(x == ("__debug__" : Str))=false:=by decide):PE X (.Name x pos) (tC v):=
 fun _ _ _ H _ I h=>D5 I hg hm ⟨v,H,I,r,h⟩ hd
theorem Zn{x:Str}{v:V}{u:Value}{pos:Pos}(hg:Gl X x)(hm:X.mg x=none)(hv:bootBuiltins x=some u)(r:RelV v u)(hn:x≠"__name__":=by decide)(hd:(x == ("__debug__" : Str))=false:=by decide):PE X (.Name x pos) (tC v):=
 fun _ _ _ H _ I h=>Df I hg hm hv ⟨v,H,I,r,h⟩ hn hd

variable{a b:Expr}{ta tb:TE}{pos:Pos}
variable{tA tB':TT}{rest:List Expr}
def tAnd(t u:TT):TT:=fun σ H Q=>t σ H fun c H1=>if c=true then u σ H1 Q else Q false H1
def tOr(t u:TT):TT:=fun σ H Q=>t σ H fun c H1=>if c=true then Q true H1 else u σ H1 Q
def tNot(t:TT):TT:=fun σ H Q=>t σ H fun c H1=>Q (!c) H1
theorem Za(ha:PT X a tA):PW X (.BoolOp .And [a] pos) tA:=by
 intro wh pins s σ H Q I h;refine isTrue_and (thn (ha pins s σ H Q I h) fun c s1 e=>?_);cases c with
 |true=>exact isTrue_and_nil e
 |false=>exact e
theorem Acz(ha:PT X a tA):PW X (.BoolOp .Or [a] pos) tA:=by
 intro wh pins s σ H Q I h;refine isTrue_or (thn (ha pins s σ H Q I h) fun c s1 e=>?_);cases c with
 |false=>exact isTrue_or_nil e
 |true=>exact e
theorem Ac0(ha:PT X a tA)(hb:PW X (.BoolOp .And (b::rest) pos) tB'):PW X (.BoolOp .And (a::b::rest) pos) (tAnd tA tB'):=by
 intro wh pins s σ H Q I h;refine isTrue_and (thn (ha pins s σ H _ I h) fun c s1 zz=>?_);obtain⟨H1,I1,q1⟩:=zz;cases c with
 |true=>exact hb wh pins s1 σ H1 Q I1 q1
 |false=>exact⟨H1,I1,q1⟩
theorem pw_or(ha:PT X a tA)(hb:PW X (.BoolOp .Or (b::rest) pos) tB'):PW X (.BoolOp .Or (a::b::rest) pos) (tOr tA tB'):=by
 intro wh pins s σ H Q I h;refine isTrue_or (thn (ha pins s σ H _ I h) fun c s1 zz=>?_);obtain⟨H1,I1,q1⟩:=zz;cases c with
 |true=>exact⟨H1,I1,q1⟩
 |false=>exact hb wh pins s1 σ H1 Q I1 q1
theorem Ac1(ha:PT X a tA):PT X (.UnaryOp .Not a pos) (tNot tA):=by
 intro pins s σ H Q I h;exact isTrue_not (ha pins s σ H (fun c H1=>Q (!c) H1) I h)
def tAndV(ta tb:TE):TE:=fun σ H Q=>ta σ H fun x H1=>∃c,x=.bl c∧if c=true then tb σ H1 Q else Q (.bl false) H1
def tNotV(ta:TE):TE:=fun σ H Q=>ta σ H fun x H1=>∃c,x=.bl c∧Q (.bl (!c)) H1
theorem Adf{op}{t:TE}(h:PE X a t):PE X (.BoolOp op [a] pos) t:=fun pins s σ H Q I hw=>BoolOp_one (h pins s σ H Q I hw)
theorem Adl(ha:PE X a ta)(hb:PE X (.BoolOp .And (b::rest) pos) tb):PE X (.BoolOp .And (a::b::rest) pos) (tAndV ta tb):=by
 intro pins s σ H Q I h;refine BoolOp_and (thn (ha pins s σ H _ I h) fun v s1 zz=>?_);obtain⟨x,H1,I1,r1,q1⟩:=zz;obtain⟨c,rfl,q1⟩:=q1;cases r1;refine wpAny_truthy_bool ?_;cases c with
 |true=>exact hb pins s1 σ H1 Q I1 q1
 |false=>exact⟨.bl false,H1,I1,rfl,q1⟩
theorem Adg(ha:PE X a ta):PE X (.UnaryOp .Not a pos) (tNotV ta):=by
 intro pins s σ H Q I h;refine UnaryOp_ (thn (ha pins s σ H _ I h) fun v s1 zz=>?_);obtain⟨x,H1,I1,r1,q1⟩:=zz;obtain⟨c,rfl,q1⟩:=q1;cases r1;exact not_of (wpAny_truthy_bool ⟨.bl (!c),H1,I1,rfl,q1⟩)
def tIf(t:TT)(ta tb:TE):TE:=fun σ H Q=>t σ H fun c H1=>if c=true then ta σ H1 Q else tb σ H1 Q
theorem Wh{c:Expr}(hc:PT X c tA)(ha:PE X a ta)(hb:PE X b tb):PE X (.IfExp c a b pos) (tIf tA ta tb):=by
 intro pins s σ H Q I h;refine wpAny_IfExp (thn (hc pins s σ H _ I h) fun d s1 zz=>?_);obtain⟨H1,I1,q1⟩:=zz;cases d with
 |true=>exact ha pins s1 σ H1 Q I1 q1
 |false=>exact hb pins s1 σ H1 Q I1 q1
end
end L2
namespace L2
open PySem PySem.Spec PyProof.Rows
def SqL(K:W.Frag)(H:Hp)(a:Addr)(xs:List V):Prop:=
 Rd H a (.lst xs)∨
  ∃(o:Obj) (its:Array Value) (n:Nat),K.lookup a=some o∧o.cls=.type "list"∧o.dict=none∧o.data=.seq its n∧its.size≤sizeLine∧Vals xs its.toList
def SqT(K:W.Frag)(H:Hp)(a:Addr)(xs:List V):Prop:=
 Rd H a (.tup xs)∨
  ∃(o:Obj) (its:Array Value) (n:Nat),K.lookup a=some o∧o.cls=.type "tuple"∧o.data=.seq its n∧its.size≤sizeLine∧Vals xs its.toList
def absV:Value→Option V
 |.none=>some .non
 |.bool b=>some (.bl b)
 |.int i _=>some (.int i)
 |.str x _=>some (.str x)
 |.bytes b _=>some (.byt b)
 |.float b _=>some (.flt b)
 |.ref a=>some (.ref a)
 |.type n=>some (.ty n)
 |_=>none
theorem RelV.abs{x:V}{u:Value}(r:RelV x u):absV u=some x:=by
 cases x with
 |non=>cases r;rfl
 |bl _=>cases r;rfl
 |int _=>obtain⟨t,rfl⟩:=r;rfl
 |str _=>obtain⟨t,rfl⟩:=r;rfl
 |byt _=>obtain⟨t,rfl⟩:=r;rfl
 |flt _=>obtain⟨t,rfl⟩:=r;rfl
 |ref _=>cases r;rfl
 |ty _=>cases r;rfl
theorem RelV.inj{x y:V}{u:Value}(r:RelV x u)(q:RelV y u):x=y:=Option.some.inj (r.abs.symm.trans q.abs)
theorem Vals.inj:∀{xs ys:List V} {us:List Value},Vals xs us→Vals ys us→xs=ys
 |_,_,_,.nil,.nil=>rfl
 |_,_,_,.cons r t,.cons r' t'=>by rw[r.inj r',Vals.inj t t']
section
variable{X:Cx}{pins:List (Addr×Obj)}{σ:St}{H:Hp}{s:Shared}{a:Addr}{xs ys:List V}
theorem Inv.list(I:Inv X pins σ H s)(h:SqL X.K H a xs):∃its:List Value,Vals xs its∧PlainL s.heap a its.toArray∧xs.length≤sizeLine:=by
 rcases h with h|⟨o,its,n,hk,hc,hd,hs,hz,r⟩
 ·obtain⟨z,its,n,r,e⟩:=h.ok I.hok;exact⟨its,r,⟨_,n,e,rfl,rfl,rfl⟩,z⟩
 ·refine⟨its.toList,r,⟨o,n,I.kIn a o hk,hc,hd,by simpa using hs⟩,?_⟩
  have e:=r.length;simp only[Array.length_toList] at e;omega
theorem Inv.tuple(I:Inv X pins σ H s)(h:SqT X.K H a xs):∃its:List Value,Vals xs its∧IsTup s.heap a its.toArray∧xs.length≤sizeLine:=by
 rcases h with h|⟨o,its,n,hk,hc,hs,hz,r⟩
 ·obtain⟨z,its,r,p⟩:=h.ok I.hok;exact⟨its,r,p,z⟩
 ·refine⟨its.toList,r,⟨o,I.kIn a o hk,hc,n,by simpa using hs⟩,?_⟩
  have e:=r.length;simp only[Array.length_toList] at e;omega
theorem Inv.list_inj(I:Inv X pins σ H s)(h:SqL X.K H a xs)(h':SqL X.K H a ys):xs=ys:=by
 obtain⟨its,r,⟨o,n,e,_,_,d⟩,_⟩:=I.list h;obtain⟨its',r',⟨o',n',e',_,_,d'⟩,_⟩:=I.list h';rw[e] at e';cases e';rw[d] at d';injection d' with d1 _
 have:its=its':=by simpa using congrArg Array.toList d1
 subst this;exact r.inj r'
theorem Inv.tuple_inj(I:Inv X pins σ H s)(h:SqT X.K H a xs)(h':SqT X.K H a ys):xs=ys:=by
 obtain⟨its,r,⟨o,e,_,n,d⟩,_⟩:=I.tuple h;obtain⟨its',r',⟨o',e',_,n',d'⟩,_⟩:=I.tuple h';rw[e] at e';cases e';rw[d] at d';injection d' with d1 _
 have:its=its':=by simpa using congrArg Array.toList d1
 subst this;exact r.inj r'
end
abbrev Cx.wish(X:Cx)(E:Value→Shared→Prop):Cx:={ X with xe:=E }
abbrev Cx.nox(X:Cx):Cx:=X.wish fun _ _=>False
theorem Cx.Ok.wish{X:Cx}(ok:X.Ok)(E:Value→Shared→Prop):(X.wish E).Ok:=
 ⟨ok.mod,ok.kind,ok.glob,ok.blt,ok.above,ok.inj,ok.has,ok.cab,ok.hd,ok.frames,ok.stk,ok.exf,ok.bs,ok.bsz,ok.noex,ok.exfs,ok.funs,ok.frf⟩
theorem Cx.Ok.unwish{X:Cx}{E:Value→Shared→Prop}(ok:(X.wish E).Ok):X.Ok:=
 ⟨ok.mod,ok.kind,ok.glob,ok.blt,ok.above,ok.inj,ok.has,ok.cab,ok.hd,ok.frames,ok.stk,ok.exf,ok.bs,ok.bsz,ok.noex,ok.exfs,ok.funs,ok.frf⟩
section
variable{X:Cx}{pins:List (Addr×Obj)}{σ:St}{H:Hp}{s:Shared}{E:Value→Shared→Prop}
theorem Inv.wish(I:Inv X pins σ H s)(E:Value→Shared→Prop):Inv (X.wish E) pins σ H s:=⟨I.ok.wish E,I.os,I.bare,I.base,I.loc,I.cell,I.free,I.freeC,I.pin,I.hok,I.len⟩
theorem Inv.unwish(I:Inv (X.wish E) pins σ H s):Inv X pins σ H s:=⟨I.ok.unwish,I.os,I.bare,I.base,I.loc,I.cell,I.free,I.freeC,I.pin,I.hok,I.len⟩
theorem SP.unwish{D:Ends}{f:Flow}{s':Shared}(h:SP (X.wish E) pins D f s'):SP X pins D f s':=by
 cases f with
 |next=>obtain⟨σ',H',I,q⟩:=h;exact⟨σ',H',I.unwish,q⟩
 |brk=>obtain⟨σ',H',I,q⟩:=h;exact⟨σ',H',I.unwish,q⟩
 |cont=>obtain⟨σ',H',I,q⟩:=h;exact⟨σ',H',I.unwish,q⟩
 |ret u=>obtain⟨v,σ',H',I,r,q⟩:=h;exact⟨v,σ',H',I.unwish,r,q⟩
theorem PSs.nox{st:List Stmt}{t:TS}(h:PSs X.nox st t):PSs X st t:=fun pins s σ H D I hw=>
 wpAny_mono (h pins s σ H D (I.wish _) hw) (fun _ _ q=>q.unwish) fun _ _ z=>False.elim z
end
section
variable{X:Cx}{st:Stmt}{rest:List Stmt}{t u:TS}{e:Expr}{te:TE}{pos:Pos}
def tNext:TS:=fun D σ H=>D.nx σ H
def tSeq(t u:TS):TS:=fun D σ H=>t { D with nx:=u D } σ H
theorem pss_nil:PSs X [] tNext:=fun _ _ σ H _ I h=>wpAny_execs_nil ⟨σ,H,I,h⟩
theorem V7(h1:PS X st t)(h2:PSs X rest u):PSs X (st::rest) (tSeq t u):=by
 intro pins s σ H D I h;refine wpAny_execs_cons (thn (h1 pins s σ H { D with nx:=u D } I h) fun f s1 q=>?_);cases f with
 |next=>
  obtain⟨σ',H',I',q⟩:=q;exact h2 pins s1 σ' H' D I' q
 |ret v=>exact q
 |brk=>exact q
 |cont=>exact q
theorem Gs(h1:PS X st t):PSs X [st] t:=by
 intro pins s σ H D I h;refine wpAny_execs_cons (thn (h1 pins s σ H D I h) fun f s1 q=>?_);cases f with
 |next=>exact wpAny_execs_nil q
 |ret v=>exact q
 |brk=>exact q
 |cont=>exact q
theorem Inv.quiet{pins:List (Addr×Obj)}{σ:St}{H:Hp}{s:Shared}(I:Inv X pins σ H s):interactive X.env=false:=by simp[interactive,I.ok.kind]
def tDrop(te:TE):TS:=fun D σ H=>te σ H fun _ H1=>D.nx σ H1
theorem Ze(he:PE X e te)(hs:swapsWith e none pos.line X.env=pure false:=by rfl):PS X (.Expr e pos) (tDrop te):=by
 intro pins s σ H D I h;exact wpAny_Expr_any (thn (he pins s σ H _ I h) fun v s1 ⟨x,H1,I1,r1,q1⟩=>⟨σ,H1,I1,q1⟩) I.quiet hs
def tRet(te:TE):TS:=fun D σ H=>te σ H D.rt
theorem Os(he:PE X e te):PS X (.Return (some e) pos) (tRet te):=by
 intro pins s σ H D I h;exact wpAny_Return_some (thn (he pins s σ H _ I h) fun v s1 ⟨x,H1,I1,r1,q1⟩=>⟨x,σ,H1,I1,r1,q1⟩)
def tIfS(c:TT)(t u:TS):TS:=fun D σ H=>c σ H fun b H1=>if b=true then t D σ H1 else u D σ H1
theorem Aa4{c:Expr}{a b:List Stmt}{tc:TT}(hc:PT X c tc)(ha:PSs X a t)(hb:PSs X b u):PS X (.If c a b pos) (tIfS tc t u):=by
 intro pins s σ H D I h;refine wpAny_If (thn (hc pins s σ H _ I h) fun d s1 zz=>?_);obtain⟨H1,I1,q1⟩:=zz;cases d with
 |true=>exact ha pins s1 σ H1 D I1 q1
 |false=>exact hb pins s1 σ H1 D I1 q1
def Ab0:TS:=fun _ _ _=>False
theorem ps_never:PS X st Ab0:=fun _ _ _ _ _ _ h=>h.elim
end
abbrev TG:=V→St→Hp→(St→Hp→Prop)→Prop
abbrev TGs:=List V→St→Hp→(St→Hp→Prop)→Prop
def PG(X:Cx)(target:Expr)(t:TG):Prop:=
 ∀(pins:List (Addr×Obj)) (s:Shared) (σ:St) (H:Hp) (v:V) (u:Value) (Q:St→Hp→Prop),Inv X pins σ H s→RelV v u→t v σ H Q→
  wpAny (model X.prog X.w) X.A (assign target X.env u) (fun _ s'=>∃σ' H',Inv X pins σ' H' s'∧Q σ' H') X.xe s
def PGs(X:Cx)(ts:List Expr)(t:TGs):Prop:=
 ∀(pins:List (Addr×Obj)) (s:Shared) (σ:St) (H:Hp) (vs:List V) (us:List Value) (Q:St→Hp→Prop),Inv X pins σ H s→Vals vs us→t vs σ H Q→
  wpAny (model X.prog X.w) X.A (assignInOrder ((assignEach ts X.env).map (·.2)) us) (fun _ s'=>∃σ' H',Inv X pins σ' H' s'∧Q σ' H') X.xe s
abbrev Tl:=V→V→V→Hp→(Hp→Prop)→Prop
def PSet(X:Cx)(t:Tl):Prop:=
 ∀(pins:List (Addr×Obj)) (s:Shared) (σ:St) (H:Hp) (o i v:V) (ov iv u:Value) (Q:Hp→Prop),Inv X pins σ H s→RelV o ov→RelV i iv→RelV v u→t o i v H Q→
  wpAny (model X.prog X.w) X.A (setItem ov iv u) (fun _ s'=>∃H',Inv X pins σ H' s'∧Q H') X.xe s
abbrev TIp:=V→V→Hp→VK→Prop
def PIp(X:Cx)(op:Operator)(t:TIp):Prop:=
 ∀(pins:List (Addr×Obj)) (s:Shared) (σ:St) (H:Hp) (x y:V) (v u:Value) (Q:VK),Inv X pins σ H s→RelV x v→RelV y u→t x y H Q→
  wpAny (model X.prog X.w) X.A (inplaceOp op v u) (EP X pins σ Q) X.xe s
section
variable{X:Cx}{pos:Pos}
def T4(i:Nat):TG:=fun v σ H Q=>Q (σ.set i (some v)) H
theorem Zi{i:Nat}{x:Str}(hN:X.N.Nodup)(hi:X.N[i]? = some x)(hx:Loc X.env.scope x)(hf:X.fn x=true∨X.env.scope.names.lookup x=some .local:=by first|exact .inl rfl|exact .inr rfl|assumption):PG X (.Name x pos) (T4 i):=by
 intro pins s σ H v u Q I r h;exact wpAny_assign_Name (Cs I hN hi hx r (fun s' I'=>⟨_,H,I',h⟩) hf)
def gNil:TGs:=fun vs σ H Q=>vs=[]∧Q σ H
def gCons(t:TG)(u:TGs):TGs:=fun vs σ H Q=>∃v r,vs=v::r∧t v σ H fun σ' H'=>u r σ' H' Q
theorem pgs_nil:PGs X [] gNil:=by
 intro pins s σ H vs us Q I r h;obtain⟨e,h⟩:=h;subst e;cases r;exact assignInOrder_nil ⟨σ,H,I,h⟩
theorem Wc{e:Expr}{es:List Expr}{t:TG}{u:TGs}(h1:PG X e t)(h2:PGs X es u)(hs:(assignEach (e::es) X.env).map (·.2)=assign e X.env::(assignEach es X.env).map (·.2):=by rfl):PGs X (e::es) (gCons t u):=by
 intro pins s σ H vs us Q I r h;obtain⟨v,vr,e1,h⟩:=h;subst e1;cases r with
 |cons r rr=>
  rw[hs];refine assignInOrder_cons (thn (h1 pins s σ H _ _ _ I r h) fun _ s1 zz=>?_);obtain⟨σ1,H1,I1,q1⟩:=zz;exact h2 pins s1 σ1 H1 _ _ Q I1 rr q1
def gTup(K:W.Frag)(n:Nat)(t:TGs):TG:=fun v σ H Q=>∃a xs,v=.ref a∧SqT K H a xs∧xs.length=n∧t xs σ H Q
theorem Ac8{es:List Expr}{k:Nat}{t:TGs}{n:Nat}(hc:X.calm=true)(h:PGs X es t)(hn:(assignEach es X.env).length=n:=by rfl)(hst:(assignEach es X.env).findIdx? (·.1)=none:=by rfl):PG X (.Tuple es k pos) (gTup X.K n t):=by
 intro pins s σ H v u Q I r hw;obtain⟨a,xs,e1,hq,hl,hw⟩:=hw;subst e1;cases r;obtain⟨its,rv,ht,hz⟩:=I.tuple hq;refine assign_Tuple_tuple (I.ok.hd hc) ht (by simp[hn,←hl,rv.length]) hst fun h' hx=>?_
 have I1:Inv X pins σ H { s with heap:=h' }:=I.kept (t':=s.toks) fun b o e=>hx b o (Nat.ne_of_lt (Heap.lt_size e)) e;exact h pins _ σ H xs _ Q I1 (by simpa using rv) hw
def gSub(to ti:TE)(t:Tl):TG:=fun v σ H Q=>to σ H fun o H1=>ti σ H1 fun i H2=>t o i v H2 fun H3=>Q σ H3
theorem Ac9{o i:Expr}{to ti:TE}{t:Tl}(ho:PE X o to)(hi:PE X i ti)(hs:PSet X t)(ha:∀v,assign (.Subscript o i pos) X.env v=(do
   let ov ←holding [v] (eval o X.env)
   let iv ←holding [v,ov] (eval i X.env)
   standAt pos
   holding [v,ov,iv] (setItem ov iv v)
   release [v,ov,iv] []):=by intro _;rfl):PG X (.Subscript o i pos) (gSub to ti t):=by
 intro pins s σ H v u Q I r h;rw[ha];refine wpAny_bind (wpAny_holding (thn (ho pins s σ H _ I h) fun ov s1 zz=>?_));obtain⟨x,H1,I1,r1,q1⟩:=zz;refine wpAny_bind (wpAny_holding (thn (hi pins s1 σ H1 _ I1 q1) fun iv s2 zz=>?_));obtain⟨y,H2,I2,r2,q2⟩:=zz;refine wpAny_bind (wpAny_standAt (wpAny_bind (wpAny_holding (thn (hs pins s2 σ H2 x y v ov iv u _ I2 r1 r2 r q2) fun _ s3 zz=>?_))));obtain⟨H3,I3,q3⟩:=zz;exact wpAny_release ⟨σ,H3,I3,q3⟩
def X8(te:TE)(g:TG):TS:=fun D σ H=>te σ H fun x H1=>g x σ H1 D.nx
theorem Ac5{tg e:Expr}{te:TE}{g:TG}(he:PE X e te)(hg:PG X tg g)(hs:swapsWithSole [tg] e pos.line X.env=pure false:=by rfl)(hw:swappedStores [tg] e X.env=pure none:=by rfl)(h1:(assignEach [tg] X.env).map (·.2)=[assign tg X.env]:=by rfl):PS X (.Assign [tg] e pos) (X8 te g):=by
 intro pins s σ H D I h;refine wpAny_Assign_stores (thn (he pins s σ H _ I h) fun v s1 ⟨x,H1,I1,r1,q1⟩=>?_) hs hw;rw[h1];exact thn (hg pins s1 σ H1 x v _ I1 r1 q1) fun _ s2 q=>q
theorem Ac3{i:Nat}{x:Str}{e:Expr}{te:TE}{pos':Pos}(hN:X.N.Nodup)(hi:X.N[i]? = some x)(hx:Loc X.env.scope x)(he:PE X e te)(hs:swapsWith e (some (.Name x pos')) pos.line X.env=pure false:=by rfl)(hf:X.fn x=true∨X.env.scope.names.lookup x=some .local:=by first|exact .inl rfl|exact .inr rfl|assumption) :
  PS X (.Assign [.Name x pos'] e pos) (X8 te (T4 i)):=by
 intro pins s σ H D I h;refine wpAny_Assign_Name (thn (he pins s σ H _ I h) fun v s1 ⟨y,H1,I1,r1,q1⟩=>?_) hs;exact Cs I1 hN hi hx r1 (fun s2 I2=>⟨_,H1,I2,q1⟩) hf
def tAug(i:Nat)(te:TE)(ti:TIp):TS:=fun D σ H=>∃x,σ[i]? = some (some x)∧te σ H fun y H1=>ti x y H1 fun z H2=>D.nx (σ.set i (some z)) H2
theorem Ac4{i:Nat}{x:Str}{e:Expr}{te:TE}{op:Operator}{ti:TIp}{pos':Pos}(hN:X.N.Nodup)(hi:X.N[i]? = some x)(hx:Loc X.env.scope x)(he:PE X e te)(ho:PIp X op ti)(hf:X.fn x=true∨X.env.scope.names.lookup x=some .local:=by first|exact .inl rfl|exact .inr rfl|assumption) :
  PS X (.AugAssign (.Name x pos') op e pos) (tAug i te ti):=by
 intro pins s σ H D I h;obtain⟨v,e1,h⟩:=h;obtain⟨m,hn,hl⟩:=I.loc;have vis:Vis X.env.scope x:=by rcases hx with k|k;exact .inl k;exact .inr (.inl k)
 obtain⟨u,r,l⟩:=hl i x v hi e1 vis;refine wpAny_AugAssign_Name ?_;have go:wpAny (model X.prog X.w) X.A (eval e X.env) (fun w s₂=>wpAny (model X.prog X.w) X.A (inplaceOp op u w) (fun r s₃=>wpAny (model X.prog X.w) X.A (storeName X.env x r) (fun _=>SP X pins D .next) X.xe s₃) X.xe s₂) X.xe s:=by
  refine thn (he pins s σ H _ I h) fun w s1 zz=>?_;obtain⟨y,H1,I1,r1,q1⟩:=zz;refine thn (ho pins s1 σ H1 v y u w _ I1 r r1 q1) fun z s2 zz=>?_;obtain⟨zv,H2,I2,r2,q2⟩:=zz;exact Cs I2 hN hi hx r2 (fun s3 I3=>⟨_,H2,I3,q2⟩) hf
 rcases l with ⟨hk,hm⟩|⟨hk,c,hc,hcell⟩
 ·exact wpAny_loadName_local I.ok.kind hk hn hm go
 ·rcases hk with hk|hk
  ·exact wpAny_loadName_cell I.ok.kind hk hc hcell go
  ·rcases hx with k|k
   ·have:X.env.scope.names.lookup x=some .free:=hk
    rw[k] at this;cases this
   ·have:X.env.scope.names.lookup x=some .free:=hk
    rw[k] at this;cases this
def ipI(f:Int→Int→Int):TIp:=fun x y H Q=>∃i j,x=.int i∧y=.int j∧Q (.int (f i j)) H
theorem Aed:PIp X .Add (ipI fun i j=>i+j):=by
 intro pins s σ H x y v u Q I r1 r2 h;obtain⟨i,j,e1,e2,q⟩:=h;subst e1;subst e2;obtain⟨t,rfl⟩:=r1;obtain⟨t',rfl⟩:=r2;exact iadd_int ⟨.int _,H,I.tok _,⟨_,rfl⟩,q⟩
theorem Aec:PIp X .Sub (ipI fun i j=>i-j):=by
 intro pins s σ H x y v u Q I r1 r2 h;obtain⟨i,j,e1,e2,q⟩:=h;subst e1;subst e2;obtain⟨t,rfl⟩:=r1;obtain⟨t',rfl⟩:=r2;exact isub_int ⟨.int _,H,I.tok _,⟨_,rfl⟩,q⟩
def Abz(c:TT)(tb:TS):TS:=fun D σ H=>∃W:Nat→St→Hp→Prop,(∃m,W m σ H)∧∀m σ H,W m σ H→
 c σ H fun b H1=>if b=true then ∃N:St→Hp→Prop,(∀σ' H',N σ' H'→∃m',m'<m∧W m' σ' H')∧tb { D with nx:=N,ct:=N,bk:=D.nx } σ H1 else D.nx σ H1
theorem V8{c:Expr}{body:List Stmt}{tc:TT}{tb:TS}(hp:PassesOwn (model X.prog X.w) X.A X.env X.xe)(hc:PT X c tc)(hb:PSs X body tb):PS X (.While c body [] pos) (Abz tc tb):=by
 intro pins s σ H D I h;obtain⟨W,⟨m0,w0⟩,turn⟩:=h;refine wpAny_While (codeAny_whileLoop (fun n s'=>∃σ' H',Inv X pins σ' H' s'∧W n σ' H') ?_ m0 ⟨σ,H,I,w0⟩);rintro n s1 ⟨σ1,H1,I1,w1⟩;refine wpAny_passesOwn hp (thn (hc pins s1 σ1 H1 _ I1 (turn n σ1 H1 w1)) fun b s2 zz=>?_);obtain⟨H2,I2,q2⟩:=zz;cases b with
 |true=>
  obtain⟨N,hN,q2⟩:=q2;rw[if_pos rfl];refine wpAny_passesOwn hp (thn (hb pins s2 σ1 H2 _ I2 q2) fun f s3 q3=>?_);cases f with
  |next=>
   obtain⟨σ3,H3,I3,n3⟩:=q3;obtain⟨m',hm,w3⟩:=hN σ3 H3 n3;exact⟨m',hm,σ3,H3,I3,w3⟩
  |cont=>
   obtain⟨σ3,H3,I3,n3⟩:=q3;obtain⟨m',hm,w3⟩:=hN σ3 H3 n3;exact⟨m',hm,σ3,H3,I3,w3⟩
  |brk=>exact q3
  |ret v=>exact q3
 |false=>
  rw[if_neg Bool.false_ne_true];exact wpAny_execs_nil ⟨σ1,H2,I2,q2⟩
end
structure It where
 go:Nat→Hp→Prop
 yld:Nat→Hp→V→Hp→Prop
 stop:Nat→Hp→Prop
def Dl(X:Cx)(pins:List (Addr×Obj))(H:Hp)(b:Addr):Prop:=
 H b=none∧b≠X.env.locals∧b ∉ X.fs∧(b∈X.ex∨X.s₀.heap.objs.size≤b)∧(∀x c,X.env.cells.lookup x=some c→c≠b)∧∀p∈X.pn++pins,p.1≠b
theorem Inv.fpOk{X:Cx}{pins:List (Addr×Obj)}{σ:St}{H H':Hp}{s:Shared}{b:Addr}(I:Inv X pins σ H s)(hb:s.heap.objs.size≤b)(hn:H' b=none):Dl X pins H' b:=by
 refine⟨hn,Nat.ne_of_gt (Nat.lt_of_lt_of_le I.lt hb),I.nofs hb,.inr (Nat.le_trans I.sz hb),fun x c e z=>?_,fun p hp z=>?_⟩
 ·obtain⟨v,q⟩:=I.cell x c e;exact absurd (Nat.lt_of_lt_of_le q.lt (by rw[z];exact hb)) (Nat.lt_irrefl _)
 ·exact absurd (Nat.lt_of_lt_of_le (Heap.lt_size (I.pin p hp).1) (by rw[z];exact hb)) (Nat.lt_irrefl _)
structure Turn(P:Program)(w:World)(K:W.Frag)(tg:Expr)(J:It)(fp:List Addr)(it:Addr)(tn:Nat→Heap→Prop):Prop where
 mem:it∈fp
 obj:∀i h,tn i h→∀b∈fp,∃o,h.get? b=some o∧∀v,o.data≠.cell v
 keep:∀i h h',tn i h→(∀b∈fp,∀o,h.get? b=some o→h'.get? b=some o)→tn i h'
 item:∀(X:Cx),X.prog=P→X.w=w→X.K=K→X.calm=true→∀(i:Nat) (pins:List (Addr×Obj)) (s:Shared) (σ:St) (H:Hp) (E:Value→Shared→Prop),Inv X pins σ H s→(∀b∈fp,Dl X pins H b)→tn i s.heap→J.go i H→
  wpAny (model P w) X.A (pyNext (.ref it)) (fun r s1=>∃u,r=some u∧
   wpAny (model P w) X.A (letOwnedTupleGo tg (.ref it) u) (fun _ s2=>∃x H',Inv X pins σ H' s2∧RelV x u∧J.yld i H x H'∧tn (i+1) s2.heap∧∀b∈fp,H' b=none) E s1) E s
 done:∀(X:Cx),X.prog=P→X.w=w→X.K=K→X.calm=true→∀(i:Nat) (pins:List (Addr×Obj)) (s:Shared) (σ:St) (H:Hp) (E:Value→Shared→Prop),Inv X pins σ H s→(∀b∈fp,Dl X pins H b)→tn i s.heap→J.stop i H→
  wpAny (model P w) X.A (pyNext (.ref it)) (fun r s1=>r=none∧Inv X pins σ H s1) E s
 self:∀(A:Around) (i:Nat) (s:Shared) (Q:Value→Shared→Prop) (E:Value→Shared→Prop),tn i s.heap→Q (.ref it) s→wpAny (model P w) A (pyIter (.ref it)) Q E s
abbrev TI:=St→Hp→(It→Hp→Prop)→Prop
def PIE(X:Cx)(pins:List (Addr×Obj))(σ:St)(tg:Expr)(R:It→Hp→Prop)(itv:Value)(s2:Shared):Prop:=
 ∃(it:Addr) (fp:List Addr) (tn:Nat→Heap→Prop) (J:It) (H':Hp),itv=.ref it∧Inv X pins σ H' s2∧Turn X.prog X.w X.K tg J fp it tn∧tn 0 s2.heap∧(∀b∈fp,Dl X pins H' b)∧R J H'
def PI(X:Cx)(tg iter:Expr)(wi:TI):Prop:=
 ∀(pins:List (Addr×Obj)) (s:Shared) (σ:St) (H:Hp) (R:It→Hp→Prop),Inv X pins σ H s→wi σ H R→
  wpAny (model X.prog X.w) X.A (eval iter X.env) (fun v s1=>wpAny (model X.prog X.w) X.A (pyIter v) (PIE X pins σ tg R) X.xe s1) X.xe s

theorem Mp {M:Model} {A:Around} {E:Value→Shared→Prop} {s:Shared} {tg:Expr} {it:Addr} {u:Value} {o:Obj} {n:String} {vs:Array Value} {Q:Unit→Shared→Prop} (ho:s.heap.get? it=some o) (hc:o.cls=.type n) (hd:o.data=.fields vs)
    (hn:["enumerate", "zip", "dict_itemiterator", "dict_reverseitemiterator", "odict_iterator", "itertools.zip_longest", "itertools.pairwise"].contains n=false) (hQ:Q () s):wpAny M A (letOwnedTupleGo tg (.ref it) u) Q E s:=by
  unfold letOwnedTupleGo;cases tg<;>first
    | exact wpAny_pure hQ
    | (cases u<;>first
        | exact wpAny_pure hQ
        | (refine wpAny_bind (wpAny_load ho ?_)
           rw [hc,hd];show wpAny M A (if (["enumerate", "zip", "dict_itemiterator", "dict_reverseitemiterator", "odict_iterator", "itertools.zip_longest", "itertools.pairwise"].contains n&&vs[0]? == some (rawInt _))=true then _ else _) Q E s;rw [if_neg (by intro h;rw [hn,Bool.false_and] at h;cases h)]
           exact wpAny_pure hQ))

def Itl(K:W.Frag)(a:Addr):It:=
 ⟨fun i H=>∃xs x,SqL K H a xs∧xs[i]? = some x,fun i H x H'=>H'=H∧∀xs,SqL K H a xs→xs[i]? = some x,fun i H=>∃xs,SqL K H a xs∧xs.length≤i⟩
def Itt(K:W.Frag)(a:Addr):It:=
 ⟨fun i H=>∃xs x,SqT K H a xs∧xs[i]? = some x,fun i H x H'=>H'=H∧∀xs,SqT K H a xs→xs[i]? = some x,fun i H=>∃xs,SqT K H a xs∧xs.length≤i⟩
def Itr(lo:Int)(n:Nat):It:=⟨fun i _=>i<n,fun i H x H'=>H'=H∧x=.int (lo+i),fun i _=>n≤i⟩
theorem Rg{P:Program}{w:World}{K:W.Frag}{tg:Expr}(a it:Addr):Turn P w K tg (Itl K a) [it] it (fun i h=>h.IsListIter it a i) where
 mem:=by simp
 obj:=fun i h st b hb=>by
  have e:b=it:=by simpa using hb
  subst e;obtain⟨o,e,c,d⟩:=st;exact⟨o,e,fun v z=>by rw[d] at z;cases z⟩
 keep:=fun i h h' st k=>st.at fun o e=>k it (by simp) o e
 item:=by
  intro X hP hw hK hc i pins s σ H E I hf st hg;subst hP hw hK;obtain⟨xs,x,hq,hx⟩:=hg;obtain⟨its,rv,p,hz⟩:=I.list hq;obtain⟨u,hu,ru⟩:=rv.get hx;obtain⟨f0,f1,f2,f3,f4,f5⟩:=hf it (by simp)
  refine wpAny_pyNext_list_item st p.isList (x:=u) (by simpa using hu) fun h' st' sb=>?_
  have I1:Inv X pins σ H { s with heap:=h' }:=I.turned (t':=s.toks) (fun b o hb e=>(sb.2 b hb).trans e) f0 f1 f3 f4 f5;obtain⟨o,e,c,d⟩:=id st';exact⟨u,rfl,Mp (s:={ s with heap:=h' }) e c d (by decide) ⟨x,H,I1,ru,⟨rfl,fun ys hy=>by rw[I.list_inj hy hq];exact hx⟩,st',fun b hb=>(hf b hb).1⟩⟩
 done:=by
  intro X hP hw hK hc i pins s σ H E I hf st hg;subst hP hw hK;obtain⟨xs,hq,hx⟩:=hg;obtain⟨its,rv,p,hz⟩:=I.list hq;obtain⟨f0,f1,f2,f3,f4,f5⟩:=hf it (by simp)
  have hl:=rv.length;exact wpAny_pyNext_list_end (I.ok.hd hc) st p.isList (by simp;omega) fun h' eb=>⟨rfl,I.turned (t':=s.toks) (fun b o hb e=>eb b o hb e) f0 f1 f3 f4 f5⟩
 self:=fun _ _ _ _ _ st h=>wpAny_pyIter_listiter st h
theorem O2{P:Program}{w:World}{K:W.Frag}{tg:Expr}(a it:Addr):Turn P w K tg (Itt K a) [it] it (fun i h=>h.IsTupleIter it a i) where
 mem:=by simp
 obj:=fun i h st b hb=>by
  have e:b=it:=by simpa using hb
  subst e;obtain⟨o,e,c,d⟩:=st;exact⟨o,e,fun v z=>by rw[d] at z;cases z⟩
 keep:=fun i h h' st k=>st.at fun o e=>k it (by simp) o e
 item:=by
  intro X hP hw hK hc i pins s σ H E I hf st hg;subst hP hw hK;obtain⟨xs,x,hq,hx⟩:=hg;obtain⟨its,rv,p,hz⟩:=I.tuple hq;obtain⟨u,hu,ru⟩:=rv.get hx;obtain⟨f0,f1,f2,f3,f4,f5⟩:=hf it (by simp)
  refine wpAny_pyNext_tuple_item st (show s.heap.IsTuple a its.toArray from p) (x:=u) (by simpa using hu) fun h' st' sb=>?_
  have I1:Inv X pins σ H { s with heap:=h' }:=I.turned (t':=s.toks) (fun b o hb e=>(sb.2 b hb).trans e) f0 f1 f3 f4 f5;obtain⟨o,e,c,d⟩:=id st';exact⟨u,rfl,Mp (s:={ s with heap:=h' }) e c d (by decide) ⟨x,H,I1,ru,⟨rfl,fun ys hy=>by rw[I.tuple_inj hy hq];exact hx⟩,st',fun b hb=>(hf b hb).1⟩⟩
 done:=by
  intro X hP hw hK hc i pins s σ H E I hf st hg;subst hP hw hK;obtain⟨xs,hq,hx⟩:=hg;obtain⟨its,rv,p,hz⟩:=I.tuple hq;obtain⟨f0,f1,f2,f3,f4,f5⟩:=hf it (by simp)
  have hl:=rv.length;exact wpAny_pyNext_tuple_end (I.ok.hd hc) st (show s.heap.IsTuple a its.toArray from p) (by simp;omega) fun h' eb=>⟨rfl,I.turned (t':=s.toks) (fun b o hb e=>eb b o hb e) f0 f1 f3 f4 f5⟩
 self:=fun _ _ _ _ _ st h=>wpAny_pyIter_tupleiter st h
theorem O3{P:Program}{w:World}{K:W.Frag}{tg:Expr}(it:Addr)(lo:Int)(n:Nat):Turn P w K tg (Itr lo n) [it] it (fun i h=>IsRangeIter h it (lo+(i:Nat)*1) ((n:Int)-(i:Nat)) 1) where
 mem:=by simp
 obj:=fun i h st b hb=>by
  have e:b=it:=by simpa using hb
  subst e;exact⟨_,st,fun v z=>by
   have z':Data.fields _=Data.cell v:=z;cases z'⟩
 keep:=fun i h h' st k=>k it (by simp) _ st
 item:=by
  intro X hP hw hK hc i pins s σ H E I hf st hg;subst hP hw hK;obtain⟨f0,f1,f2,f3,f4,f5⟩:=hf it (by simp)
  have W:=Walks.range (prog:=X.prog) (w:=X.w) (I.ok.hd hc) it lo 1 n;refine W.item i s _ _ hg st fun v h' tk hv st' kk=>?_;obtain⟨t,rfl⟩:=hv;have I1:Inv X pins σ H { s with heap:=h',toks:=tk }:=I.turned (fun b o hb e=>kk b o (by simpa using hb) e) f0 f1 f3 f4 f5
  refine⟨_,rfl,Mp (s:={ s with heap:=h',toks:=tk }) (n:="range_iterator") st' rfl rfl (by decide) ⟨.int (lo+i),H,I1,⟨t,?_⟩,⟨rfl,rfl⟩,st',fun b hb=>(hf b hb).1⟩⟩
  rw[Int.mul_one]
 done:=by
  intro X hP hw hK hc i pins s σ H E I hf st hg;subst hP hw hK;obtain⟨f0,f1,f2,f3,f4,f5⟩:=hf it (by simp)
  exact wpAny_pyNext_range_end (I.ok.hd hc) st (by have:n≤i:=hg;omega) fun h' eb=>⟨rfl,I.turned (t':=s.toks) (fun b o hb e=>eb b o hb e) f0 f1 f3 f4 f5⟩
 self:=fun _ _ _ _ _ st h=>wpAny_pyIter_rangeiter st h
end L2
namespace L2
open PySem PySem.Spec PyProof.Rows
section
variable{X:Cx}{tg:Expr}
theorem M4{pins:List (Addr×Obj)}{σ:St}{H:Hp}{s:Shared}{R:It→Hp→Prop}{E:Value→Shared→Prop}{lo hi:Int}{t u v:Tok}{tk:Nat}(I:Inv X pins σ H s)(h1 : -(2 ^ 62)≤lo)(h2:lo<2 ^ 62)(h3 : -(2 ^ 62)≤hi)(h4:hi<2 ^ 62)(q:R (Itr lo (hi-lo).toNat) H):wpAny (model X.prog X.w) X.A (pyIter (.ref s.heap.objs.size)) (PIE X pins σ tg R) E { s with heap:=s.heap.push { cls:=.type "range",data:=.fields #[.int lo t,.int hi u,.int 1 v] },toks:=tk }:=by
 refine wpAny_pyIter_range (IsRange.new ..) (small_one h1 h2 h3 h4) ?_;have I1:Inv X pins σ H { s with heap:=s.heap.push { cls:=.type "range",data:=.fields #[.int lo t,.int hi u,.int 1 v] },toks:=tk }:=I.kept fun b o e=>Heap.get?_push_of_some _ e;refine⟨(s.heap.push { cls:=.type "range",data:=.fields #[.int lo t,.int hi u,.int 1 v] }).objs.size,[(s.heap.push { cls:=.type "range",data:=.fields #[.int lo t,.int hi u,.int 1 v] }).objs.size],_,_,H,rfl,
  I1.kept (t':=tk) fun b o e=>Heap.get?_push_of_some _ e,O3 _ lo (hi-lo).toNat,?_,fun b hb=>?_,q⟩
 ·have e1:lo+((0:Nat):Int)*1=lo:=by simp
  have e2:(((hi-lo).toNat:Nat):Int)-((0:Nat):Int)=Builtin.Range.rangeSize lo hi 1:=by rw[rangeSize_one];split<;>omega
  show IsRangeIter _ _ (lo+((0:Nat):Int)*1) ((((hi-lo).toNat:Nat):Int)-((0:Nat):Int)) 1;rw[e1,e2];exact Heap.get?_push_size _ rfl
 ·have e:b=(s.heap.push { cls:=.type "range",data:=.fields #[.int lo t,.int hi u,.int 1 v] }).objs.size:=by simpa using hb
  subst e;exact I1.fpOk (Nat.le_refl _) (I1.hok.fresh (Nat.le_refl _))
def iRng1(ta:TA):TI:=fun σ H R=>ta σ H fun vs H1=>∃j:Int,vs=[.int j]∧-(2 ^ 62)≤j∧j<2 ^ 62∧R (Itr 0 j.toNat) H1
def iRng2(ta:TA):TI:=fun σ H R=>ta σ H fun vs H1=>∃i j:Int,vs=[.int i,.int j]∧(-(2 ^ 62)≤i∧i<2 ^ 62∧-(2 ^ 62)≤j∧j<2 ^ 62)∧R (Itr i (j-i).toNat) H1
theorem J7{a:Expr}{ta:TA}{p pos:Pos}(hg:Gl X "range")(hm:X.mg "range" = none)(ha:PA X [a] ta)(hs:starEach [a] X.env=[(false,eval a X.env)]:=by rfl):PI X tg (.Call (.Name "range" p) [a] [] pos) (iRng1 ta):=by
 intro pins s σ H R I h;refine Call_ (Df I hg hm boot_range (PyProof.Rows.callWith_type1 (thn (ha pos pins s σ H _ I h) fun us s1 ⟨vs,H1,I1,r1,q1⟩=>?_) hs rfl));obtain⟨j,e,q1,q2,q⟩:=q1;subst e;cases r1 with
 |cons r rr=>
  cases rr;obtain⟨t,rfl⟩:=r;exact call_range_1 (M4 I1 (by omega) (by omega) q1 q2 (by simpa using q))
theorem Ru{a b:Expr}{ta:TA}{p pos:Pos}(hg:Gl X "range")(hm:X.mg "range" = none)(ha:PA X [a,b] ta)(hs:starEach [a,b] X.env=[(false,eval a X.env),(false,eval b X.env)]:=by rfl)(hs2:starEach [b] X.env=[(false,eval b X.env)]:=by rfl) :
  PI X tg (.Call (.Name "range" p) [a,b] [] pos) (iRng2 ta):=by
 intro pins s σ H R I h;refine Call_ (Df I hg hm boot_range (PyProof.Rows.callWith_type1 (thn (ha pos pins s σ H _ I h) fun us s1 ⟨vs,H1,I1,r1,q1⟩=>?_) (by rw[hs,hs2]) (by rw[hs2];rfl)))
 obtain⟨i,j,e,⟨q1,q2,q3,q4⟩,q⟩:=q1;subst e;cases r1 with
 |cons r rr=>
  cases rr with
  |cons r' rr=>
   cases rr;obtain⟨t,rfl⟩:=r;obtain⟨t',rfl⟩:=r';exact call_range_2 (M4 I1 q1 q2 q3 q4 q)

def tFor(wi:TI)(g:TG)(tb:TS):TS:=fun D σ H=>wi σ H fun J H1=>∃W:Nat→Nat→St→Hp→Prop,(∃m,W 0 m σ H1)∧∀i m σ H,W i m σ H→
 (J.stop i H∧D.nx σ H)∨(J.go i H∧∃N:St→Hp→Prop,(∀σ' H',N σ' H'→∃m',m'<m∧W (i+1) m' σ' H')∧∀x H',J.yld i H x H'→g x σ H' fun σ2 H2=>tb { D with nx:=N,ct:=N,bk:=D.nx } σ2 H2)
def C4(fp:List Addr)(h:Heap):List (Addr×Obj):=fp.filterMap fun b=>(h.get? b).map fun o=>(b,o)
theorem Bl{fp:List Addr}{h:Heap}{b:Addr}{o:Obj}(hb:b∈fp)(e:h.get? b=some o):(b,o)∈C4 fp h:=List.mem_filterMap.mpr ⟨b,hb,by rw[e];rfl⟩
theorem R4{fp:List Addr}{h:Heap}{p:Addr×Obj}(hp:p∈C4 fp h):p.1∈fp∧h.get? p.1=some p.2:=by
 obtain⟨b,hb,e⟩:=List.mem_filterMap.mp hp;cases q:h.get? b with
 |none=>rw[q] at e;cases e
 |some o=>
  rw[q] at e;have e':(b,o)=p:=Option.some.inj e;subst e';exact⟨hb,q⟩
theorem Inv.pinned{pins:List (Addr×Obj)}{σ:St}{H:Hp}{s:Shared}{fp:List Addr}(I:Inv X pins σ H s)(hf:∀b∈fp,Dl X pins H b)(ho:∀b∈fp,∃o,s.heap.get? b=some o∧∀v,o.data≠.cell v):Inv X (pins++C4 fp s.heap) σ H s:=
 I.pins_of fun p hp=>(List.mem_append.mp hp).elim (fun z=>I.pin p (List.mem_append_right _ z)) fun z=>by
  obtain⟨hb,e⟩:=R4 z;obtain⟨f0,f1,f2,_⟩:=hf p.1 hb;obtain⟨o,e',d⟩:=ho p.1 hb;rw[e] at e';cases e';exact⟨e,f0,f1,f2,d⟩
theorem Inv.unpinned{pins pl:List (Addr×Obj)}{σ:St}{H:Hp}{s:Shared}(I:Inv X (pins++pl) σ H s):Inv X pins σ H s:=I.pins_of fun p hp=>I.pin p (List.mem_append_right _ (List.mem_append_left _ hp))
theorem K3{iter:Expr}{body:List Stmt}{wi:TI}{g:TG}{tb:TS}{pos:Pos}(hp:PassesOwn (model X.prog X.w) X.A X.env X.xe)(hc:X.calm=true)(hi:PI X tg iter wi)(hg:PG X tg g)(hb:PSs X body tb)(hs:∀x,foldedSetIterable iter X.env x=pure x:=by intro _;rfl):PS X (.For tg iter body [] pos) (tFor wi g tb):=by
 intro pins s σ H D I h;refine wpAny_For (thn (hi pins s σ H _ I h) fun v s1 h1=>thn h1 fun itv s2 h2=>?_) hs;obtain⟨it,fp,tn,J,H2,e,I2,T,st2,f2,W,⟨m0,w0⟩,turn⟩:=h2;subst e
 -- what stays true of the iterator's objects through the loop
 have stat:∀{H':Hp},(∀b∈fp,H' b=none)→∀b∈fp,Dl X pins H' b:=fun hn b hb=>⟨hn b hb,(f2 b hb).2⟩;refine codeAny_forLoop_any (fun n s'=>∃i σ' H',Inv X pins σ' H' s'∧tn i s'.heap∧(∀b∈fp,H' b=none)∧W i n σ' H') ?_ m0 ⟨0,σ,H2,I2,st2,fun b hb=>(f2 b hb).1,w0⟩;rintro n s3 ⟨i,σ3,H3,I3,st3,fr3,w3⟩;rcases turn i n σ3 H3 w3 with ⟨stop,qn⟩|⟨go,N,hN,step⟩
 ·refine wpAny_passesOwn hp (thn (T.done X rfl rfl rfl hc i pins s3 σ3 H3 X.xe I3 (stat fr3) st3 stop) fun r s4 zz=>?_);obtain⟨hr,I4⟩:=zz;subst hr;exact wpAny_execs_nil ⟨σ3,H3,I4,qn⟩
 ·refine wpAny_passesOwn hp (thn (T.item X rfl rfl rfl hc i pins s3 σ3 H3 X.xe I3 (stat fr3) st3 go) fun r s4 zz=>?_);obtain⟨u,hr,h4⟩:=zz;subst hr;refine wpAny_passesOwn hp (thn h4 fun _ s5 zz=>?_);obtain⟨x,H5,I5,r5,y5,st5,fr5⟩:=zz;have I5':=I5.pinned (stat fr5) (T.obj _ _ st5);refine wpAny_passesOwn hp (thn (hg _ s5 σ3 H5 x u _ I5' r5 (step x H5 y5)) fun _ s6 zz=>?_);obtain⟨σ6,H6,I6,q6⟩:=zz;refine wpAny_passesOwn hp (thn (hb _ s6 σ6 H6 _ I6 q6) fun f s7 q7=>?_);have again:∀{σ7:St} {H7:Hp},Inv X (pins++C4 fp s5.heap) σ7 H7 s7→N σ7 H7→∃m,m<n∧∃i σ' H',Inv X pins σ' H' s7∧tn i s7.heap∧(∀b∈fp,H' b=none)∧W i m σ' H':=fun {σ7 H7} I7 n7=>by
   obtain⟨m',hm,w7⟩:=hN σ7 H7 n7;refine⟨m',hm,i+1,σ7,H7,I7.unpinned,T.keep _ _ _ st5 fun b hb o e=>(I7.pin (b,o) (List.mem_append_right _ (List.mem_append_right _ (Bl hb e)))).1,fun b hb=>?_,w7⟩;obtain⟨o,e,d⟩:=T.obj _ _ st5 b hb;exact(I7.pin (b,o) (List.mem_append_right _ (List.mem_append_right _ (Bl hb e)))).2.1
  cases f with
  |next=>obtain⟨σ7,H7,I7,n7⟩:=q7;exact again I7 n7
  |cont=>obtain⟨σ7,H7,I7,n7⟩:=q7;exact again I7 n7
  |brk=>obtain⟨σ7,H7,I7,q7⟩:=q7;exact⟨σ7,H7,I7.unpinned,q7⟩
  |ret v=>obtain⟨x7,σ7,H7,I7,r7,q7⟩:=q7;exact⟨x7,σ7,H7,I7.unpinned,r7,q7⟩
end
end L2
namespace L2
open PySem PySem.Spec PyProof.Rows
abbrev R2:=V→V→Hp→VK→Prop
def OpR(X:Cx)(f:Value→Value→Sem Value)(r:R2):Prop:=
 ∀(pins:List (Addr×Obj)) (s:Shared) (σ:St) (H:Hp) (x y:V) (v u:Value) (Q:VK),Inv X pins σ H s→RelV x v→RelV y u→r x y H Q→
  wpAny (model X.prog X.w) X.A (f v u) (EP X pins σ Q) X.xe s
def UnR(X:Cx)(f:Value→Sem Value)(r:V→Hp→VK→Prop):Prop:=
 ∀(pins:List (Addr×Obj)) (s:Shared) (σ:St) (H:Hp) (x:V) (v:Value) (Q:VK),Inv X pins σ H s→RelV x v→r x H Q→
  wpAny (model X.prog X.w) X.A (f v) (EP X pins σ Q) X.xe s
def CallR(X:Cx)(f:Value)(r:List V→Hp→VK→Prop):Prop:=
 ∀(pins:List (Addr×Obj)) (s:Shared) (σ:St) (H:Hp) (xs:List V) (us:List Value) (Q:VK),Inv X pins σ H s→Vals xs us→r xs H Q→
  wpAny (model X.prog X.w) X.A (call f us) (EP X pins σ Q) X.xe s
def TruR(X:Cx)(r:V→Hp→(Bool→Hp→Prop)→Prop):Prop:=
 ∀(pins:List (Addr×Obj)) (s:Shared) (σ:St) (H:Hp) (x:V) (v:Value) (Q:Bool→Hp→Prop),Inv X pins σ H s→RelV x v→r x H Q→
  wpAny (model X.prog X.w) X.A (truthy v) (TP X pins σ Q) X.xe s

def tOp(r:R2)(ta tb:TE):TE:=fun σ H Q=>ta σ H fun x H1=>tb σ H1 fun y H2=>r x y H2 Q
def tUn(r:V→Hp→VK→Prop)(ta:TE):TE:=fun σ H Q=>ta σ H fun x H1=>r x H1 Q
def rI(C:Int→Int→Prop)(g:Int→Int→V):R2:=fun x y H Q=>∃i j,x=.int i∧y=.int j∧C i j∧Q (g i j) H
def rI0(g:Int→Int→V):R2:=fun x y H Q=>∃i j,x=.int i∧y=.int j∧Q (g i j) H
def rU(g:Int→V):V→Hp→VK→Prop:=fun x H Q=>∃i,x=.int i∧Q (g i) H

section
variable{X:Cx}{a b c:Expr}{ta tb tc:TE}{pos:Pos}
theorem binT(ha:PE X a ta)(hb:PE X b tb){pins:List (Addr×Obj)}{s:Shared}{σ:St}{H:Hp}{R:V→V→Hp→Prop}(I:Inv X pins σ H s)(h:ta σ H fun x H1=>tb σ H1 fun y H2=>R x y H2){Q:Value→Shared→Prop}{f:Value→Value→Sem Value}(hf:∀v u s2 x y H2,Inv X pins σ H2 s2→RelV x v→RelV y u→R x y H2→wpAny (model X.prog X.w) X.A (f v u) Q X.xe s2) :
  wpAny (model X.prog X.w) X.A (eval a X.env) (fun v s₁=>wpAny (model X.prog X.w) X.A (eval b X.env) (fun u s₂=>wpAny (model X.prog X.w) X.A (f v u) Q X.xe s₂) X.xe s₁) X.xe s:=by
 refine thn (ha pins s σ H _ I h) fun v s1 zz=>?_;obtain⟨x,H1,I1,r1,q1⟩:=zz;refine thn (hb pins s1 σ H1 _ I1 q1) fun u s2 zz=>?_;obtain⟨y,H2,I2,r2,q2⟩:=zz;exact hf v u s2 x y H2 I2 r1 r2 q2

theorem pe_op{op:Operator}{r:R2}(ho:OpR X (binaryOp op) r)(ha:PE X a ta)(hb:PE X b tb):PE X (.BinOp a op b pos) (tOp r ta tb):=by
 intro pins s σ H Q I h;exact wpAny_BinOp (binT ha hb I h fun v u s2 x y H2 I2 rx ry q=>ho pins s2 σ H2 x y v u Q I2 rx ry q)
theorem pe_un{op:UnaryOp}{r:V→Hp→VK→Prop}(ho:UnR X (unaryOp op) r)(ha:PE X a ta):PE X (.UnaryOp op a pos) (tUn r ta):=by
 intro pins s σ H Q I h;exact UnaryOp_ (thn (ha pins s σ H _ I h) fun v s1 ⟨x,H1,I1,r1,q1⟩=>ho pins s1 σ H1 x v Q I1 r1 q1)
theorem opI{f:Value→Value→Sem Value}{C:Int→Int→Prop}{g:Int→Int→Int}(rule:∀(i j:Int) (t u:Tok) (s:Shared) (Q:Value→Shared→Prop) (E:Value→Shared→Prop),C i j→Q (.int (g i j) s.toks) { s with toks:=s.toks+1 }→wpAny (model X.prog X.w) X.A (f (.int i t) (.int j u)) Q E s) :
  OpR X f (rI C fun i j=>.int (g i j)):=by
 intro pins s σ H x y v u Q I rx ry h;obtain⟨i,j,rfl,rfl,hc,q⟩:=h;obtain⟨t,rfl⟩:=rx;obtain⟨t',rfl⟩:=ry;exact rule i j t t' s _ _ hc ⟨.int (g i j),H,I.tok _,⟨_,rfl⟩,q⟩
theorem opI0{f:Value→Value→Sem Value}{g:Int→Int→Int}(rule:∀(i j:Int) (t u:Tok) (s:Shared) (Q:Value→Shared→Prop) (E:Value→Shared→Prop),Q (.int (g i j) s.toks) { s with toks:=s.toks+1 }→wpAny (model X.prog X.w) X.A (f (.int i t) (.int j u)) Q E s) :
  OpR X f (rI0 fun i j=>.int (g i j)):=by
 intro pins s σ H x y v u Q I rx ry h;obtain⟨i,j,rfl,rfl,q⟩:=h;obtain⟨t,rfl⟩:=rx;obtain⟨t',rfl⟩:=ry;exact rule i j t t' s _ _ ⟨.int (g i j),H,I.tok _,⟨_,rfl⟩,q⟩
theorem Ya{f:Value→Value→Sem Value}{g:Int→Int→Bool}(rule:∀(i j:Int) (t u:Tok) (s:Shared) (Q:Value→Shared→Prop) (E:Value→Shared→Prop),Q (.bool (g i j)) s→wpAny (model X.prog X.w) X.A (f (.int i t) (.int j u)) Q E s) :
  OpR X f (rI0 fun i j=>.bl (g i j)):=by
 intro pins s σ H x y v u Q I rx ry h;obtain⟨i,j,rfl,rfl,q⟩:=h;obtain⟨t,rfl⟩:=rx;obtain⟨t',rfl⟩:=ry;exact rule i j t t' s _ _ ⟨.bl (g i j),H,I,rfl,q⟩

def Tp(i j:Int):Prop:=0<j∧j<1073741824
def CMul(i j:Int):Prop:=(-(2 ^ 64)<i∧i<2 ^ 64)∨(-(2 ^ 64)<j∧j<2 ^ 64)
theorem CMul.ok{i j:Int}(h:CMul i j):IntMulOk i j:=by
 rcases h with ⟨h1,h2⟩|⟨h1,h2⟩
 ·exact .of_left (intBits_le_64 h1 h2)
 ·exact .of_right (intBits_le_64 h1 h2)
theorem Adq:OpR X (binaryOp .Add) (rI0 fun i j=>.int (i+j)):=opI0 fun _ _ _ _ _ _ _ q=>add_int q
theorem Adm:OpR X (binaryOp .Sub) (rI0 fun i j=>.int (i-j)):=opI0 fun _ _ _ _ _ _ _ q=>sub_int q
theorem Adn:OpR X (binaryOp .Mult) (rI CMul fun i j=>.int (i*j)):=opI fun _ _ _ _ _ _ _ hc q=>mul_int q hc.ok
theorem Zp:OpR X (binaryOp .FloorDiv) (rI Tp fun i j=>.int (i / j)):=opI fun i j _ _ _ _ _ hc q=>by
 have h1:(0:Int)<j:=hc.1;have h2:j<1073741824:=hc.2;exact floordiv_int (by omega) (by rw[Int.fdiv_eq_ediv_of_nonneg i (by omega)];exact q) (.inl (PyProof.noPylong_small (by omega)))
theorem Ado:OpR X (binaryOp .Mod) (rI (fun _ j=>0<j) fun i j=>.int (i % j)):=opI fun i j _ _ _ _ _ hc q=>by
 have h1:(0:Int)<j:=hc;exact mod_int' (by omega) (by rw[Int.fmod_eq_emod_of_nonneg i (by omega)];exact q)
theorem unI{f:Value→Sem Value}{g:Int→Int}(rule:∀(i:Int) (t:Tok) (s:Shared) (Q:Value→Shared→Prop) (E:Value→Shared→Prop),Q (.int (g i) s.toks) { s with toks:=s.toks+1 }→wpAny (model X.prog X.w) X.A (f (.int i t)) Q E s) :
  UnR X f (rU fun i=>.int (g i)):=by
 intro pins s σ H x v Q I rx h;obtain⟨i,rfl,q⟩:=h;obtain⟨t,rfl⟩:=rx;exact rule i t s _ _ ⟨.int (g i),H,I.tok _,⟨_,rfl⟩,q⟩
theorem Abx:UnR X (unaryOp .USub) (rU fun i=>.int (-i)):=unI fun _ _ _ _ _ q=>neg_int q
end
def scal:V→V→Bool
 |.non,.non=>true|.non,.int _=>true|.int _,.non=>true|.non,.bl _=>true|.bl _,.non=>true|.non,.str _=>true|.str _,.non=>true
 |.int _,.int _=>true|.bl _,.bl _=>true|.str _,.str _=>true|.byt _,.byt _=>true
 |.int _,.str _=>true|.str _,.int _=>true|.bl _,.str _=>true|.str _,.bl _=>true
 |_,_=>false
def rEq:R2:=fun x y H Q=>scal x y=true∧Q (.bl (decide (x=y))) H
def rNe:R2:=fun x y H Q=>scal x y=true∧Q (.bl (!decide (x=y))) H

theorem Q3{i j:Int}:decide (V.int i=V.int j)=(i == j):=by
 rw[Bool.eq_iff_iff];simp
theorem U9{i j:Bool}:decide (V.bl i=V.bl j)=(i == j):=by
 rw[Bool.eq_iff_iff];simp
theorem Q2{i j:Str}:decide (V.str i=V.str j)=(i == j):=by
 rw[Bool.eq_iff_iff];simp
theorem Q4{i j:Array UInt8}:decide (V.byt i=V.byt j)=(i.toList == j.toList):=by
 rw[Bool.eq_iff_iff];cases i;cases j;simp

section
variable{X:Cx}{a b c:Expr}{ta tb tc:TE}{pos:Pos}
theorem Au{pins:List (Addr×Obj)}{σ:St}{H:Hp}{s:Shared}{Q:VK}{k k':Bool}(I:Inv X pins σ H s)(q:Q (.bl k) H)(e:k=k'):EP X pins σ Q (.bool k') s:=by
 subst e;exact⟨.bl k,H,I,rfl,q⟩
theorem op_eq:OpR X (compareOp .Eq) rEq:=by
 intro pins s σ H x y v u Q I rx ry h;obtain⟨hs,q⟩:=h;cases x with
 |non=>
  cases rx;cases y with
  |non=>cases ry;exact PySem.EqNone.eq_none_none (Au I q (by simp))
  |bl j=>cases ry;exact PySem.EqNone.eq_none_bool (Au I q (by simp))
  |int j=>obtain⟨t',rfl⟩:=ry;exact PySem.EqNone.eq_none_int (Au I q (by simp))
  |str j=>obtain⟨t',rfl⟩:=ry;exact PySem.EqNone.eq_none_str (Au I q (by simp))
  |_=>exact absurd (show false=true from hs) Bool.false_ne_true
 |bl i=>
  cases rx;cases y with
  |non=>cases ry;exact PySem.EqNone.eq_bool_none (Au I q (by simp))
  |bl j=>cases ry;exact eq_bool (Au I q U9)
  |str j=>obtain⟨t',rfl⟩:=ry;exact PySem.EqMixed.eq_bool_str (Au I q (by simp))
  |_=>exact absurd (show false=true from hs) Bool.false_ne_true
 |int i=>
  obtain⟨t,rfl⟩:=rx;cases y with
  |non=>cases ry;exact PySem.EqNone.eq_int_none (Au I q (by simp))
  |int j=>obtain⟨t',rfl⟩:=ry;exact eq_int (Au I q Q3)
  |str j=>obtain⟨t',rfl⟩:=ry;exact PySem.EqMixed.eq_int_str (Au I q (by simp))
  |_=>exact absurd (show false=true from hs) Bool.false_ne_true
 |str i=>
  obtain⟨t,rfl⟩:=rx;cases y with
  |non=>cases ry;exact PySem.EqNone.eq_str_none (Au I q (by simp))
  |bl j=>cases ry;exact PySem.EqMixed.eq_str_bool (Au I q (by simp))
  |int j=>obtain⟨t',rfl⟩:=ry;exact PySem.EqMixed.eq_str_int (Au I q (by simp))
  |str j=>obtain⟨t',rfl⟩:=ry;exact eq_str (Au I q Q2)
  |_=>exact absurd (show false=true from hs) Bool.false_ne_true
 |byt i=>
  obtain⟨t,rfl⟩:=rx;cases y with
  |byt j=>obtain⟨t',rfl⟩:=ry;exact W.eq_bytes (Au I q Q4)
  |_=>exact absurd (show false=true from hs) Bool.false_ne_true
 |_=>cases y<;>exact absurd (show false=true from hs) Bool.false_ne_true
theorem op_ne:OpR X (compareOp .NotEq) rNe:=by
 intro pins s σ H x y v u Q I rx ry h;obtain⟨hs,q⟩:=h;cases x with
 |non=>
  cases rx;cases y with
  |non=>cases ry;exact PySem.EqNone.ne_none_none (Au I q (by simp))
  |bl j=>cases ry;exact PySem.EqNone.ne_none_bool (Au I q (by simp))
  |int j=>obtain⟨t',rfl⟩:=ry;exact PySem.EqNone.ne_none_int (Au I q (by simp))
  |str j=>obtain⟨t',rfl⟩:=ry;exact PySem.EqNone.ne_none_str (Au I q (by simp))
  |_=>exact absurd (show false=true from hs) Bool.false_ne_true
 |bl i=>
  cases rx;cases y with
  |non=>cases ry;exact PySem.EqNone.ne_bool_none (Au I q (by simp))
  |bl j=>cases ry;exact ne_bool (Au I q (congrArg not U9))
  |str j=>obtain⟨t',rfl⟩:=ry;exact PySem.EqMixed.ne_bool_str (Au I q (by simp))
  |_=>exact absurd (show false=true from hs) Bool.false_ne_true
 |int i=>
  obtain⟨t,rfl⟩:=rx;cases y with
  |non=>cases ry;exact PySem.EqNone.ne_int_none (Au I q (by simp))
  |int j=>obtain⟨t',rfl⟩:=ry;exact ne_int (Au I q (congrArg not Q3))
  |str j=>obtain⟨t',rfl⟩:=ry;exact PySem.EqMixed.ne_int_str (Au I q (by simp))
  |_=>exact absurd (show false=true from hs) Bool.false_ne_true
 |str i=>
  obtain⟨t,rfl⟩:=rx;cases y with
  |non=>cases ry;exact PySem.EqNone.ne_str_none (Au I q (by simp))
  |bl j=>cases ry;exact PySem.EqMixed.ne_str_bool (Au I q (by simp))
  |int j=>obtain⟨t',rfl⟩:=ry;exact PySem.EqMixed.ne_str_int (Au I q (by simp))
  |str j=>obtain⟨t',rfl⟩:=ry;exact ne_str (Au I q (congrArg not Q2))
  |_=>exact absurd (show false=true from hs) Bool.false_ne_true
 |byt i=>
  obtain⟨t,rfl⟩:=rx;cases y with
  |byt j=>obtain⟨t',rfl⟩:=ry;exact W.ne_bytes (Au I q (congrArg not Q4))
  |_=>exact absurd (show false=true from hs) Bool.false_ne_true
 |_=>cases y<;>exact absurd (show false=true from hs) Bool.false_ne_true

theorem op_lt:OpR X (compareOp .Lt) (rI0 fun i j=>.bl (decide (i<j))):=Ya fun _ _ _ _ _ _ _ q=>lt_int q
theorem op_le:OpR X (compareOp .LtE) (rI0 fun i j=>.bl (decide (i≤j))):=Ya fun _ _ _ _ _ _ _ q=>le_int q
theorem op_gt:OpR X (compareOp .Gt) (rI0 fun i j=>.bl (decide (j<i))):=Ya fun _ _ _ _ _ _ _ q=>gt_int q
theorem op_ge:OpR X (compareOp .GtE) (rI0 fun i j=>.bl (decide (j≤i))):=Ya fun _ _ _ _ _ _ _ q=>ge_int q
theorem Zo:OpR X (compareOp .IsNot) (fun x y H Q=>y=.non∧Q (.bl (!decide (x=.non))) H):=by
 intro pins s σ H x y v u Q I rx ry h;obtain⟨rfl,q⟩:=h;cases ry;refine isnot_none_gen (Au I q ?_);cases x<;>first
  |(cases rx;rfl)
  |(obtain⟨t,rfl⟩:=rx;rfl)

theorem Adx(b:Expr){op:CmpOp}(h:op≠.In:=by decide)(h2:op≠.NotIn:=by decide):behindInMarks op b=false:=by
 have e1:(op == CmpOp.In)=false:=by cases op<;>first|rfl|exact absurd rfl h
 have e2:(op == CmpOp.NotIn)=false:=by cases op<;>first|rfl|exact absurd rfl h2
 cases b<;>simp[behindInMarks,e1,e2]
theorem Zl{op:CmpOp}{r:R2}(ho:OpR X (compareOp op) r)(ha:PE X a ta)(hb:PE X b tb)(hm:behindInMarks op b=false):PE X (.Compare a [op] [b] pos) (tOp r ta tb):=by
 intro pins s σ H Q I h;exact wpAny_Compare1 (binT ha hb I h fun v u s2 x y H2 I2 rx ry q=>ho pins s2 σ H2 x y v u Q I2 rx ry q) hm
def Aa0(t:TE):TT:=fun σ H Q=>t σ H fun x H'=>∃k,x=.bl k∧Q k H'
theorem Zb{op:CmpOp}{r:R2}(ho:OpR X (compareOp op) r)(ha:PE X a ta)(hb:PE X b tb)(hm:behindInMarks op b=false):PT X (.Compare a [op] [b] pos) (Aa0 (tOp r ta tb)):=by
 intro pins s σ H Q I h;refine wpAny_isTrue_Compare1 (thn (ha pins s σ H _ I h) fun v s1 ⟨x,H1,I1,r1,q1⟩=>thn (hb pins s1 σ H1 _ I1 q1) fun u s2 ⟨y,H2,I2,r2,q2⟩=>
  thn (ho pins s2 σ H2 x y v u _ I2 r1 r2 q2) fun c s3 ⟨z,H3,I3,r3,k,e,q3⟩=>?_) hm
 subst e;cases r3;exact wpAny_truthy_bool ⟨H3,I3,q3⟩
def Oh(r r':R2)(ta tb tc:TE):TE:=fun σ H Q=>ta σ H fun x H1=>tb σ H1 fun y H2=>r x y H2 fun z H3=>∃k,z=.bl k∧
 (if k=true then tc σ H3 fun w' H4=>r' y w' H4 Q else Q (.bl false) H3)
theorem Wj{op op':CmpOp}{r r':R2}(ho:OpR X (compareOp op) r)(ho':OpR X (compareOp op') r')(ha:PE X a ta)(hb:PE X b tb)(hc:PE X c tc)(hm:lastMarks [op,op'] [b,c]=false:=by with_unfolding_all rfl):PE X (.Compare a [op,op'] [b,c] pos) (Oh r r' ta tb tc):=by
 intro pins s σ H Q I h;refine Compare_chain (thn (ha pins s σ H _ I h) fun v s1 ⟨x,H1,I1,r1,q1⟩=>chain_link (thn (hb pins s1 σ H1 _ I1 q1) fun u s2 ⟨y,H2,I2,r2,q2⟩=>
  thn (ho pins s2 σ H2 x y v u _ I2 r1 r2 q2) fun d s3 ⟨z,H3,I3,r3,k,e,q3⟩=>?_)) hm
 subst e;cases r3;refine wpAny_truthy_bool ?_;cases k with
 |false=>exact ite_ff ⟨.bl false,H3,I3,rfl,q3⟩
 |true=>exact ite_tt (chain_last (thn (hc pins s3 σ H3 _ I3 q3) fun w' s4 ⟨z',H4,I4,r4,q4⟩=>ho' pins s4 σ H4 y z' u w' Q I4 r2 r4 q4))
theorem V6{op op':CmpOp}{r r':R2}(ho:OpR X (compareOp op) r)(ho':OpR X (compareOp op') r')(ha:PE X a ta)(hb:PE X b tb)(hc:PE X c tc)(hm:lastMarks [op,op'] [b,c]=false:=by with_unfolding_all rfl):PT X (.Compare a [op,op'] [b,c] pos) (Aa0 (Oh r r' ta tb tc)):=by
 intro pins s σ H Q I h;refine isTrue_chain (thn (ha pins s σ H _ I h) fun v s1 ⟨x,H1,I1,r1,q1⟩=>test_link (thn (hb pins s1 σ H1 _ I1 q1) fun u s2 ⟨y,H2,I2,r2,q2⟩=>
  thn (ho pins s2 σ H2 x y v u _ I2 r1 r2 q2) fun d s3 ⟨z,H3,I3,r3,k,e,q3⟩=>?_)) hm
 subst e;cases r3;refine wpAny_truthy_bool ?_;cases k with
 |false=>
  obtain⟨k',e',q'⟩:=q3;cases e';exact ite_ff ⟨H3,I3,q'⟩
 |true=>
  refine ite_tt (test_last (thn (hc pins s3 σ H3 _ I3 q3) fun w' s4 ⟨z',H4,I4,r4,q4⟩=>thn (ho' pins s4 σ H4 y z' u w' _ I4 r2 r4 q4) fun d' s5 ⟨z2,H5,I5,r5,k2,e2,q5⟩=>?_));subst e2;cases r5;exact wpAny_truthy_bool ⟨H5,I5,q5⟩

def TruV(K:W.Frag)(x:V)(H:Hp)(k:Bool):Prop:=
 match x with
 |.non=>k=false
 |.bl b=>k=b
 |.int i=>k=(i != 0)
 |.str y=>y.length≤sizeLine∧k=((y.length:Int) != 0)
 |.byt y=>y.size≤sizeLine∧k=((y.size:Int) != 0)
 |.ref p=>(∃xs,SqL K H p xs∧k = !xs.isEmpty)∨(∃xs,SqT K H p xs∧k = !xs.isEmpty)∨∃kvs,H p=some (.dK kvs)∧k = !kvs.isEmpty
 |_=>False
theorem Pf{κ:Type}{kvs:List (κ×V)}{vs:List (κ×Value)}(r:KV kvs vs):(!vs.isEmpty) = !kvs.isEmpty:=by
 cases r<;>rfl
theorem Ir{xs:List V}{its:List Value}(r:Vals xs its):(!its.toArray.isEmpty) = !xs.isEmpty:=by
 cases r<;>simp
theorem Fn:(sizeLine:Nat)<2 ^ 63:=by rw[sizeLine_eq];decide
theorem Aby:TruR X (fun x H Q=>∃k,TruV X.K x H k∧Q k H):=by
 intro pins s σ H x v Q I rx h;obtain⟨k,e,q⟩:=h;have hl:=Fn;have hs:sizeLine=16777216:=sizeLine_eq;cases x with
 |non=>
  cases rx;have e':k=false:=e;subst e';exact truthy_none ⟨H,I,q⟩
 |bl b=>
  cases rx;have e':k=b:=e;subst e';exact wpAny_truthy_bool ⟨H,I,q⟩
 |int i=>
  obtain⟨t,rfl⟩:=rx;have e':k=(i != 0):=e;subst e';exact PySem.P.truthy_int ⟨H,I,q⟩
 |str y=>
  obtain⟨t,rfl⟩:=rx;obtain⟨hy,e'⟩:y.length≤sizeLine∧k=((y.length:Int) != 0):=e;subst e';exact PySem.P.truthy_str (by omega) ⟨H,I.tok _,q⟩
 |byt y=>
  obtain⟨t,rfl⟩:=rx;obtain⟨hy,e'⟩:y.size≤sizeLine∧k=((y.size:Int) != 0):=e;subst e';exact W.truthy_bytes (by omega) ⟨H,I.tok _,q⟩
 |ref p=>
  cases rx;have e':(∃xs,SqL X.K H p xs∧k = !xs.isEmpty)∨(∃xs,SqT X.K H p xs∧k = !xs.isEmpty)∨∃kvs,H p=some (.dK kvs)∧k = !kvs.isEmpty:=e;rcases e' with ⟨xs,hx,e'⟩|⟨xs,hx,e'⟩|⟨kvs,hx,e'⟩
  ·subst e';obtain⟨its,r,pl,hz⟩:=I.list hx;have hlen:=r.length;exact wpAny_truthy_list pl.isList (by simp only[List.size_toArray];omega) ⟨H,I.tok _,by rw[Ir r];exact q⟩
  ·subst e';obtain⟨its,r,pl,hz⟩:=I.tuple hx;have hlen:=r.length;exact truthy_tuple pl (by simp only[List.size_toArray];omega) ⟨H,I.tok _,by rw[Ir r];exact q⟩
  ·subst e';obtain⟨hz,hS,vs,r,m⟩:kvs.length≤sizeLine∧(p == sysModules)=false∧∃vs,KV kvs vs∧s.heap.DictOf (Ap X.prog X.w) p vs:=I.hok p _ hx;have hlen:kvs.length=vs.length:=Paired.length r;exact wpAny_truthy_dict hS m (by omega) ⟨H,I.tok _,by rw[Pf r];exact q⟩
 |_=>exact(show False from e).elim
theorem V5(ha:PE X a ta)(he:∀whole,isTrue a X.env whole=(do let v ←whole;standAt a.pos;holding [v] (truthy v))) :
  PT X a (fun σ H Q=>ta σ H fun x H'=>∃k,TruV X.K x H' k∧Q k H'):=by
 intro pins s σ H Q I h;exact isTrue_plain (thn (ha pins s σ H _ I h) fun v s1 ⟨x,H1,I1,r1,q1⟩=>Aby pins s1 σ H1 x v Q I1 r1 q1) (he _)

theorem By{x:V}{us:List Value}(r:Vals [x] us):∃u,us=[u]∧RelV x u:=by
 cases r with
 |cons r1 r2=>cases r2;exact⟨_,rfl,r1⟩
theorem Es{x y:V}{us:List Value}(r:Vals [x,y] us):∃u w',us=[u,w']∧RelV x u∧RelV y w':=by
 cases r with
 |cons r1 r2=>
  cases r2 with
  |cons r3 r4=>cases r4;exact⟨_,_,rfl,r1,r3⟩
theorem call_abs:CallR X (.builtin "abs") (fun xs H Q=>∃i,xs=[.int i]∧Q (.int (if i<0 then -i else i)) H):=by
 intro pins s σ H xs us Q I r h;obtain⟨i,rfl,q⟩:=h;obtain⟨u,rfl,t,rfl⟩:=By r;exact call_abs_int fun u tk=>⟨.int (if i<0 then -i else i),H,I.tok _,⟨_,rfl⟩,q⟩
theorem S1(hc:X.calm=true):CallR X (.builtin "max") (fun xs H Q=>∃i j,xs=[.int i,.int j]∧Q (.int (if j>i then j else i)) H):=by
 intro pins s σ H xs us Q I r h;obtain⟨i,j,rfl,q⟩:=h;obtain⟨u,w',rfl,⟨t,rfl⟩,⟨t',rfl⟩⟩:=Es r;refine max_two_ints (I.ok.hd hc) fun h' tk k=>⟨_,H,I.kept k,?_,q⟩
 by_cases hj:j>i
 ·rw[if_pos hj,if_pos hj];exact⟨_,rfl⟩
 ·rw[if_neg hj,if_neg hj];exact⟨_,rfl⟩
theorem Sz(hc:X.calm=true):CallR X (.builtin "min") (fun xs H Q=>∃i j,xs=[.int i,.int j]∧Q (.int (if j<i then j else i)) H):=by
 intro pins s σ H xs us Q I r h;obtain⟨i,j,rfl,q⟩:=h;obtain⟨u,w',rfl,⟨t,rfl⟩,⟨t',rfl⟩⟩:=Es r;refine min_two_ints (I.ok.hd hc) fun h' tk k=>⟨_,H,I.kept k,?_,q⟩
 by_cases hj:j<i
 ·rw[if_pos hj,if_pos hj];exact⟨_,rfl⟩
 ·rw[if_neg hj,if_neg hj];exact⟨_,rfl⟩
def LenV(K:W.Frag)(x:V)(H:Hp)(n:Nat):Prop:=
 match x with
 |.str y=>y.length≤sizeLine∧n=y.length
 |.byt y=>y.size≤sizeLine∧n=y.size
 |.ref p=>(∃xs,SqL K H p xs∧n=xs.length)∨∃xs,SqT K H p xs∧n=xs.length
 |_=>False
theorem call_len:CallR X (.builtin "len") (fun xs H Q=>∃x n,xs=[x]∧LenV X.K x H n∧Q (.int n) H):=by
 intro pins s σ H xs us Q I r h;obtain⟨x,n,rfl,e,q⟩:=h;obtain⟨u,rfl,rx⟩:=By r;have hl:=Fn;have hs:sizeLine=16777216:=sizeLine_eq;cases x with
 |str y=>
  obtain⟨t,rfl⟩:=rx;obtain⟨hy,e'⟩:y.length≤sizeLine∧n=y.length:=e;subst e';exact len_str (by omega) ⟨.int _,H,I.tok _,⟨_,rfl⟩,q⟩
 |byt y=>
  obtain⟨t,rfl⟩:=rx;obtain⟨hy,e'⟩:y.size≤sizeLine∧n=y.size:=e;subst e';exact W.len_bytes (by omega) ⟨.int _,H,I.tok _,⟨_,rfl⟩,q⟩
 |ref p=>
  cases rx;have e':(∃xs,SqL X.K H p xs∧n=xs.length)∨∃xs,SqT X.K H p xs∧n=xs.length:=e;rcases e' with ⟨xs,hx,e'⟩|⟨xs,hx,e'⟩
  ·subst e';obtain⟨its,r',pl,hz⟩:=I.list hx;have hlen:=r'.length;exact Calls.call_len_list pl.isList (by simp only[List.size_toArray];omega) ⟨.int xs.length,H,I.tok _,⟨_,by simp only[List.size_toArray];rw[hlen]⟩,q⟩
  ·subst e';obtain⟨its,r',pl,hz⟩:=I.tuple hx;have hlen:=r'.length;exact len_tuple pl (by simp only[List.size_toArray];omega) ⟨.int xs.length,H,I.tok _,⟨_,by simp only[List.size_toArray];rw[hlen]⟩,q⟩
 |_=>exact(show False from e).elim
theorem call_divmod:CallR X (.builtin "divmod") (fun xs H Q=>∃i j,xs=[.int i,.int j]∧Tp i j∧∀p,H p=none→Q (.ref p) (upd H p (.tup [.int (i / j),.int (i % j)]))):=by
 intro pins s σ H xs us Q I r h;obtain⟨i,j,rfl,⟨h1,h2⟩,q⟩:=h;obtain⟨u,w',rfl,⟨t,rfl⟩,⟨t',rfl⟩⟩:=Es r;refine divmod_int (by omega) ?_ (.inl (PyProof.noPylong_small (by omega)))
 rw[Int.fdiv_eq_ediv_of_nonneg i (by omega),Int.fmod_eq_emod_of_nonneg i (by omega)]
 have hn:H s.heap.objs.size=none:=I.hok.fresh (Nat.le_refl _);refine⟨.ref s.heap.objs.size,_,?_,rfl,q _ hn⟩;refine I.laid (fun b o e=>Heap.get?_push_of_some _ e) (Nat.le_refl _) ⟨by simp only[List.length_cons,List.length_nil];rw[sizeLine_eq];decide,[.int (i / j) s.toks,.int (i % j) (s.toks+1)],.cons ⟨_,rfl⟩ (.cons ⟨_,rfl⟩ .nil),?_⟩
 exact⟨_,Heap.get?_push_size s.heap rfl,rfl,0,rfl⟩
end
end L2
namespace L2
open PySem PySem.Spec PyProof.Rows
structure ObjM(h:Heap)(x dx C:Addr)(mA:Str→Option Value):Prop where
 obj:h.get? x=some (W.instObj C dx)
 ns:h.Ns1 dx mA
 ne:dx≠x

theorem Sa{h:Heap}{dx:Addr}{mA:Str→Option Value}(n:h.Ns1 dx mA):∃od,h.get? dx=some od∧∀name,W.lookIn name od=some (mA name):=by
 obtain⟨o,es,ep,ho,hd,hk,_,hm⟩:=n;refine⟨o,ho,fun name=>?_⟩;have e:=hm name;unfold nsFind findBy at e;rw[←Array.find?_toList] at e;unfold W.lookIn;rw[hd];dsimp only
 split
 ·rename_i y q;rw[q] at e;exact congrArg some e
 ·rename_i q;rw[q] at e;have a:es.toList.any (·.refKey)=false:=by
   rw[List.any_eq_false];intro y hy;obtain⟨z,t,hkey⟩:=hk y (Array.mem_toList_iff.mp hy);simp[DictEntry.refKey,hkey]
  have a':¬es.toList.any (·.refKey)=true:=by rw[a];exact Bool.false_ne_true
  rw[if_neg a'];exact congrArg some e

theorem ObjM.look{h:Heap}{x dx C:Addr}{mA:Str→Option Value}(I:ObjM h x dx C mA):∃od,W.InstAt h x (W.instObj C dx) C (some od)∧∀name,W.lookIn name od=some (mA name):=
 let ⟨od,ho,hl⟩:=Sa I.ns
 ⟨od,⟨I.obj,rfl,rfl,ho⟩,hl⟩

section
variable{prog:Program}{w:World}{A:Around}{E:Value→Shared→Prop}{s:Shared}{K:W.Frag}{x dx C f:Addr}{mA:Str→Option Value}{name:Str}{v:Value}
end
theorem RelO.some_of{v:V}{o:Option Value}(r:RelO (some v) o):∃u,o=some u∧RelV v u:=by
 cases o with
 |none=>exact(show False from r).elim
 |some u=>exact⟨u,rfl,r⟩
section
variable{P:Program}{w:World}{H H':Hp}{h h':Heap}{a C dx:Addr}{fs fs':List (Str×V)}
theorem ins_get(hok:HOk P w H h)(e:H a=some (.ins C dx fs)):∃mA,ObjM h a dx C mA∧(∀f,RelO (fs.lookup f) (mA f))∧PySem.Within mA (fs.map (·.1))∧fs.length≤1000∧H dx=some (.own a):=by
 obtain⟨d,z,ne,ob,mA,n,r,q⟩:=(show ObjOk P w H h a (.ins C dx fs) from hok a _ e);exact⟨mA,⟨ob,n,ne⟩,r,q,z,d⟩
end
structure Cls(K:W.Frag)(C:Addr):Prop where
 pg:W.plainGet K C Str.empty=true
 hd:W.hasDictIn K C=true
 po:W.plainOver K C=true
 sa:W.findIn K (.ref C) "__setattr__" = some (some (.builtin "object.__setattr__"))
theorem Cls.get{K:W.Frag}{C:Addr}(c:Cls K C)(f:Str):W.plainGet K C f=true:=c.pg
section
variable{X:Cx}{pins:List (Addr×Obj)}{σ:St}{H:Hp}{s:Shared}{a C dx:Addr}{fs:List (Str×V)}{f:Str}{v:V}{A:Around}{E:Value→Shared→Prop}
end
section
variable{X:Cx}{o e value:Expr}{f:Str}{pos pos' tpos:Pos}{ta tv:TE}
end
section
variable{X:Cx}{pins:List (Addr×Obj)}{σ:St}{H:Hp}{s:Shared}{A:Around}{E:Value→Shared→Prop}{Q:Value→Shared→Prop}{c:Value}{b:Bool}
inductive TyOf (K:W.Frag) (H:Hp):V→Value→Prop where
 |non:TyOf K H .non (.type "NoneType")
 |bl (x:Bool):TyOf K H (.bl x) (.type "bool")
 |int (i:Int):TyOf K H (.int i) (.type "int")
 |str (x:Str):TyOf K H (.str x) (.type "str")
 |flt (x:UInt64):TyOf K H (.flt x) (.type "float")
 |lst {a:Addr} {xs:List V} (e:H a=some (.lst xs)):TyOf K H (.ref a) (.type "list")
 |frz {a:Addr} {o:Obj} {xs:List V} (e:H a=some (.frz o (.lst xs))):TyOf K H (.ref a) (.type "list")
 |tup {a:Addr} {xs:List V} (e:H a=some (.tup xs)):TyOf K H (.ref a) (.type "tuple")
 |dK {a:Addr} {kvs:List (Key×V)} (e:H a=some (.dK kvs)):TyOf K H (.ref a) (.type "dict")
 |dT {a:Addr} {kvs:List (List Key×V)} (e:H a=some (.dT kvs)):TyOf K H (.ref a) (.type "dict")
 |ins {a C dx:Addr} {fs:List (Str×V)} (e:H a=some (.ins C dx fs)) (cl:Cls K C) (ha:W.findIn K (.ref C) "__class__" = some (some (.builtin "object.__class__")))
   (hn:W.specialIn K (.builtin "object.__class__") "__get__" = some (some (.builtin "getset_descriptor.__get__"))) (htk:W.takesIn K (.builtin "object.__class__")=some true)
   (hm:W.mroIn K C (.type "object")=some true):TyOf K H (.ref a) (.ref C)
theorem Si{x:V}{u t:Value}(I:Inv X pins σ H s)(rx:RelV x u)(ty:TyOf X.K H x t)(e:W.kitOne X.K t c=some b)(h:∀tk,Q (.bool b) { s with toks:=tk }) :
  wpAny (model X.prog X.w) A (call (.builtin "isinstance") [u,c]) Q E s:=by
 cases ty with
 |non=>cases(show u=Value.none from rx);exact W.kia_one W.kitx_none I.kIn True.intro e (fun z=>nomatch z) h
 |bl y=>cases(show u=Value.bool y from rx);exact W.kia_one W.kitx_bool I.kIn True.intro e (fun z=>nomatch z) h
 |int i=>obtain⟨t,q⟩:=(show ∃t,u=Value.int i t from rx);cases q;exact W.kia_one W.kitx_int I.kIn True.intro e (fun z=>nomatch z) h
 |str y=>obtain⟨t,q⟩:=(show ∃t,u=Value.str y t from rx);cases q;exact W.kia_one W.kitx_str I.kIn True.intro e (fun z=>nomatch z) h
 |flt y=>obtain⟨t,q⟩:=(show ∃t,u=Value.float y t from rx);cases q;exact W.kia_one W.kitx_float I.kIn True.intro e (fun z=>nomatch z) h
 |@lst a xs ea=>
  cases(show u=Value.ref a from rx);obtain⟨_,_,n,_,h1⟩:=(show ObjOk X.prog X.w H s.heap a (.lst xs) from I.hok a _ ea);exact W.kia_one W.kitx_list I.kIn ⟨_,h1,rfl⟩ e (fun z=>nomatch z) h
 |@frz a ob xs ea=>
  cases(show u=Value.ref a from rx);obtain⟨_,_,_,n,_,h1⟩:=(show ObjOk X.prog X.w H s.heap a (.frz ob (.lst xs)) from I.hok a _ ea);exact W.kia_one W.kitx_list I.kIn ⟨_,h1,rfl⟩ e (fun z=>nomatch z) h
 |@tup a xs ea=>
  cases(show u=Value.ref a from rx);obtain⟨_,_,_,p⟩:=(show ObjOk X.prog X.w H s.heap a (.tup xs) from I.hok a _ ea);obtain⟨o,h1,h2,_⟩:=p;exact W.kia_one W.kitx_tuple I.kIn ⟨o,h1,h2⟩ e (fun z=>nomatch z) h
 |@dK a kvs ea=>
  cases(show u=Value.ref a from rx);obtain⟨_,_,vs,_,p⟩:=(show ObjOk X.prog X.w H s.heap a (.dK kvs) from I.hok a _ ea);obtain⟨o,es,ep,h1,h2,_⟩:=p;exact W.kia_one W.kitx_dict I.kIn ⟨o,h1,h2.1⟩ e (fun z=>nomatch z) h
 |@dT a kvs ea=>
  cases(show u=Value.ref a from rx);obtain⟨_,_,xs,_,o,es,ep,h1,h2,_⟩:=(show ObjOk X.prog X.w H s.heap a (.dT kvs) from I.hok a _ ea);exact W.kia_one W.kitx_dict I.kIn ⟨o,h1,h2.1⟩ e (fun z=>nomatch z) h
 |@ins a C dx fs ea cl ha hn htk hm=>
  cases(show u=Value.ref a from rx);obtain⟨mA,O,_⟩:=ins_get I.hok ea;obtain⟨od,J,_⟩:=O.look;exact W.kia_one (W.kitx_own (cl.get _) cl.hd ha hn htk hm) I.kIn J e (fun z=>nomatch z) h
end
end L2
namespace L2
open PySem PySem.Spec PyProof.Rows
structure Room(k:Nat)(A:Around):Prop where
 hd:A.handled=none
 dp:A.depth+3*k+5<recursionLimit
 un:A.units+16*k+200<cLine
 gd:A.guards=some []
theorem Room.mono{j k:Nat}{A:Around}(r:Room k A)(h:j≤k):Room j A:=⟨r.hd,by have:=r.dp;omega,by have:=r.un;omega,r.gd⟩
theorem Room.deeper{k:Nat}{A:Around}(r:Room (k+1) A)(env:Env):Room k (A.deeper env):=
 ⟨r.hd,by have:=r.dp;show A.depth+1+3*k+5<_;omega,by have:=r.un;show A.units+3+16*k+200<_;omega,r.gd⟩
theorem Room.depth{k:Nat}{A:Around}(r:Room k A):A.depth<recursionLimit:=by have:=r.dp;omega
def X7:TA:=fun _ H Q=>Q [] H
def Py(ta:TE)(tr:TA):TA:=fun σ H Q=>ta σ H fun x H1=>tr σ H1 fun xs H2=>Q (x::xs) H2
section
variable{X:Cx}{e:Expr}{es:List Expr}{te:TE}{t:TA}{pos:Pos}
theorem pa_nil:PA X [] X7:=fun _ _ _ _ H Q I h=>Calls.spliced_nil ⟨[],H,I,.nil,h⟩
theorem Dg(ha:PE X e te)(hr:PA X es t)(hs:starEach (e::es) X.env=(false,eval e X.env)::starEach es X.env:=by rfl):PA X (e::es) (Py te t):=by
 intro pos pins s σ H Q I h;rw[hs];show wpAny _ _ (spliced ((false,eval e X.env)::backTo pos (starEach es X.env))) _ _ s;refine Calls.spliced_cons (thn (ha pins s σ H _ I h) fun u s1 zz=>?_);obtain⟨x,H1,I1,r1,q1⟩:=zz;exact thn (hr pos pins s1 σ H1 _ I1 q1) fun us s2 ⟨xs,H2,I2,r2,q2⟩=>⟨x::xs,H2,I2,.cons r1 r2,q2⟩

def tTup(t:TA):TE:=fun σ H Q=>t σ H fun xs H1=>xs.length≤sizeLine∧∀p,H1 p=none→Q (.ref p) (upd H1 p (.tup xs))
def tLst(t:TA):TE:=fun σ H Q=>t σ H fun xs H1=>xs.length≤sizeLine∧∀p,H1 p=none→Q (.ref p) (upd H1 p (.lst xs))
theorem Adc{x1}(h:PA X es t):PE X (.Tuple es x1 pos) (tTup t):=by
 intro pins s σ H Q I hq;refine wpAny_Tuple_spliced (thn (h pos pins s σ H _ I hq) fun us s1 ⟨xs,H1,I1,r,z,q⟩=>⟨by rw[←r.length];exact z,?_⟩)
 have hf:H1 s1.heap.objs.size=none:=I1.hok.fresh (Nat.le_refl _);refine⟨.ref s1.heap.objs.size,upd H1 s1.heap.objs.size (.tup xs),I1.laid (t':=s1.toks) (fun b u e=>Heap.get?_push_of_some _ e) (Nat.le_refl _) ?_,rfl,q _ hf⟩;exact⟨z,us,r,⟨_,Heap.get?_push_size _ rfl,rfl,_,rfl⟩⟩
theorem Uo(h:PA X es t):PE X (.List es pos) (tLst t):=by
 intro pins s σ H Q I hq;refine wpAny_List_spliced (thn (h pos pins s σ H _ I hq) fun us s1 ⟨xs,H1,I1,r,z,q⟩=>⟨by rw[←r.length];exact z,?_⟩)
 have hf:H1 s1.heap.objs.size=none:=I1.hok.fresh (Nat.le_refl _);refine⟨.ref s1.heap.objs.size,upd H1 s1.heap.objs.size (.lst xs),I1.laid (t':=s1.toks) (fun b u e=>Heap.get?_push_of_some _ e) (Nat.le_refl _) ?_,rfl,q _ hf⟩;exact⟨z,us,0,r,Heap.get?_push_size _ rfl⟩
end
abbrev Sp:=List V→Hp→VK→XK→Prop
abbrev CXT:=List Env→Hp→Shared→XK→Value→Shared→Prop

structure Env0(P:Program)(w:World)(K:W.Frag)(mg:Str→Option Value)(base:Heap)(A:Around)(outer:List Env)(s:Shared)(H:Hp):Prop where
 frames:A.frames=some outer
 mod:Mod K mg base
 bs:∀b o,base.get? b=some o→s.heap.get? b=some o∧H b=none
 bsz:base.objs.size≤s.heap.objs.size
 funs:s.heap.FunFrames base outer
 frf:∀b∈frs outer,H b=none
 hok:HOk P w H s.heap
 bare:AllBare s.gens
def CE(outer:List Env)(P:Program)(w:World)(H:Hp)(s:Shared)(Q:VK)(u:Value)(s':Shared):Prop:=
 ∃v H',s'.os=s.os∧AllBare s'.gens∧Un (frs outer) [] H H' s.heap s'.heap∧HOk P w H' s'.heap∧RelV v u∧Q v H'
def CR(CX:CXT)(outer:List Env)(P:Program)(w:World)(H:Hp)(s:Shared)(Q:VK)(E:XK)(r:Result)(s':Shared):Prop:=
 match r with
 |.ok (.ret u)=>CE outer P w H s Q u s'
 |.ok _=>False
 |.error e=>CX outer H s E e s'
structure FnOk(P:Program)(w:World)(K:W.Frag)(mg:Str→Option Value)(base:Heap)(CX:CXT)(k:Nat)(f:Addr)(fd:FuncData)(ps:List Str)(sp:Sp):Prop where
 len:∀vs H Q E,sp vs H Q E→vs.length=ps.length
 run:∀(A:Around) (outer:List Env) (s:Shared) (H:Hp) (args:Args) (us:List Value) (vs:List V) (Q:VK) (E:XK),Room k A→Env0 P w K mg base A outer s H→BindsTo s fd args (ps.zip us)→Vals vs us→sp vs H Q E→
  codeAny (model P w) A (.call (.ref f) args) (CR CX outer P w H s Q E) s
section
variable{X:Cx}{pins:List (Addr×Obj)}{σ:St}{H:Hp}{s s':Shared}
theorem Inv.env0(I:Inv X pins σ H s):Env0 X.prog X.w X.K X.mg X.base X.A X.stack s H:=
 ⟨I.ok.frames,I.ok.mod,I.bs,Nat.le_trans I.ok.bsz I.sz,I.stack,I.stkFree,I.hok,I.bare⟩
theorem Inv.after{Q:VK}{u:Value}(I:Inv X pins σ H s)(h:CE X.stack X.prog X.w H s Q u s'):EP X pins σ Q u s':=by
 obtain⟨v,H',os,bare,un,hok,r,q⟩:=h;obtain⟨hh,g,d,t,os'⟩:=s';obtain rfl:os'=s.os:=os;exact⟨v,H',I.call (h':=hh) (g':=g) (d':=d) (t':=t) (ch:=[]) un hok bare (fun b z=>absurd z (by simp)),r,q⟩
end
def Aa1(sp:Sp)(dvs:List V)(E:XK)(t:TA):TE:=fun σ H Q=>t σ H fun vs H1=>sp (vs++dvs) H1 Q E
def Binds(K:W.Frag)(fd:FuncData)(ps:List Str)(ds:List Value):Prop:=
 ∀(s:Shared) (us:List Value),K.In s.heap→(us++ds).length=ps.length→BindsTo s fd ⟨us,[]⟩ (ps.zip (us++ds))
theorem Binds.all{K:W.Frag}{fd:FuncData}{ps:List Str}(h:∀us:List Value,us.length=ps.length→bindArgs fd ⟨us,[]⟩=pure (ps.zip us)):Binds K fd ps []:=fun s us _ hl=>by
 rw[List.append_nil] at hl ⊢;exact .of_eq (h us hl)

def Cq(CX:CXT)(X:Cx)(E:XK):Prop:=∀(pins:List (Addr×Obj)) (σ:St) (H:Hp) (s:Shared) (e:Value) (s':Shared),Inv X pins σ H s→CX X.stack H s E e s'→X.xe e s'

section
variable{X:Cx}{CX:CXT}{k:Nat}{f C:Addr}{fd:FuncData}{ps:List Str}{sp:Sp}{dvs:List V}{ds:List Value}{E:XK}{x m:Str}{p pos apos:Pos}{e o:Expr}{es:List Expr}{ta:TE}{t:TA}
theorem Ace{pins:List (Addr×Obj)}{σ:St}{H:Hp}{s:Shared}{Q:VK}{us:List Value}{vs:List V}(F:FnOk X.prog X.w X.K X.mg X.base CX k f fd ps sp)(hr:Room k X.A)(hb:Binds X.K fd ps ds)(hd:Vals dvs ds)(hx:Cq CX X E)(I:Inv X pins σ H s)(r:Vals vs us)(h:sp (vs++dvs) H Q E):wpAny (model X.prog X.w) X.A (call (.ref f) us) (EP X pins σ Q) X.xe s:=by
 have r2:Vals (vs++dvs) (us++ds):=r.append hd;have hl:(us++ds).length=ps.length:=by rw[←r2.length];exact F.len _ _ _ _ h
 refine wpAny_call (codeAny_mono (F.run X.A X.stack s H ⟨us,[]⟩ (us++ds) (vs++dvs) Q E hr I.env0 (hb s us I.kIn hl) r2 h) fun r s' hq=>?_);cases r with
 |error e=>exact hx pins σ H s e s' I hq
 |ok fl=>
  cases fl with
  |ret u=>exact I.after hq
  |next=>exact False.elim hq
  |brk=>exact False.elim hq
  |cont=>exact False.elim hq

theorem Zm(F:FnOk X.prog X.w X.K X.mg X.base CX k f fd ps sp)(hr:Room k X.A)(hg:Gl X x)(hm:X.mg x=some (.ref f))(hk:W.keepIn X.K (.ref f)=true)(hb:Binds X.K fd ps ds)(hd:Vals dvs ds)(hx:Cq CX X E)(ha:PA X (e::es) t)(hdb:(x == ("__debug__" : Str))=false:=by decide)(he:starEach (e::es) X.env=(false,eval e X.env)::starEach es X.env:=by rfl)(hpl:(backTo pos (starEach es X.env)).any (·.1)=false:=by rfl) :
  PE X (.Call (.Name x p) (e::es) [] pos) (Aa1 sp dvs E t):=by
 intro pins s σ H Q I h;refine wpAny_Call_Name_kw (D5 I hg hm ?_ hdb);refine W.callWith_K (h₀:=X.base) I.ok.mod.kin hk (thn (ha pos pins s σ H _ I h) fun us s1 ⟨vs,H1,I1,r,q⟩=>⟨I1.kIn,?_⟩) he hpl;exact Ace F hr hb hd hx I1 r q
structure Mk(K:W.Frag)(C f:Addr):Prop where
 makes:W.makesIn K C=true
 init:W.findIn K (.ref C) "__init__" = some (some (.ref f))
 fn:W.isFn K (.ref f)=true
 kp:W.keepIn K (.ref C)=true

end
def PK(X:Cx)(kws:List Keyword)(t:TA):Prop:=
 ∀(pos:Pos) (pins:List (Addr×Obj)) (s:Shared) (σ:St) (H:Hp) (Q:List V→Hp→Prop),Inv X pins σ H s→t σ H Q→wpAny (model X.prog X.w) X.A (evalAll ((backToKw pos (keywordEach kws X.env)).map (·.2))) (AP X pins σ Q) X.xe s
section
variable{X:Cx}{CX:CXT}{k:Nat}{f C:Addr}{fd:FuncData}{ps ks:List Str}{sp:Sp}{E:XK}{x m:Str}{p pos apos kpos:Pos}{e o:Expr}{es:List Expr}{kws:List Keyword}{te ta:TE}{t tk:TA}{nm:Option Str}
theorem Ac6:PK X [] X7:=fun _ _ _ _ H Q I h=>wpAny_evalAll_nil ⟨[],H,I,.nil,h⟩
theorem Zg(ha:PE X e te)(hr:PK X kws t):PK X (⟨nm,e,kpos⟩::kws) (Py te t):=by
 intro pos pins s σ H Q I h;show wpAny _ _ (evalAll ((do let v ←eval e X.env;standAt pos;pure v)::(backToKw pos (keywordEach kws X.env)).map (·.2))) _ _ s
 refine wpAny_evalAll_cons (wpAny_bind (thn (ha pins s σ H _ I h) fun u s1 ⟨x,H1,I1,r1,q1⟩=>wpAny_bind (wpAny_standAt (wpAny_pure ?_))));exact thn (hr pos pins s1 σ H1 _ I1 q1) fun us s2 ⟨xs,H2,I2,r2,q2⟩=>⟨x::xs,H2,I2,.cons r1 r2,q2⟩

variable{g:List Value→List Value→List Value}{gV:List V→List V→List V}
end
structure FnScope(N P:List Str)(sc:Scope):Prop where
 kind:sc.kind=.function
 co:sc.isCoroutine=false
 gen:sc.isGenerator=false
 nd:N.Nodup
 pre:N.take P.length=P
 par:∀x∈P,sc.names.lookup x=some .local∨sc.names.lookup x=some .cell
 nofree:∀y∈sc.names,y.2≠.free

theorem Kk{kindOf:Str→Option NameKind}{x:Str}:∀{binds:List (Str×Value)} {m:Str→Option Value},(∀v,(x,v) ∉ binds)→bindL kindOf binds m x=m x
 |[],_,_=>rfl
 |(n,v)::r,m,h=>by
  unfold bindL;rw[Kk fun w hw=>h w (List.mem_cons_of_mem _ hw)]
  split
  ·have:x≠n:=by rintro rfl;exact h v List.mem_cons_self
   simp[this]
  ·rfl
theorem Kl{kindOf:Str→Option NameKind}{x:Str}:∀{binds:List (Str×Value)} {m:Str→Option Value},(∀v,(x,v) ∉ binds)→bindC kindOf binds m x=m x
 |[],_,_=>rfl
 |(n,v)::r,m,h=>by
  unfold bindC;rw[Kl fun w hw=>h w (List.mem_cons_of_mem _ hw)]
  split
  ·rfl
  ·have:x≠n:=by rintro rfl;exact h v List.mem_cons_self
   simp[this]
theorem F4{kindOf:Str→Option NameKind}{x:Str}{v:Value}:∀{P:List Str} {vs:List Value} {i:Nat} {m:Str→Option Value},P.Nodup→P[i]? = some x→vs[i]? = some v→kindOf x=some .local→
  bindL kindOf (P.zip vs) m x=some v
 |[],_,_,_,_,h,_,_=>by simp at h
 |_::_,[],_,_,_,_,h,_=>by simp at h
 |p::P,w::vs,0,m,nd,h1,h2,hk=>by
  simp at h1 h2;subst h1;subst h2;show bindL kindOf ((p,w)::P.zip vs) m p=_;unfold bindL;rw[Kk fun v hv=>(List.nodup_cons.mp nd).1 (List.of_mem_zip hv).1,if_pos hk];simp
 |p::P,w::vs,i+1,m,nd,h1,h2,hk=>by
  show bindL kindOf ((p,w)::P.zip vs) m x=_;unfold bindL;exact F4 (i:=i) (List.nodup_cons.mp nd).2 (by simpa using h1) (by simpa using h2) hk
theorem F5{kindOf:Str→Option NameKind}{x:Str}{v:Value}:∀{P:List Str} {vs:List Value} {i:Nat} {m:Str→Option Value},P.Nodup→P[i]? = some x→vs[i]? = some v→kindOf x≠some .local→
  bindC kindOf (P.zip vs) m x=some v
 |[],_,_,_,_,h,_,_=>by simp at h
 |_::_,[],_,_,_,_,h,_=>by simp at h
 |p::P,w::vs,0,m,nd,h1,h2,hk=>by
  simp at h1 h2;subst h1;subst h2;show bindC kindOf ((p,w)::P.zip vs) m p=_;unfold bindC;rw[Kl fun v hv=>(List.nodup_cons.mp nd).1 (List.of_mem_zip hv).1,if_neg hk];simp
 |p::P,w::vs,i+1,m,nd,h1,h2,hk=>by
  show bindC kindOf ((p,w)::P.zip vs) m x=_;unfold bindC;exact F5 (i:=i) (List.nodup_cons.mp nd).2 (by simpa using h1) (by simpa using h2) hk

def start(N:List Str)(vs:List V):St:=vs.map some++List.replicate (N.length-vs.length) none

def C6(CX:CXT)(P:Program)(w:World)(K:W.Frag)(mg:Str→Option Value)(base:Heap)(N:List Str)(qual:Str)(scope:Scope)(f:Addr)(cd:Value)(A:Around)(outer:List Env)(s:Shared)(H:Hp)(E:XK):Cx where
 prog:=P
 w:=w
 K:=K
 mg:=mg
 base:=base
 A:=A.deeper (envOfC qual scope s.heap.objs.size f cd)
 N:=N
 s₀:=s
 H₀:=H
 env:=envOfC qual scope s.heap.objs.size f cd
 outer:=outer
 stack:=envOfC qual scope s.heap.objs.size f cd::outer
 ex:=[]
 calm:=true
 fn:=fun _=>true
 pn:=[]
 xe:=fun e s'=>wpAny (model P w) (A.deeper (envOfC qual scope s.heap.objs.size f cd)) (leaving (envOfC qual scope s.heap.objs.size f cd) e) (fun _ s''=>CX outer H s E e s'') (fun e' s''=>CX outer H s E e' s'') s'

theorem Fd{sc:Scope}{n:Nat}{x:Str}(h:sc.names.lookup x=some .cell):∃c,(cellsFrom n sc.names []).lookup x=some c:=by
 have q:=W.cellsFrom_some sc.names n [] (.inl h);exact Option.isSome_iff_exists.mp q

theorem Kh{CX:CXT}{P:Program}{w:World}{K:W.Frag}{mg:Str→Option Value}{base:Heap}{N ps:List Str}{qual:Str}{scope:Scope}{f:Addr}{cd:Value}{A:Around}{outer:List Env}{s s1:Shared}{H:Hp}{E:XK}{us:List Value}{vs:List V}(S:FnScope N ps scope)(hd:A.handled=none)(e0:Env0 P w K mg base A outer s H)(hl:vs.length=ps.length)(r:Vals vs us)(x:InCallC s s.heap.objs.size (bindL (envOfC qual scope s.heap.objs.size f cd).kindOf (ps.zip us) fun _=>none) (cellsFrom (s.heap.objs.size+1) scope.names []) (bindC (envOfC qual scope s.heap.objs.size f cd).kindOf (ps.zip us) fun _=>none) s1) :
  Inv (C6 CX P w K mg base N qual scope f cd A outer s H E) [] (start N vs) H s1:=by
 have hpl:ps.length≤N.length:=by have:=congrArg List.length S.pre;rw[List.length_take] at this;omega
 obtain⟨h1,tk,rfl,hk⟩:=x.done;have noA:∀b:Addr,b ∉ (C6 CX P w K mg base N qual scope f cd A outer s H E).ex:=fun b z=>absurd (show b∈([]:List Addr) from z) (by simp)
 refine⟨⟨e0.mod,S.kind,rfl,rfl,Nat.le_refl _,fun y z c h1 h2=>?_,fun y hy=>?_,fun y c _ h=>?_,fun _=>hd,Around.frames_deeper e0.frames,.inr ⟨rfl,rfl⟩,fun b z=>absurd z (noA b),e0.bs,e0.bsz,fun b _ _=>noA b,fun b z=>absurd z (noA b),e0.funs,e0.frf⟩,
  rfl,e0.bare,Un.kept hk,⟨_,x.toInCall.ns,fun i y v h1 h2 h3=>?_⟩,fun y c h=>⟨_,x.cell y c h⟩,e0.hok.fresh (Nat.le_refl _),fun y c h=>?_,fun p hp=>absurd (show p∈([]:List (Addr×Obj)) from hp) (by simp),e0.hok.kept hk,?_⟩
 ·exact name_of_addr x.apart (PySem.mem_of_lookup h1) (PySem.mem_of_lookup h2)
 ·have hy:scope.names.lookup y=some .cell∨scope.names.lookup y=some .free:=hy;rcases hy with hy|hy
  ·exact Fd hy
  ·exact absurd rfl (S.nofree _ (PySem.mem_of_lookup hy))
 ·exact Nat.le_of_lt (x.above y c (PySem.mem_of_lookup h))
 ·have hi:i<vs.length:=by
   unfold start at h2
   by_cases hi:i<vs.length
   ·exact hi
   ·rw[List.getElem?_append_right (by simpa using hi)] at h2
    rw[List.getElem?_replicate] at h2
    split at h2<;>cases h2
  have ha:vs[i]? = some v:=by
   unfold start at h2;rw[List.getElem?_append_left (by simpa using hi),List.getElem?_map] at h2
   cases e:vs[i]? with
   |none=>rw[e] at h2;cases h2
   |some a=>rw[e] at h2;cases h2;rfl
  obtain⟨u,hu,rv⟩:=r.get ha;have hp:ps[i]? = some y:=by
   rw[←S.pre,List.getElem?_take_of_lt (by omega)];exact h1
  have ndP:ps.Nodup:=by rw[←S.pre];exact S.nd.sublist (List.take_sublist _ _)
  refine⟨u,rv,?_⟩;rcases S.par y (List.mem_of_getElem? hp) with k|k
  ·exact .inl ⟨k,F4 ndP hp hu k⟩
  ·obtain⟨c,e⟩:=Fd (n:=s.heap.objs.size+1) k;refine .inr ⟨.inl k,c,e,?_⟩;have q:=x.cell y c e;rw[F5 ndP hp hu (by show scope.names.lookup y≠_;rw[k];decide)] at q
   exact q
 ·exact e0.hok.fresh (Nat.le_of_lt (x.above y c (PySem.mem_of_lookup h)))
 ·unfold start;show _=N.length;rw[List.length_append,List.length_map,List.length_replicate];omega

theorem T5{CX:CXT}{P:Program}{w:World}{K:W.Frag}{mg:Str→Option Value}{base:Heap}{k:Nat}{f:Addr}{name qual:Str}{params:Arguments}{body:List Stmt}{scope:Scope}{dV kV doc pm cdv ct oc:Value}{an od:Option Addr}{osl:Array (Option Value)}{N ps:List Str}{sp:Sp}(lk:K.lookup f=some ⟨oc,od,.func (W.fnOf name qual params body scope dV kV doc pm an cdv ct),osl⟩)(hcd:W.codeIn K cdv qual=true)(S:FnScope N ps scope)(len:∀vs H Q E,sp vs H Q E→vs.length=ps.length)(hbody:∀(A:Around) (outer:List Env) (s:Shared) (H:Hp) (vs:List V) (Q:VK) (E:XK),Room k (A.deeper (envOfC qual scope s.heap.objs.size f cdv))→sp vs H Q E→
   ∃t,PSs (C6 CX P w K mg base N qual scope f cdv A outer s H E) body t∧t { nx:=fun _ H'=>Q .non H',rt:=Q } (start N vs) H) :
  FnOk P w K mg base CX (k+1) f (W.fnOf name qual params body scope dV kV doc pm an cdv ct) ps sp:=by
 refine⟨len,fun A outer s H args us vs Q E hr e0 hb r hsp=>?_⟩;have hl:=len _ _ _ _ hsp;have KX:K.In s.heap:=e0.mod.kin.keeps fun b o e=>(e0.bs b o e).1;have lim:s.heap.NoLimit:=e0.mod.nolimit.keeps fun b o e=>(e0.bs b o e).1;have hkind:∀y∈ps.zip us,scope.names.lookup y.1=some .local∨(scope.names.lookup y.1=some .cell∧((cellsFrom (s.heap.objs.size+1) scope.names []).lookup y.1).isSome=true):=fun zz hy=>by
  obtain⟨n,v⟩:=zz;rcases S.par n (List.of_mem_zip hy).1 with q|q
  ·exact .inl q
  ·exact .inr ⟨q,W.cellsFrom_some _ _ _ (.inl q)⟩
 refine codeAny_call_function hr.depth (KX _ _ lk) rfl S.co S.gen rfl (W.codeRec_of KX hcd) (hb _ _ _ _ ?_);refine wpAny_newFunctionEnv_cells S.kind hkind fun env he s1 x=>?_;subst he;refine⟨lim.keeps x.toInCall.keep,codeAny_func ?_⟩;obtain⟨t,ht,hq⟩:=hbody A outer s H vs Q E (hr.deeper _) hsp;have I:Inv (C6 CX P w K mg base N qual scope f cdv A outer s H E) [] (start N vs) H s1:=Kh S hr.hd e0 hl r x;refine wpAny_mono (ht [] s1 (start N vs) H _ I hq) (fun fl s' hs=>?_) fun e s' hs=>hs;have fin:∀{σ':St} {H':Hp} {v:V} {u:Value},Inv (C6 CX P w K mg base N qual scope f cdv A outer s H E) [] σ' H' s'→RelV v u→Q v H'→CE outer P w H s Q u s':=
  fun {σ' H' v u} J rv q=>⟨v,H',J.os,J.bare,J.base,J.hok,rv,q⟩
 cases fl with
 |ret u=>
  obtain⟨v,σ',H',J,rv,q⟩:=hs;exact fin J rv q
 |next=>
  obtain⟨σ',H',J,q⟩:=hs;exact fin (v:=V.non) (u:=Value.none) J rfl q
 |brk=>
  obtain⟨_,_,_,q⟩:=hs;exact False.elim q
 |cont=>
  obtain⟨_,_,_,q⟩:=hs;exact False.elim q
end L2
namespace L2
open PySem PySem.Spec PyProof.Rows
section
variable{X:Cx}{x:Str}{p pos:Pos}{e:Expr}{es:List Expr}{t:TA}{id T:String}{r:List V→Hp→VK→Prop}
def tCB(r:List V→Hp→VK→Prop)(t:TA):TE:=fun σ H Q=>t σ H fun vs H1=>r vs H1 Q
theorem M8(hc:CallR X (.builtin id) r)(hg:Gl X x)(hm:X.mg x=none)(hv:bootBuiltins x=some (.builtin id))(ha:PA X (e::es) t)(hn:x≠"__name__":=by decide)(hdb:(x == ("__debug__" : Str))=false:=by decide)(he:starEach (e::es) X.env=(false,eval e X.env)::starEach es X.env:=by rfl)(hpl:(backTo pos (starEach es X.env)).any (·.1)=false:=by rfl):PE X (.Call (.Name x p) (e::es) [] pos) (tCB r t):=by
 intro pins s σ H Q I h;refine wpAny_Call_Name_kw (Df I hg hm hv ?_ hn hdb);exact PyProof.Rows.callWith_builtin1 (thn (ha pos pins s σ H _ I h) fun us s1 ⟨vs,H1,I1,r1,q1⟩=>hc pins s1 σ H1 vs us Q I1 r1 q1) he hpl
theorem J8(hc:CallR X (.type T) r)(hg:Gl X x)(hm:X.mg x=none)(hv:bootBuiltins x=some (.type T))(ha:PA X (e::es) t)(hn:x≠"__name__":=by decide)(hdb:(x == ("__debug__" : Str))=false:=by decide)(he:starEach (e::es) X.env=(false,eval e X.env)::starEach es X.env:=by rfl)(hpl:(backTo pos (starEach es X.env)).any (·.1)=false:=by rfl):PE X (.Call (.Name x p) (e::es) [] pos) (tCB r t):=by
 intro pins s σ H Q I h;refine wpAny_Call_Name_kw (Df I hg hm hv ?_ hn hdb);exact PyProof.Rows.callWith_type1 (thn (ha pos pins s σ H _ I h) fun us s1 ⟨vs,H1,I1,r1,q1⟩=>hc pins s1 σ H1 vs us Q I1 r1 q1) he hpl
end
end L2
namespace HT
open PySem PyProof.Rows
section
open PySem.SeqAt
open PySem.AutoSeq1 (wpAny_loadPart')
open PySem.MeetsSeq PySem.MeetsSeq2 PySem.MeetsSeq3
end
section
variable{prog:Program}{w:World}{A:Around}{E:Value→Shared→Prop}{s:Shared}
theorem cat_tup{t b:Addr}{vs ws:List Value}{Q:Value→Shared→Prop}(ht:IsTup s.heap t vs.toArray)(hb:IsTup s.heap b ws.toArray)(hv:vs≠[])(h1:ws=[]→Q (.ref t) s)(h2:ws≠[]→Q (.ref s.heap.objs.size) { s with heap:=s.heap.push { cls:=.type "tuple",data:=.seq (vs++ws).toArray } })(hsz:vs.length+ws.length≤sizeLine):wpAny (model prog w) A (binaryOp .Add (.ref t) (.ref b)) Q E s:=by
 obtain⟨⟨cls,dd,data,sl⟩,ho,hc,n,hd⟩:=id ht;obtain⟨⟨cls2,dd2,data2,sl2⟩,ho2,hc2,n2,hd2⟩:=id hb;simp only at hc hd hc2 hd2;subst hc hd hc2 hd2;have e:vs.toArray++ws.toArray=(vs++ws).toArray:=by simp
 by_cases hw:ws=[]
 ·exact concat_meets ⟨_,ho,rfl⟩ ⟨_,ho2,rfl⟩ noFill_tuple_add seq_tuple_add PySem.F.slot_tuple_add PySem.F.entry_tuple_add (PySem.F.args_tuple_add_2 _ _)
   (tuple_addW1 t b vs.toArray ws.toArray n n2 dd dd2 sl sl2 (by simpa using hv) (by simp[hw])) ⟨ho,ho2,h1 hw⟩
 ·refine concat_meets ⟨_,ho,rfl⟩ ⟨_,ho2,rfl⟩ noFill_tuple_add seq_tuple_add PySem.F.slot_tuple_add PySem.F.entry_tuple_add (PySem.F.args_tuple_add_2 _ _)
   (tuple_addW2 t b vs.toArray ws.toArray n n2 dd dd2 sl sl2 (by simpa using hv) (by simpa using hw) (by rw[List.size_toArray,List.size_toArray];exact hsz)) ⟨ho,ho2,?_⟩
  rw[e];exact h2 hw

def sIx(n d:Nat):Option Int→Nat
 |none=>d
 |some v=>if v<0 then (v+(n:Int)).toNat else min v.toNat n
theorem Aca(n d:Nat)(hd:d≤n)(o:Option Int):sIx n d o≤n:=by
 cases o with
 |none=>exact hd
 |some v=>
  show(if v<0 then (v+(n:Int)).toNat else min v.toNat n)≤n
  by_cases hv:v<0
  ·rw[if_pos hv];omega
  ·rw[if_neg hv];exact Nat.min_le_right _ _
theorem Q6(v:Int)(n d:Nat):(if v<0 then max (v+(n:Int)) 0 else min v (n:Int))=((sIx n d (some v):Nat):Int):=by
 show(if v<0 then max (v+(n:Int)) 0 else min v (n:Int))=(((if v<0 then (v+(n:Int)).toNat else min v.toNat n):Nat):Int)
 by_cases hv:v<0
 ·simp only[if_pos hv];omega
 ·simp only[if_neg hv];omega
theorem Pv(lo hi:Option Int)(n:Nat):Builtin.Slice.sliceAdjust lo hi 1 (n:Int)=(((sIx n 0 lo:Nat):Int),((sIx n n hi:Nat):Int)):=by
 have h1:¬((1:Int)<0):=by omega
 unfold Builtin.Slice.sliceAdjust;simp only[h1,if_false];refine Prod.ext ?_ ?_
 ·cases lo with
  |none=>rfl
  |some v=>exact Q6 v n 0
 ·cases hi with
  |none=>rfl
  |some v=>exact Q6 v n n
theorem O7(i j:Nat):Builtin.Slice.slicePlaces (i:Int) (j:Int) 1=j-i:=by
 unfold Builtin.Slice.slicePlaces;have h1:(1:Int)>0:=by omega
 simp only[h1,if_true,Int.ediv_one]
 split<;>omega
theorem Ik{v:Value}{o:Option Int}{Q:Option Int→Shared→Prop}(p:IsPart v o)(h:Q o s):wpAny (model prog w) A (Builtin.Slice.slicePartIndex v) Q E s:=by
 cases p with
 |none=>exact slicePart_none h
 |int i t=>exact slicePart_int h
theorem sliceApplied_gen{sl:Addr}{vl vu:Value}{lo hi:Option Int}{n:Nat}{Q:Int×Int×Nat→Shared→Prop}(hs:s.heap.IsSliceOf sl vl vu .none)(pl:IsPart vl lo)(pu:IsPart vu hi)(h:Q (((sIx n 0 lo:Nat):Int),1,sIx n n hi-sIx n 0 lo) s):wpAny (model prog w) A (Builtin.Slice.sliceApplied (.ref sl) (pure (n:Int))) Q E s:=by
 obtain⟨os,hos,hcs,hds⟩:=id hs;unfold Builtin.Slice.sliceApplied Builtin.Slice.sliceFields;refine wpAny_bind (wpAny_bind (wpAny_field hos hds (x:=vl) rfl (wpAny_bind (wpAny_field hos hds (x:=vu) rfl (wpAny_bind (wpAny_field hos hds (x:=.none) rfl (wpAny_pure ?_)))))));refine wpAny_bind (slicePart_none ?_);show wpAny _ _ (if ((1:Int) == 0)=true then _ else _) _ _ s;rw[if_neg (by decide)]
 refine wpAny_bind (Ik pl (wpAny_bind (Ik pu (wpAny_bind (wpAny_pure ?_)))));show wpAny _ _ (match Builtin.Slice.sliceAdjust lo hi 1 (n:Int) with|(lo,hi)=>pure (lo,(1:Int),Builtin.Slice.slicePlaces lo hi 1)) _ _ s
 rw[Pv lo hi n];show wpAny _ _ (pure (((sIx n 0 lo:Nat):Int),(1:Int),Builtin.Slice.slicePlaces ((sIx n 0 lo:Nat):Int) ((sIx n n hi:Nat):Int) 1)) _ _ s;rw[O7];exact wpAny_pure h
theorem Wa(xs:Array Value)(i k:Nat):((List.range k).filterMap fun(m:Nat)=>xs[((i:Int)+(m:Int)*1).toNat]?).toArray=((xs.toList.drop i).take k).toArray:=by
 have e:(fun(m:Nat)=>xs[((i:Int)+(m:Int)*1).toNat]?)=fun m=>xs[i+m]?:=by
  funext m
  have:((i:Int)+(m:Int)*1).toNat=i+m:=by omega
  rw[this]
 rw[e]
 have:=pick_run xs i k
 rw[List.filterMap_map] at this;have e2:((fun x=>xs[x]?) ∘ fun x=>i+x)=fun m=>xs[i+m]?:=rfl;rw[e2] at this;rw[this]

theorem getItem_tuple_cut{t sl:Addr}{items:Array Value}{vl vu:Value}{lo hi:Option Int}{Q:Value→Shared→Prop}(ht:IsTup s.heap t items)(hs:s.heap.IsSliceOf sl vl vu .none)(pl:IsPart vl lo)(pu:IsPart vu hi)(hw:¬(sIx items.size 0 lo=0∧sIx items.size items.size hi=items.size))(h:Q (.ref s.heap.objs.size) { s with heap:=s.heap.push { cls:=.type "tuple",data:=.seq ((items.toList.drop (sIx items.size 0 lo)).take (sIx items.size items.size hi-sIx items.size 0 lo)).toArray } })(hsz:items.size≤sizeLine):wpAny (model prog w) A (getItem (.ref t) (.ref sl)) Q E s:=by
 have htake:sizeOk (.seq ((items.toList.drop (sIx items.size 0 lo)).take (sIx items.size items.size hi-sIx items.size 0 lo)).toArray):=by
  show((items.toList.drop (sIx items.size 0 lo)).take (sIx items.size items.size hi-sIx items.size 0 lo)).toArray.size≤sizeLine;rw[List.size_toArray,List.length_take,List.length_drop,Array.length_toList];omega
 have hj:sIx items.size items.size hi≤items.size:=Aca _ _ (Nat.le_refl _) hi;obtain⟨os,hos,hcs,hds⟩:=id hs;have hTs:s.TypeIs (.ref sl) "slice":=⟨os,hos,hcs⟩;unfold getItem
 try with_reducible refine wpAny_holding ?_
 first|refine wpAny_bind (wpAny_pure ?_)|skip
 refine wpAny_bind (wpAny_sequenceKey ht.typeIs (by decide) ?_)
 refine wpAny_bind (wpAny_callSpecial?_slot (name:=Str.ofString "__getitem__") ht.typeIs PyProof.Rows.slot_tuple_getitem
  (wpAny_call_entry PyProof.Rows.slot_tuple_getitem ht.typeIs entry_tuple_getitem ?_ (args_tuple_getitem _ _)))
 show wpAny _ _ (Builtin.Tuple.tupleItemsOf (.ref t) >>= _) _ _ s;refine wpAny_bind (tupleItemsOf_ ht ?_);refine wpAny_bind (wpAny_typeOf hTs ?_);rw[if_pos (by decide)]
 refine wpAny_bind (sliceApplied_gen hs pl pu ?_);have hno:¬((((sIx items.size 0 lo:Nat):Int) == 0&&(1:Int) == 1&&(sIx items.size items.size hi-sIx items.size 0 lo) == items.size)=true):=by
  intro q;rw[Bool.and_eq_true,Bool.and_eq_true] at q;have q1:((sIx items.size 0 lo:Nat):Int)=0:=eq_of_beq q.1.1;have q2:sIx items.size items.size hi-sIx items.size 0 lo=items.size:=eq_of_beq q.2;exact hw ⟨by omega,by omega⟩
 show wpAny _ _ (if (((sIx items.size 0 lo:Nat):Int) == 0&&(1:Int) == 1&&(sIx items.size items.size hi-sIx items.size 0 lo) == items.size)=true then _ else _) _ _ s;rw[if_neg hno,Wa]
 first
  |exact wpAny_bind (m:=Builtin.Tuple.tupleExact _) (wpAny_newObj_type (wpAny_pure ⟨_,rfl,wpAny_pure h⟩) htake)
  |exact wpAny_bind (m:=Builtin.Tuple.tupleExact _) (wpAny_newObj_type (wpAny_bind (wpAny_pure (wpAny_pure ⟨_,rfl,wpAny_pure h⟩))) htake)
  |exact wpAny_bind (wpAny_bind (m:=Builtin.Tuple.tupleExact _) (wpAny_newObj_type (wpAny_pure (wpAny_pure ⟨_,rfl,wpAny_pure h⟩)) htake))
  |exact wpAny_bind (wpAny_bind (m:=Builtin.Tuple.tupleExact _) (wpAny_newObj_type (wpAny_pure ⟨_,rfl,wpAny_pure h⟩) htake))
end
end HT
namespace L2
open PySem PySem.Spec PyProof.Rows
abbrev TO:=St→Hp→(Option Int→Hp→Prop)→Prop
def PO(X:Cx)(e:Option Expr)(t:TO):Prop:=
 ∀(pins:List (Addr×Obj)) (s:Shared) (σ:St) (H:Hp) (Q:Option Int→Hp→Prop),Inv X pins σ H s→t σ H Q→
  wpAny (model X.prog X.w) X.A (evalPart e X.env) (fun u s'=>∃o H',Inv X pins σ H' s'∧IsPart u o∧Q o H') X.xe s
def Yl:TO:=fun _ H Q=>Q none H
def tPart(t:TE):TO:=fun σ H Q=>t σ H fun x H1=>∃i,x=.int i∧Q (some i) H1

section
variable{X:Cx}{e:Expr}{te:TE}{lo hi:Option Expr}{tl th:TO}{pos p2:Pos}
theorem po_none:PO X none Yl:=by
 intro pins s σ H Q I h;rw[evalPart_none];exact wpAny_pure ⟨none,H,I,.none,h⟩
theorem Zf(h:PE X e te):PO X (some e) (tPart te):=by
 intro pins s σ H Q I hw;rw[evalPart_some];refine thn (h pins s σ H _ I hw) fun u s1 zz=>?_;obtain⟨x,H1,I1,r1,q1⟩:=zz;obtain⟨i,rfl,q⟩:=q1;obtain⟨t,rfl⟩:=r1;exact⟨some i,H1,I1,.int i t,q⟩

def SlR(X:Cx)(r:V→Option Int→Option Int→Hp→VK→Prop):Prop:=
 ∀(pins:List (Addr×Obj)) (s:Shared) (σ:St) (H:Hp) (x:V) (v vl vu:Value) (lo hi:Option Int) (sl:Addr) (Q:VK),Inv X pins σ H s→RelV x v→s.heap.IsSliceOf sl vl vu .none→IsPart vl lo→IsPart vu hi→r x lo hi H Q→
  ∃T id,typeLookup (.type T) "__getitem__" = pure (some (.builtin id))∧s.TypeIs v T∧wpAny (model X.prog X.w) X.A (getItem v (.ref sl)) (EP X pins σ Q) X.xe s
def tSl(r:V→Option Int→Option Int→Hp→VK→Prop)(te:TE)(tl th:TO):TE:=fun σ H Q=>te σ H fun x H1=>tl σ H1 fun l H2=>th σ H2 fun u H3=>r x l u H3 Q
theorem Wd{r:V→Option Int→Option Int→Hp→VK→Prop}(hr:SlR X r)(he:PE X e te)(hl:PO X lo tl)(hu:PO X hi th):PE X (.Subscript e (.Slice lo hi none p2) pos) (tSl r te tl th):=by
 intro pins s σ H Q I h;refine Subscript_ (thn (he pins s σ H _ I h) fun v s1 zz=>?_);obtain⟨x,H1,I1,r1,q1⟩:=zz;refine wpAny_Slice (thn (hl pins s1 σ H1 _ I1 q1) fun vl s2 ⟨l,H2,I2,pl,q2⟩=>thn (hu pins s2 σ H2 _ I2 q2) fun vu s3 ⟨u,H3,I3,pu,q3⟩=>?_);rw[evalPart_none];refine wpAny_pure ?_;have I4:Inv X pins σ H3 { s3 with heap:=s3.heap.push { cls:=.type "slice",data:=.fields #[vl,vu,.none] } }:=I3.kept (t':=s3.toks) fun b ob q=>Heap.get?_push_of_some _ q;obtain⟨T,id,hT,ht,hg⟩:=hr pins { s3 with heap:=s3.heap.push { cls:=.type "slice",data:=.fields #[vl,vu,.none] } } σ H3 x v vl vu l u s3.heap.objs.size Q I4 r1 (Heap.IsSliceOf.new ..) pl pu q3;show wpAny (model X.prog X.w) X.A (subscriptTail e (.Slice lo hi none p2) v (.ref s3.heap.objs.size)) (EP X pins σ Q) X.xe { s3 with heap:=s3.heap.push { cls:=.type "slice",data:=.fields #[vl,vu,.none] } };exact tail_any (ops:=[.ref s3.heap.objs.size,v]) ht hT hg (by with_unfolding_all rfl)

def Mh(xs:List V)(lo hi:Option Int):List V:=(xs.drop (HT.sIx xs.length 0 lo)).take (HT.sIx xs.length xs.length hi-HT.sIx xs.length 0 lo)
theorem Gh(xs:List V)(lo hi:Option Int):(Mh xs lo hi).length≤xs.length:=by
 unfold Mh;rw[List.length_take,List.length_drop];omega
def rSlT(K:W.Frag):V→Option Int→Option Int→Hp→VK→Prop:=fun x lo hi H Q=>∃a xs,x=.ref a∧SqT K H a xs∧
 ¬(HT.sIx xs.length 0 lo=0∧HT.sIx xs.length xs.length hi=xs.length)∧∀p,H p=none→Q (.ref p) (upd H p (.tup (Mh xs lo hi)))
theorem Ab6:SlR X (rSlT X.K):=by
 intro pins s σ H x v vl vu lo hi sl Q I rx hs pl pu h;obtain⟨a,xs,rfl,hx,hw,q⟩:=h;cases rx;obtain⟨its,r,ht,hz⟩:=I.tuple hx;have hlen:its.toArray.size=xs.length:=by rw[List.size_toArray];exact r.length.symm
 refine⟨"tuple",_,PyProof.Rows.slot_tuple_getitem.lookup,ht.typeIs,?_⟩;refine HT.getItem_tuple_cut ht hs pl pu (by rw[hlen];exact hw) ?_ (by rw[hlen];exact hz)
 rw[hlen];refine⟨.ref s.heap.objs.size,_,I.laid (t':=s.toks) (o:=.tup (Mh xs lo hi)) (fun b ob q=>Heap.get?_push_of_some _ q) (Nat.le_refl _) ?_,rfl,q _ (I.hok.fresh (Nat.le_refl _))⟩;exact⟨Nat.le_trans (Gh xs lo hi) hz,_,(r.drop (HT.sIx xs.length 0 lo)).take (HT.sIx xs.length xs.length hi-HT.sIx xs.length 0 lo),IsTup.new _ _⟩

def rCatT(K:W.Frag):R2:=fun x y H Q=>∃a b xs ys,x=.ref a∧y=.ref b∧SqT K H a xs∧SqT K H b ys∧xs≠[]∧xs.length+ys.length≤sizeLine∧
 (ys=[]→Q (.ref a) H)∧(ys≠[]→∀p,H p=none→Q (.ref p) (upd H p (.tup (xs++ys))))
theorem Vals.nil_iff{xs:List V}{us:List Value}(r:Vals xs us):us=[]↔xs=[]:=by
 cases r with
 |nil=>simp
 |cons _ _=>simp
theorem Zq:OpR X (binaryOp .Add) (rCatT X.K):=by
 intro pins s σ H x y v u Q I rx ry h;obtain⟨a,b,xs,ys,rfl,rfl,ha,hb,hx,hz,q1,q2⟩:=h;cases rx;cases ry;obtain⟨its,r1,p1,_⟩:=I.tuple ha;obtain⟨its2,r2,p2,_⟩:=I.tuple hb;refine HT.cat_tup p1 p2 (fun z=>hx (r1.nil_iff.mp z)) (fun z=>⟨.ref a,H,I,rfl,q1 (r2.nil_iff.mp z)⟩) (fun z=>?_) (by rw[←r1.length,←r2.length];exact hz)
 refine⟨.ref s.heap.objs.size,_,I.laid (t':=s.toks) (o:=.tup (xs++ys)) (fun b ob q=>Heap.get?_push_of_some _ q) (Nat.le_refl _) ?_,rfl,q2 (fun w=>z (r2.nil_iff.mpr w)) _ (I.hok.fresh (Nat.le_refl _))⟩;exact⟨by rw[List.length_append];exact hz,_,r1.append r2,IsTup.new _ _⟩
end
end L2
namespace L2
open PySem PySem.Spec PyProof.Rows
def ixN(n:Nat)(i:Int):Option Nat:=if 0≤i then (if i<n then some i.toNat else none) else if -(n:Int)≤i then some (i+n).toNat else none
def atI{α:Type}(xs:List α)(i:Int):Option α:=(ixN xs.length i).bind fun j=>xs[j]?
theorem Qu{n:Nat}{i:Int}{j:Nat}(h:ixN n i=some j):seqIndex? i n=some j∧j<n∧-(n:Int)≤i∧i<n:=by
 unfold ixN at h
 by_cases h0:0≤i
 ·rw[if_pos h0] at h
  by_cases h1:i<n
  ·rw[if_pos h1] at h;have e:i.toNat=j:=Option.some.inj h;exact⟨by rw[seqIndex_of h0 h1,e],by omega,by omega,h1⟩
  ·rw[if_neg h1] at h;cases h
 ·rw[if_neg h0] at h
  by_cases h1 : -(n:Int)≤i
  ·rw[if_pos h1] at h;have e:(i+n).toNat=j:=Option.some.inj h;exact⟨by rw[seqIndex_neg (by omega) h1,e],by omega,h1,by omega⟩
  ·rw[if_neg h1] at h;cases h
theorem Lz{α:Type}{xs:List α}{i:Int}{v:α}(h:atI xs i=some v):∃j,seqIndex? i xs.length=some j∧xs[j]? = some v∧j<xs.length∧-(xs.length:Int)≤i∧i<xs.length:=by
 unfold atI at h;cases e:ixN xs.length i with
 |none=>rw[e] at h;cases h
 |some j=>
  rw[e] at h;obtain⟨h1,h2,h3,h4⟩:=Qu e;exact⟨j,h1,h,h2,h3,h4⟩
theorem B4{α:Type}{xs:List α}{j:Nat}{v:α}(h:xs[j]? = some v):atI xs (j:Int)=some v:=by
 have hj:j<xs.length:=(List.getElem?_eq_some_iff.mp h).1;have e:ixN xs.length (j:Int)=some j:=by
  unfold ixN;rw[if_pos (by omega),if_pos (by omega)];simp
 unfold atI;rw[e];exact h
theorem Bw{α:Type}(xs:List α)(v:α):atI (xs++[v]) (-1)=some v:=by
 have hl:(xs++[v]).length=xs.length+1:=by simp
 have e:ixN (xs++[v]).length (-1)=some xs.length:=by
  unfold ixN;rw[hl,if_neg (by decide),if_pos (by omega)]
  congr 1;omega
 unfold atI;rw[e];show(xs++[v])[xs.length]? = some v;simp

def Ra(b:Expr):Prop:=∀o i,subscripted b false o i=operate [o,i] (getItem o i)
def IxR(X:Cx)(r:R2):Prop:=
 ∀(value slice:Expr) (pins:List (Addr×Obj)) (s:Shared) (σ:St) (H:Hp) (x y:V) (v u:Value) (Q:VK),Inv X pins σ H s→RelV x v→RelV y u→r x y H Q→
  subscripted slice false v u=operate [v,u] (getItem v u)→wpAny (model X.prog X.w) X.A (subscriptTail value slice v u) (EP X pins σ Q) X.xe s
def MtR(X:Cx)(id:String)(r:V→List V→Hp→VK→Prop):Prop:=
 ∀(pins:List (Addr×Obj)) (s:Shared) (σ:St) (H:Hp) (x:V) (xs:List V) (v:Value) (us:List Value) (Q:VK),Inv X pins σ H s→RelV x v→Vals xs us→r x xs H Q→
  wpAny (model X.prog X.w) X.A (call (.builtin id) (v::us)) (EP X pins σ Q) X.xe s
section
variable{X:Cx}{a b:Expr}{ta tb:TE}{pos:Pos}
theorem IxR.or{r r':R2}(h:IxR X r)(h':IxR X r'):IxR X (fun x y H Q=>r x y H Q∨r' x y H Q):=by
 intro value slice pins s σ H x y v u Q I rx ry q hs;rcases q with q|q
 ·exact h value slice pins s σ H x y v u Q I rx ry q hs
 ·exact h' value slice pins s σ H x y v u Q I rx ry q hs
theorem pe_ix{r:R2}(hr:IxR X r)(ha:PE X a ta)(hb:PE X b tb)(hs:Ra b):PE X (.Subscript a b pos) (tOp r ta tb):=by
 intro pins s σ H Q I h;exact Subscript_ (binT ha hb I h fun v u s2 x y H2 I2 rx ry q=>hr a b pins s2 σ H2 x y v u Q I2 rx ry q (hs _ _))

def rIxL(K:W.Frag):R2:=fun x y H Q=>∃p xs i v,x=.ref p∧y=.int i∧SqL K H p xs∧atI xs i=some v∧Q v H
def rIxT(K:W.Frag):R2:=fun x y H Q=>∃p xs i v,x=.ref p∧y=.int i∧SqT K H p xs∧atI xs i=some v∧Q v H
def rIxS:R2:=fun x y H Q=>∃z i c,x=.str z∧y=.int i∧z.length≤sizeLine∧atI z.cps.toList i=some c∧Q (.str ⟨#[c]⟩) H
theorem ix_list:IxR X (rIxL X.K):=by
 intro value slice pins s σ H x y v u Q I rx ry h hs;obtain⟨p,xs,i,z,rfl,rfl,hq,he,q⟩:=h;cases rx;obtain⟨t,rfl⟩:=ry;obtain⟨its,r,pl,hz⟩:=I.list hq;obtain⟨j,h1,h2,h3,h4,h5⟩:=Lz he;obtain⟨w,ew,rw'⟩:=r.get h2;have hl:=r.length;have hn:=Fn;have fin:EP X pins σ Q w s:=⟨z,H,I,rw',q⟩
 by_cases h0:0≤i
 ·have hj:i.toNat=j:=by
   rw[seqIndex_of h0 h5] at h1;exact Option.some.inj h1
  exact item_listR pl.isList h0 (by omega) (by rw[hj];simpa using ew) fin hs
 ·have hj:(i+(its.toArray.size:Int)).toNat=j:=by
   rw[seqIndex_neg (by omega) h4] at h1
   rw[List.size_toArray,←hl];exact Option.some.inj h1
  exact subscriptTail_builtinR (x:=w) pl.isList.typeIs slot_list_getitem.lookup
   (wpAny_getItem_list_neg (Q:=fun r s'=>r=w∧EP X pins σ Q r s') pl.isList (by omega) (by rw[List.size_toArray]<;>omega) (by omega) (by rw[hj];simpa using ew) ⟨rfl,fin⟩) hs
theorem ix_tup:IxR X (rIxT X.K):=by
 intro value slice pins s σ H x y v u Q I rx ry h hs;obtain⟨p,xs,i,z,rfl,rfl,hq,he,q⟩:=h;cases rx;obtain⟨t,rfl⟩:=ry;obtain⟨its,r,pl,hz⟩:=I.tuple hq;obtain⟨j,h1,h2,h3,h4,h5⟩:=Lz he;obtain⟨w,ew,rw'⟩:=r.get h2;have hl:=r.length;have hn:=Fn;have fin:EP X pins σ Q w s:=⟨z,H,I,rw',q⟩;exact subscriptTail_builtinR (x:=w) pl.typeIs slot_tuple_getitem.lookup
  (getItem_tuple (j:=j) (Q:=fun r s'=>r=w∧EP X pins σ Q r s') pl (by omega) (by omega) (by rw[List.size_toArray,←hl];exact h1) (by simpa using ew) ⟨rfl,fin⟩) hs
theorem Aea:IxR X rIxS:=by
 intro value slice pins s σ H x y v u Q I rx ry h hs;obtain⟨z,i,c,rfl,rfl,hz,he,q⟩:=h;obtain⟨t,rfl⟩:=rx;obtain⟨t',rfl⟩:=ry;obtain⟨j,h1,h2,h3,h4,h5⟩:=Lz he;have hl:z.cps.toList.length=z.length:=by simp[Str.length]
 rw[hl] at h1 h4 h5;have hn:=Fn;exact tail_any (typeIs_str s z t) slot_str_getitem.lookup (getItem_str (c:=c) (by
  have e1:decide (i < -(2 ^ 63:Int))=false:=decide_eq_false (by omega)
  have e2:decide (i ≥ 2 ^ 63)=false:=decide_eq_false (by omega)
  rw[e1,e2,Bool.or_false]) (by rw[h1];simpa using h2) ⟨.str ⟨#[c]⟩,H,I.tok _,⟨_,rfl⟩,q⟩) hs
def rIx(K:W.Frag):R2:=fun x y H Q=>rIxL K x y H Q∨rIxT K x y H Q∨rIxS x y H Q
theorem ix_seq:IxR X (rIx X.K):=ix_list.or (ix_tup.or Aea)

theorem Pb(its:List Value)(n j:Nat)(u:Value):Obj.mapSeq (·.setIfInBounds j u) { cls:=.type "list",data:=.seq its.toArray n }={ cls:=.type "list",data:=.seq (its.set j u).toArray n }:=by
 simp[Obj.mapSeq]
theorem Inv.lst{pins:List (Addr×Obj)}{σ:St}{H:Hp}{s:Shared}{p:Addr}{xs:List V}(I:Inv X pins σ H s)(h:H p=some (.lst xs)) :
  ∃(its:List Value) (n:Nat),Vals xs its∧s.heap.get? p=some { cls:=.type "list",data:=.seq its.toArray n }∧xs.length≤sizeLine:=by
 obtain⟨z,its,n,r,e⟩:=I.hok p _ h;exact⟨its,n,r,e,z⟩
theorem Inv.lstUpd{pins:List (Addr×Obj)}{σ:St}{H:Hp}{s:Shared}{p:Addr}{xs ys:List V}{its its':List Value}{n n':Nat}{f:Obj→Obj}(I:Inv X pins σ H s)(h:H p=some (.lst xs))(ho:s.heap.get? p=some { cls:=.type "list",data:=.seq its.toArray n })(hf:f { cls:=.type "list",data:=.seq its.toArray n }={ cls:=.type "list",data:=.seq its'.toArray n' })(r:Vals ys its')(hz:ys.length≤sizeLine)(t:Nat) :
  Inv X pins σ (upd H p (.lst ys)) { s with heap:=s.heap.update p f,toks:=t }:=by
 have e:(s.heap.update p f).get? p=some { cls:=.type "list",data:=.seq its'.toArray n' }:=by
  rw[Heap.get?_update_self f ho (by rw[hf]<;>rfl),hf]
 refine I.write (x:=p) (e:=p) (by rw[h];trivial) (.inl rfl) (fun b u hb q=>(Heap.get?_update_other _ _ (Ne.symm hb)).trans q) ⟨_,e⟩ ?_
 exact⟨hz,its',n',r,e⟩
def rSetL:V→V→V→Hp→(Hp→Prop)→Prop:=fun o i v H Q=>∃p xs k j,o=.ref p∧i=.int k∧H p=some (.lst xs)∧ixN xs.length k=some j∧Q (upd H p (.lst (xs.set j v)))
theorem set_list:PSet X rSetL:=by
 intro pins s σ H o i v ov iv u Q I ro ri rv h;obtain⟨p,xs,k,j,rfl,rfl,hp,hj,q⟩:=h;cases ro;obtain⟨t,rfl⟩:=ri;obtain⟨its,n,r,ho,hz⟩:=I.lst hp;obtain⟨h1,h2,h3,h4⟩:=Qu hj;have hl:=r.length;have hn:=Fn;have I':Inv X pins σ (upd H p (.lst (xs.set j v))) { s with heap:=s.heap.update p (Obj.mapSeq (·.setIfInBounds j u)) }:=
  I.lstUpd hp ho (Pb its n j u) (r.set rv j) (by rw[List.length_set];exact hz) s.toks
 by_cases h0:0≤k
 ·have hk:k.toNat=j:=by
   rw[seqIndex_of h0 h4] at h1;exact Option.some.inj h1
  exact W.ki_setAt ho h0 (by omega) (by rw[List.size_toArray,←hl];exact h4) (by rw[hk];exact⟨_,I',q⟩)
 ·have hk:(k+(its.toArray.size:Int)).toNat=j:=by
   rw[seqIndex_neg (by omega) h3] at h1
   rw[List.size_toArray,←hl];exact Option.some.inj h1
  exact W.ki_setBack ho (by omega) (by rw[List.size_toArray,←hl];exact h3) (by omega) (by rw[hk];exact⟨_,I',q⟩)

theorem L4(lo hi:Option Int)(n:Nat):(sliceBounds lo hi none n).1=((HT.sIx n 0 lo:Nat):Int)∧(sliceBounds lo hi none n).2.1=((HT.sIx n n hi:Nat):Int)∧(sliceBounds lo hi none n).2.2=1:=by
 refine⟨?_,?_,rfl⟩
 ·cases lo with
  |none=>simp[sliceBounds,HT.sIx]
  |some i=>
   simp only[sliceBounds,HT.sIx,Option.getD_none,show(1:Int)>0 by decide,if_true]
   by_cases h:i<0
   ·simp only[h,if_true]<;>omega
   ·simp only[h,if_false]<;>omega
 ·cases hi with
  |none=>simp[sliceBounds,HT.sIx]
  |some i=>
   simp only[sliceBounds,HT.sIx,Option.getD_none,show(1:Int)>0 by decide,if_true]
   by_cases h:i<0
   ·simp only[h,if_true]<;>omega
   ·simp only[h,if_false]<;>omega
theorem Jl(its:List Value)(lo hi:Option Int):slicePick its.toArray lo hi none=((its.drop (HT.sIx its.length 0 lo)).take (HT.sIx its.length its.length hi-HT.sIx its.length 0 lo)).toArray:=by
 obtain⟨h1,h2,h3⟩:=L4 lo hi its.toArray.size;unfold slicePick;rw[h1,h2,h3];simp only[sliceRange_one,pick_run,List.size_toArray]<;>rfl
def rSlL(K:W.Frag):V→Option Int→Option Int→Hp→VK→Prop:=fun x lo hi H Q=>∃a xs,x=.ref a∧SqL K H a xs∧∀p,H p=none→Q (.ref p) (upd H p (.lst (Mh xs lo hi)))
theorem Yo:SlR X (rSlL X.K):=by
 intro pins s σ H x v vl vu lo hi sl Q I rx hs pl pu h;obtain⟨a,xs,rfl,hx,q⟩:=h;cases rx;obtain⟨its,r,ht,hz⟩:=I.list hx;have hlen:=r.length;refine⟨"list",_,slot_list_getitem.lookup,ht.isList.typeIs,?_⟩;refine wpAny_getItem_list_slice ht.isList hs pl pu .none (by simp) ?_ (by rw[List.size_toArray]<;>omega)
 rw[Jl,←hlen];refine⟨.ref s.heap.objs.size,_,I.laid (t':=s.toks) (o:=.lst (Mh xs lo hi)) (fun b ob q=>Heap.get?_push_of_some _ q) (Nat.le_refl _) ?_,rfl,q _ (I.hok.fresh (Nat.le_refl _))⟩;exact⟨Nat.le_trans (Gh xs lo hi) hz,_,0,(r.drop (HT.sIx xs.length 0 lo)).take (HT.sIx xs.length xs.length hi-HT.sIx xs.length 0 lo),Heap.get?_push_size _ rfl⟩

theorem call_tuple_of:CallR X (.type "tuple") (fun xs H Q=>∃p ys,xs=[.ref p]∧((SqL X.K H p ys∧∀l,H l=none→Q (.ref l) (upd H l (.tup ys)))∨(SqT X.K H p ys∧Q (.ref p) H))):=by
 intro pins s σ H xs us Q I r h;obtain⟨p,ys,rfl,h⟩:=h;obtain⟨u,rfl,rx⟩:=By r;cases rx;rcases h with ⟨hq,q⟩|⟨hq,q⟩
 ·obtain⟨its,r',pl,hz⟩:=I.list hq;have hlen:=r'.length;refine call_tuple_list pl.isList (fun h' kp=>?_) (by simp only[List.size_toArray]<;>omega)
  have I1:Inv X pins σ H { s with heap:=h' }:=I.kept (t':=s.toks) kp;have I2:Inv X pins σ (upd H h'.objs.size (.tup ys)) { s with heap:=h'.push { cls:=.type "tuple",data:=.seq its.toArray } }:=
   I1.laid (t':=s.toks) (fun b o e=>Heap.get?_push_of_some _ e) (Nat.le_refl _) (show ObjOk X.prog X.w _ _ _ (.tup ys) from⟨hz,its,r',IsTup.new _ _⟩)
  exact⟨.ref h'.objs.size,_,I2,rfl,q _ (I1.hok.fresh (Nat.le_refl _))⟩
 ·obtain⟨its,r',pl,hz⟩:=I.tuple hq;exact call_tuple_same pl ⟨.ref p,H,I,rfl,q⟩

def tyV(K:W.Frag)(T:String)(x:V)(H:Hp):Prop:=match x with
 |.str _=>T = "str"
 |.int _=>T = "int"
 |.ref p=>(T = "list"∧∃xs,SqL K H p xs)∨(T = "tuple"∧∃o,K.lookup p=some o∧o.cls=.type "tuple"∧o.dict=none)∨
   (T = "dict"∧((∃kvs,H p=some (.dK kvs))∨∃kvs,H p=some (.dT kvs)))∨(T = "set"∧∃S n,H p=some (.set S n))
 |_=>False
theorem Uf{pins:List (Addr×Obj)}{σ:St}{H:Hp}{s:Shared}{T:String}{x:V}{v:Value}(I:Inv X pins σ H s)(r:RelV x v)(ty:tyV X.K T x H) :
  s.TypeIs v T∧∀a,v=.ref a→∃ob,s.heap.get? a=some ob∧ob.dict=none:=by
 cases x with
 |str z=>
  obtain⟨t,rfl⟩:=r;cases(show T = "str" from ty);exact⟨typeIs_str s z t,fun _ e=>nomatch e⟩
 |int i=>
  obtain⟨t,rfl⟩:=r;cases(show T = "int" from ty);exact⟨typeIs_int s i t,fun _ e=>nomatch e⟩
 |ref p=>
  cases r;rcases ty with ⟨rfl,xs,hq⟩|⟨rfl,o,hk,hc,hd⟩|⟨rfl,hk⟩|⟨rfl,S,n,hk⟩
  ·obtain⟨its,_,pl,_⟩:=I.list hq;refine⟨pl.isList.typeIs,fun a e=>?_⟩;cases e;obtain⟨o,n,e,c,hd,_⟩:=pl;exact⟨o,e,hd⟩
  ·refine⟨⟨o,I.kIn p o hk,hc⟩,fun a e=>?_⟩;cases e;exact⟨o,I.kIn _ o hk,hd⟩
  ·have z:∃o,s.heap.get? p=some o∧o.ExactDict:=by
    rcases hk with ⟨kvs,hk⟩|⟨kvs,hk⟩
    ·obtain⟨_,_,_,_,o,_,_,e,ex,_⟩:=I.hok p _ hk;exact⟨o,e,ex⟩
    ·obtain⟨_,_,_,_,o,_,_,e,ex,_⟩:=I.hok p _ hk;exact⟨o,e,ex⟩
   obtain⟨o,e,ex⟩:=z;refine⟨⟨o,e,ex.1⟩,fun a e2=>?_⟩;cases e2;exact⟨o,e,ex.2.1⟩
  ·obtain⟨o,_,_,_,e,ex,_⟩:=I.hok p _ hk;refine⟨⟨o,e,ex.1⟩,fun a e2=>?_⟩;cases e2;exact⟨o,e,ex.2.1⟩
 |_=>exact False.elim ty
def tBM0(K:W.Frag)(T:String)(r:V→List V→Hp→VK→Prop)(to:TE):TE:=fun σ H Q=>to σ H fun x H1=>tyV K T x H1∧r x [] H1 Q
def tBM(K:W.Frag)(T:String)(r:V→List V→Hp→VK→Prop)(to:TE)(t:TA):TE:=fun σ H Q=>to σ H fun x H1=>tyV K T x H1∧t σ H1 fun xs H2=>r x xs H2 Q
variable{o e:Expr}{es:List Expr}{to:TE}{t:TA}{name:Str}{apos cpos:Pos}{T id:String}{r:V→List V→Hp→VK→Prop}
theorem Adk(pa:PlainAttrs T)(slot:Slot T name id)(hty:typeOf (.builtin id)=pure (.type "method_descriptor"))(hm:MtR X id r)(ho:PE X o to)(hbase:attributeBase o name X.env (eval o X.env)=eval o X.env:=by rfl)(hline:(apos.endLine == cpos.line)=true:=by rfl):PE X (.Call (.Attribute o name apos) [] [] cpos) (tBM0 X.K T r to):=by
 intro pins s σ H Q I h;refine wpAny_Call_method0_late hbase hline (thn (ho pins s σ H _ I h) fun v s1 zz=>?_);obtain⟨x,H1,I1,r1,ty,q1⟩:=zz;obtain⟨h1,h2⟩:=Uf I1 r1 ty;exact⟨T,id,pa,slot,hty,h1,h2,Calls.callWith_builtin rfl (PySem.evalArgs_none (hm pins s1 σ H1 x [] v [] Q I1 r1 .nil q1))⟩
theorem P0(pa:PlainAttrs T)(slot:Slot T name id)(hty:typeOf (.builtin id)=pure (.type "method_descriptor"))(hm:MtR X id r)(ho:PE X o to)(ha:PA X (e::es) t)(hbase:attributeBase o name X.env (eval o X.env)=eval o X.env:=by rfl)(hfew:((backTo cpos (starEach (e::es) X.env)).all (fun x=>!x.1)&&(backToKw cpos (keywordEach [] X.env)).all (fun x=>x.1.isSome)
   && decide ((e::es).length+([]:List Keyword).length+(if ([]:List Keyword).isEmpty then 0 else 1)<30))=true:=by rfl)(hline:(apos.endLine == cpos.line)=true:=by rfl)(hs:starEach (e::es) X.env=(false,eval e X.env)::starEach es X.env:=by rfl)(hplain:(backTo cpos (starEach es X.env)).any (·.1)=false:=by rfl) :
  PE X (.Call (.Attribute o name apos) (e::es) [] cpos) (tBM X.K T r to t):=by
 intro pins s σ H Q I h;refine wpAny_Call_method_late hbase hfew hline rfl (thn (ho pins s σ H _ I h) fun v s1 zz=>?_);obtain⟨x,H1,I1,r1,ty,q1⟩:=zz;obtain⟨h1,h2⟩:=Uf I1 r1 ty;refine⟨T,id,pa,slot,hty,h1,h2,?_⟩;have hA:=ha cpos pins s1 σ H1 _ I1 q1;rw[hs] at hA ⊢;refine Calls.callWith_builtin (by show(false||(backTo cpos (starEach es X.env)).any (·.1))=false;rw[hplain]<;>rfl) (Calls.evalArgs_plain ?_)
 exact thn hA fun us s2 ⟨vs,H2,I2,r2,q2⟩=>hm pins s2 σ H2 x vs v us Q I2 r1 r2 q2
end
end L2
namespace L2
open PySem PySem.Spec PyProof.Rows
def MtM(X:Cx)(id:String)(r:V→List V→Hp→VK→Prop):Prop:=
 ∀(pins:List (Addr×Obj)) (s:Shared) (σ:St) (H:Hp) (x:V) (xs:List V) (v:Value) (us:List Value) (Q:VK),Inv X pins σ H s→RelV x v→Vals xs us→r x xs H Q→
  wpAny (model X.prog X.w) X.A (call (.builtin id) (v::us)) (EP X pins σ Q) X.xe s

theorem Vals.one:∀{x:V} {us:List Value},Vals [x] us→∃u,us=[u]∧RelV x u
 |_,_,.cons r .nil=>⟨_,rfl,r⟩
theorem Vals.zero:∀{us:List Value},Vals [] us→us=[]
 |_,.nil=>rfl
theorem Vals.dropLast{xs:List V}{us:List Value}(h:Vals xs us):Vals xs.dropLast us.dropLast:=by
 induction h with
 |nil=>exact .nil
 |cons r t ih=>
  cases t with
  |nil=>exact .nil
  |cons q t'=>exact .cons r ih
theorem Vals.reverse{xs:List V}{us:List Value}(h:Vals xs us):Vals xs.reverse us.reverse:=by
 induction h with
 |nil=>exact .nil
 |cons r t ih=>rw[List.reverse_cons,List.reverse_cons];exact Vals.append ih (.cons r .nil)
theorem Pi{α:Type}(l:List α):l.eraseIdx (l.length-1)=l.dropLast:=by
 induction l with
 |nil=>rfl
 |cons a r ih=>
  cases r with
  |nil=>rfl
  |cons b r=>
   have e:(a::b::r).length-1=((b::r).length-1)+1:=by
    have h1:(a::b::r).length=r.length+2:=rfl;have h2:(b::r).length=r.length+1:=rfl;omega
   rw[e,List.eraseIdx_cons_succ,ih]
   all_goals rfl
section
variable{X:Cx}{pins:List (Addr×Obj)}{σ:St}{H:Hp}{s:Shared}{l b:Addr}{xs ys zs:List V}
theorem Inv.lset{its its':List Value}{n:Nat}{f:Array Value→Array Value}{t':Nat}(I:Inv X pins σ H s)(hH:H l=some (.lst xs))(e:s.heap.get? l=some { cls:=.type "list",data:=.seq its.toArray n })(hf:f its.toArray=its'.toArray)(hv:Vals ys its')(hz:ys.length≤sizeLine) :
  Inv X pins σ (upd H l (.lst ys)) { s with heap:=s.heap.update l (Obj.mapSeq f),toks:=t' }:=by
 have q:=PySem.IsL.update e f;rw[hf] at q;refine I.write (x:=l) (e:=l) (by rw[hH];exact trivial) (.inl rfl) (fun b' u hb hu=>(Heap.get?_update_other s.heap (Obj.mapSeq f) (Ne.symm hb)).trans hu) ⟨_,q⟩ ?_
 exact⟨hz,its',_,hv,q⟩
theorem Inv.lnew{its:List Value}{t':Nat}(I:Inv X pins σ H s)(hv:Vals ys its)(hz:ys.length≤sizeLine) :
  Inv X pins σ (upd H s.heap.objs.size (.lst ys)) { s with heap:=s.heap.push { cls:=.type "list",data:=.seq its.toArray },toks:=t' }:=
 I.laid (fun _ _ q=>Heap.get?_push_of_some _ q) (Nat.le_refl _) ⟨hz,its,0,hv,Heap.get?_push_size _ rfl⟩
theorem Inv.fresh(I:Inv X pins σ H s):H s.heap.objs.size=none:=I.hok.fresh (Nat.le_refl _)
theorem Inv.lstM(I:Inv X pins σ H s)(hH:H l=some (.lst xs)):xs.length≤sizeLine∧∃(its:List Value) (n:Nat),Vals xs its∧xs.length=its.length∧s.heap.get? l=some { cls:=.type "list",data:=.seq its.toArray n }:=by
 obtain⟨z,its,n,r,e⟩:=I.hok l _ hH;exact⟨z,its,n,r,r.length,e⟩

theorem W0{n:Nat}(h:n≤sizeLine):Builtin.List.listTooLong n=false:=by
 unfold Builtin.List.listTooLong;exact decide_eq_false (by omega)
end
section
variable{X:Cx}
def Yx:V→List V→Hp→VK→Prop:=fun x vs H Q=>∃l xs y,x=.ref l∧vs=[y]∧H l=some (.lst xs)∧xs.length<sizeLine∧Q .non (upd H l (.lst (xs++[y])))
theorem Fv:MtM X "list.append" Yx:=by
 intro pins s σ H x vs v us Q I rx rv h;obtain⟨l,xs,y,rfl,rfl,hH,hz,q⟩:=h;cases rx;obtain⟨u,rfl,ru⟩:=rv.one;obtain⟨z,its,n,r,hl,e⟩:=I.lstM hH;refine call_meets F.slot_list_append ⟨_,e,rfl⟩ F.entry_list_append (F.args_list_append_2 _ _) (PySem.list_append l its.toArray n u (by rw[List.size_toArray];omega)) ⟨e,?_⟩
 refine⟨.non,_,I.lset (its':=its++[u]) hH e (by simp) (r.append (.cons ru .nil)) ?_,rfl,q⟩
 rw[List.length_append,List.length_singleton];omega

def Yw:V→List V→Hp→VK→Prop:=fun x vs H Q=>∃l b xs zs,x=.ref l∧vs=[.ref b]∧H l=some (.lst xs)∧H b=some (.lst zs)∧xs.length+zs.length≤sizeLine∧Q .non (upd H l (.lst (xs++zs)))
theorem R7:MtM X "list.extend" Yw:=by
 intro pins s σ H x vs v us Q I rx rv h;obtain⟨l,b,xs,zs,rfl,rfl,hH,hB,hz,q⟩:=h;cases rx;obtain⟨u,rfl,ru⟩:=rv.one;cases ru;obtain⟨z,its,n,r,hl,e⟩:=I.lstM hH;obtain⟨z2,its2,n2,r2,hl2,e2⟩:=I.lstM hB;have hsz:its.toArray.size+its2.toArray.size≤sizeLine:=by rw[List.size_toArray,List.size_toArray];omega
 have hlong:¬(!its.toArray.isEmpty&&Builtin.List.listTooLong (its.toArray.size+its2.toArray.size))=true:=by
  rw[W0 hsz,Bool.and_false];exact Bool.false_ne_true
 refine call_meets F.slot_list_extend ⟨_,e,rfl⟩ F.entry_list_extend (F.args_list_extend_2 _ _)
  (AutoSeq1.list_extend_list_list_0 l its.toArray n b its2.toArray n2 hlong (by rw[List.size_toArray];omega) (by omega)) ⟨e,e2,?_⟩
 refine⟨.non,_,I.lset (its':=its++its2) hH e (by simp) (r.append r2) ?_,rfl,q⟩
 rw[List.length_append];omega

def rPop:V→List V→Hp→VK→Prop:=fun x vs H Q=>∃l xs y,x=.ref l∧vs=[]∧H l=some (.lst xs)∧xs[xs.length-1]? = some y∧Q y (upd H l (.lst xs.dropLast))
theorem mt_pop:MtM X "list.pop" rPop:=by
 intro pins s σ H x vs v us Q I rx rv h;obtain⟨l,xs,y,rfl,rfl,hH,hy,q⟩:=h;cases rx;have hus:=rv.zero;subst hus;obtain⟨z,its,n,r,hl,e⟩:=I.lstM hH;obtain⟨u,hu,ru⟩:=r.get hy;have hy':its.toArray[its.toArray.size-1]? = some u:=by
  show its.toArray[its.length-1]? = some u;rw[←Array.getElem?_toList,←hl];exact hu
 refine call_meets F.slot_list_pop ⟨_,e,rfl⟩ F.entry_list_pop (F.args_list_pop_1 _) (MeetsSeq.list_pop_last l its.toArray n u hy' (by rw[List.size_toArray];omega)) ⟨e,?_⟩
 refine⟨y,_,I.lset (its':=its.dropLast) hH e ?_ r.dropLast ?_,ru,q⟩
 ·show its.toArray.eraseIdxIfInBounds (its.toArray.size-1)=its.dropLast.toArray;rw[List.size_toArray,List.eraseIdxIfInBounds_toArray,Pi]
 ·rw[List.length_dropLast];omega

def Vx:V→List V→Hp→VK→Prop:=fun x vs H Q=>∃l xs,x=.ref l∧vs=[]∧H l=some (.lst xs)∧Q .non (upd H l (.lst xs.reverse))
theorem Pa:MtM X "list.reverse" Vx:=by
 intro pins s σ H x vs v us Q I rx rv h;obtain⟨l,xs,rfl,rfl,hH,q⟩:=h;cases rx;have hus:=rv.zero;subst hus;obtain⟨z,its,n,r,hl,e⟩:=I.lstM hH;refine call_meets F.slot_list_reverse ⟨_,e,rfl⟩ F.entry_list_reverse (F.args_list_reverse_1 _) (AutoSeq1.list_reverse_list_0 l its.toArray n (by rw[List.size_toArray];omega)) ⟨e,?_⟩
 refine⟨.non,_,I.lset (its':=its.reverse) hH e (by simp) r.reverse ?_,rfl,q⟩
 rw[List.length_reverse];omega

def rCat:R2:=fun x y H Q=>∃l b xs zs,x=.ref l∧y=.ref b∧H l=some (.lst xs)∧H b=some (.lst zs)∧xs.length+zs.length≤sizeLine∧∀p,H p=none→Q (.ref p) (upd H p (.lst (xs++zs)))
theorem Adp:OpR X (binaryOp .Add) rCat:=by
 intro pins s σ H x y v u Q I rx ry h;obtain⟨l,b,xs,zs,rfl,rfl,hH,hB,hz,q⟩:=h;cases rx;cases ry;obtain⟨z,its,n,r,hl,e⟩:=I.lstM hH;obtain⟨z2,its2,n2,r2,hl2,e2⟩:=I.lstM hB;refine PySem.P.add_list e e2 ?_ (by rw[List.size_toArray,List.size_toArray];omega)
 have ea:its.toArray++its2.toArray=(its++its2).toArray:=by simp
 rw[ea];exact⟨.ref _,_,I.lnew (t':=s.toks) (r.append r2) (by rw[List.length_append];omega),rfl,q _ I.fresh⟩
end
section
variable{prog:Program}{w:World}{A:Around}{E:Value→Shared→Prop}{s:Shared}
end
section
variable{X:Cx}
end
end L2
namespace L2
open PySem PySem.Spec PyProof.Rows
section
variable{κ:Type}[DecidableEq κ]
def Cv(kvs:List (κ×V))(k:κ):Option V:=(kvs.find? fun kv=>decide (kv.1=k)).map (·.2)
def Ch(kvs:List (κ×V))(k:κ)(v:V):List (κ×V):=
 if (kvs.any fun kv=>decide (kv.1=k))=true then kvs.map (fun kv=>if kv.1=k then (kv.1,v) else kv) else kvs++[(k,v)]
theorem Hn{p:κ×V}{r:List (κ×V)}{k:κ}(e:p.1=k):Cv (p::r) k=some p.2:=by simp[Cv,List.find?_cons,e]
theorem Ho{p:κ×V}{r:List (κ×V)}{k:κ}(e:¬p.1=k):Cv (p::r) k=Cv r k:=by simp[Cv,List.find?_cons,e]
theorem Mu(k:κ):∀kvs:List (κ×V),(kvs.any fun kv=>decide (kv.1=k))=(Cv kvs k).isSome
 |[]=>rfl
 |p::r=>by
  rw[List.any_cons]
  by_cases e:p.1=k
  ·simp only[Hn e,decide_eq_true e,Bool.true_or,Option.isSome_some]
  ·rw[Ho e,decide_eq_false e,Bool.false_or];exact Mu k r
theorem Cb(kvs:List (κ×V))(k:κ)(v:V):(Ch kvs k v).length≤kvs.length+1:=by
 unfold Ch
 split
 ·rw[List.length_map];omega
 ·rw[List.length_append,List.length_cons,List.length_nil];omega
theorem RelO.isSome_eq{o:Option V}{u:Option Value}(r:RelO o u):o.isSome=u.isSome:=by
 cases o with
 |none=>cases u with
  |none=>rfl
  |some _=>exact(show False from r).elim
 |some _=>cases u with
  |none=>exact(show False from r).elim
  |some _=>rfl
theorem RelO.getD{o:Option V}{u:Option Value}{d:V}{d':Value}(r:RelO o u)(rd:RelV d d'):RelV (o.getD d) (u.getD d'):=by
 cases o with
 |none=>cases u with
  |none=>exact rd
  |some _=>exact(show False from r).elim
 |some _=>cases u with
  |none=>exact(show False from r).elim
  |some _=>exact r

theorem KV.val{kvs:List (κ×V)}{vs:List (κ×Value)}(r:KV kvs vs)(k:κ):RelO (Cv kvs k) (valueAt vs k):=by
 unfold KV at r
 induction r with
 |nil=>exact True.intro
 |@cons p q ps qs h t ih=>
  obtain⟨h1,h2⟩:=h
  by_cases e:p.1=k
  ·have e':q.1=k:=h1.symm.trans e;have b:valueAt (q::qs) k=some q.2:=by simp[valueAt,List.find?_cons,e']
   rw[Hn e,b];exact h2
  ·have e':¬q.1=k:=fun z=>e (h1.trans z);have b:valueAt (q::qs) k=valueAt qs k:=by simp[valueAt,List.find?_cons,e']
   rw[Ho e,b];exact ih
theorem KV.any{kvs:List (κ×V)}{vs:List (κ×Value)}(r:KV kvs vs)(k:κ):(kvs.any fun kv=>decide (kv.1=k))=vs.any fun kv=>decide (kv.1=k):=by
 unfold KV at r
 induction r with
 |nil=>rfl
 |cons h t ih=>rw[List.any_cons,List.any_cons,ih,h.1]
theorem KV.repl{kvs:List (κ×V)}{vs:List (κ×Value)}(r:KV kvs vs)(k:κ){y:V}{u:Value}(ry:RelV y u) :
  KV (kvs.map fun kv=>if kv.1=k then (kv.1,y) else kv) (vs.map fun kv=>if kv.1=k then (kv.1,u) else kv):=by
 unfold KV at r ⊢
 induction r with
 |nil=>exact .nil
 |@cons p q ps qs h t ih=>
  rw[List.map_cons,List.map_cons];refine .cons ?_ ih;obtain⟨h1,h2⟩:=h
  by_cases e:p.1=k
  ·rw[if_pos e,if_pos (h1.symm.trans e)];exact⟨h1,ry⟩
  ·rw[if_neg e,if_neg (fun z=>e (h1.trans z))];exact⟨h1,h2⟩
theorem KV.put{kvs:List (κ×V)}{vs:List (κ×Value)}(r:KV kvs vs)(k:κ){y:V}{u:Value}(ry:RelV y u):KV (Ch kvs k y) (stored vs k u):=by
 unfold Ch stored;rw[r.any k]
 by_cases e:(vs.any fun kv=>decide (kv.1=k))=true
 ·rw[if_pos e,if_pos e];exact r.repl k ry
 ·rw[if_neg e,if_neg e];exact Paired.snoc r ⟨rfl,ry⟩
theorem KV.length{kvs:List (κ×V)}{vs:List (κ×Value)}(r:KV kvs vs):kvs.length=vs.length:=Paired.length r
end
theorem Gd{P:Program}{w:World}{k:Key}{u:Value}(r:RelV (kV k) u):(Ap P w).is k u=true:=by
 cases k with
 |inl i=>obtain⟨t,e⟩:=(show ∃t,u=Value.int i t from r);subst e;exact N1 P w i t
 |inr x=>obtain⟨t,e⟩:=(show ∃t,u=Value.str x t from r);subst e;exact N0 P w x t
theorem Kf{P:Program}{w:World}:∀{ks:List Key} {us:List Value},Vals (ks.map kV) us→ItemsAre (Ap P w) ks us
 |[],_,r=>by rw[List.map_nil] at r;cases r;exact .nil
 |k::ks,_,r=>by
  rw[List.map_cons] at r;cases r with
  |cons h t=>exact .cons (Gd h) (Kf t)

abbrev KT(H:Hp):List (List Key×V)→List (List Key×Addr×Value)→Prop:=Paired fun p q=>p.1=q.1∧H q.2.1=some (.tup (p.1.map kV))∧RelV p.2 q.2.2
theorem KT.val{H:Hp}{kvs:List (List Key×V)}{xs:List (List Key×Addr×Value)}(r:KT H kvs xs)(k:List Key):RelO (Cv kvs k) ((atKey xs k).map (·.2)):=by
 induction r with
 |nil=>exact True.intro
 |@cons p q ps qs h t ih=>
  obtain⟨h1,_,h2⟩:=h
  by_cases e:p.1=k
  ·have e':q.1=k:=h1.symm.trans e;have b:atKey (q::qs) k=some q.2:=by simp[atKey,List.find?_cons,e']
   rw[Hn e,b];exact h2
  ·have e':¬q.1=k:=fun z=>e (h1.trans z);have b:atKey (q::qs) k=atKey qs k:=by simp[atKey,List.find?_cons,e']
   rw[Ho e,b];exact ih
theorem KT.repl{H:Hp}{kvs:List (List Key×V)}{xs:List (List Key×Addr×Value)}(r:KT H kvs xs)(k:List Key){y:V}{u:Value}(ry:RelV y u) :
  KT H (kvs.map fun kv=>if kv.1=k then (kv.1,y) else kv) (xs.map (putAt k u)):=by
 induction r with
 |nil=>exact .nil
 |@cons p q ps qs h t ih=>
  rw[List.map_cons,List.map_cons];refine .cons ?_ ih;obtain⟨h1,h2,h3⟩:=h;unfold putAt
  by_cases e:p.1=k
  ·rw[if_pos e,if_pos (h1.symm.trans e)];exact⟨h1,h2,ry⟩
  ·rw[if_neg e,if_neg (fun z=>e (h1.trans z))];exact⟨h1,h2,h3⟩
theorem KT.put{H:Hp}{kvs:List (List Key×V)}{xs:List (List Key×Addr×Value)}(r:KT H kvs xs)(k:List Key){b:Addr}{y:V}{u:Value}(hb:H b=some (.tup (k.map kV)))(ry:RelV y u) :
  KT H (Ch kvs k y) (storedH xs k b u):=by
 have e:(kvs.any fun kv=>decide (kv.1=k))=(atKey xs k).isSome:=by
  rw[Mu,(r.val k).isSome_eq,Option.isSome_map]
 unfold Ch storedH;rw[e]
 by_cases q:(atKey xs k).isSome=true
 ·rw[if_pos q,if_pos q];exact r.repl k ry
 ·rw[if_neg q,if_neg q];exact Paired.snoc r ⟨rfl,hb,ry⟩
theorem KT.keeps{H H':Hp}{kvs:List (List Key×V)}{xs:List (List Key×Addr×Value)}(r:KT H kvs xs)(ht:∀b ys,H b=some (.tup ys)→H' b=some (.tup ys)):KT H' kvs xs:=
 Paired.mapP r fun _ _ z=>⟨z.1,ht _ _ z.2.1,z.2.2⟩

section
variable{P:Program}{w:World}{H:Hp}{h:Heap}{a:Addr}
theorem Aa3{u:HO}(ok:HOk P w H h)(e:Rd H a u):ObjOk P w H h a u:=e.ok ok
theorem P4{kvs:List (Key×V)}(ok:HOk P w H h)(e:Rd H a (.dK kvs)):kvs.length≤sizeLine∧(a == sysModules)=false∧∃vs,KV kvs vs∧h.DictOf (Ap P w) a vs:=
 show ObjOk P w H h a (.dK kvs) from Aa3 ok e
theorem Ee{kvs:List (Key×V)}(ok:HOk P w H h)(e:H a=some (.dK kvs)):kvs.length≤sizeLine∧(a == sysModules)=false∧∃vs,KV kvs vs∧h.DictOf (Ap P w) a vs:=P4 ok (.inl e)
theorem Ox{ks:List Key}(ok:HOk P w H h)(e:H a=some (.tup (ks.map kV))):(tupleKind (Ap P w)).is h ks a:=by
 obtain⟨_,its,r,o,h1,h2,n,h3⟩:=(show ObjOk P w H h a (.tup (ks.map kV)) from ok a _ e);exact⟨o,its.toArray,n,h1,h2,h3,by simpa using Kf r⟩
theorem T6{kvs:List (List Key×V)}(ok:HOk P w H h)(e:Rd H a (.dT kvs)):kvs.length≤sizeLine∧(a == sysModules)=false∧
  ∃xs,KT H kvs xs∧h.DictOfH (tupleKind (Ap P w)) a xs:=by
 obtain⟨z,y,xs,r,o,es,ep,h1,h2,h3,h4,h5⟩:=(show ObjOk P w H h a (.dT kvs) from Aa3 ok e);refine⟨z,y,xs,r,o,es,ep,h1,h2,h3,h4,fun x hx=>?_,h5⟩;have all:∀{l:List (List Key×V)} {m:List (List Key×Addr×Value)},KT H l m→∀x∈m,(tupleKind (Ap P w)).is h x.1 x.2.1:=by
  intro l m q
  induction q with
  |nil=>intro x hx;exact nomatch hx
  |@cons p q ps qs hq t ih=>
   intro x hx;rcases List.mem_cons.mp hx with e|hx
   ·subst e;exact Ox ok (by rw[←hq.1];exact hq.2.1)
   ·exact ih x hx
 exact all r x hx
theorem dt_of{kvs:List (List Key×V)}(ok:HOk P w H h)(e:H a=some (.dT kvs)):kvs.length≤sizeLine∧(a == sysModules)=false∧
  ∃xs,KT H kvs xs∧h.DictOfH (tupleKind (Ap P w)) a xs:=T6 ok (.inl e)
end
def DGet(H:Hp)(a:Addr)(y:V)(r:Option V):Prop:=
 (∃kvs k,Rd H a (.dK kvs)∧y=kV k∧r=Cv kvs k)∨∃kvs k b,Rd H a (.dT kvs)∧y=.ref b∧H b=some (.tup (k.map kV))∧r=Cv kvs k
def DPut(H:Hp)(a:Addr)(y v:V)(H':Hp):Prop:=
 (∃kvs k,H a=some (.dK kvs)∧y=kV k∧kvs.length<sizeLine∧H'=upd H a (.dK (Ch kvs k v)))∨
 ∃kvs k b,H a=some (.dT kvs)∧y=.ref b∧H b=some (.tup (k.map kV))∧kvs.length<sizeLine∧H'=upd H a (.dT (Ch kvs k v))
theorem DGet.k{H:Hp}{a:Addr}{kvs:List (Key×V)}{k:Key}(e:H a=some (.dK kvs)):DGet H a (kV k) (Cv kvs k):=.inl ⟨kvs,k,.inl e,rfl,rfl⟩
theorem DGet.t{H:Hp}{a b:Addr}{kvs:List (List Key×V)}{k:List Key}(e:H a=some (.dT kvs))(eb:H b=some (.tup (k.map kV))):DGet H a (.ref b) (Cv kvs k):=.inr ⟨kvs,k,b,.inl e,rfl,eb,rfl⟩
theorem DPut.k{H:Hp}{a:Addr}{kvs:List (Key×V)}{k:Key}{v:V}(e:H a=some (.dK kvs))(hl:kvs.length<sizeLine):DPut H a (kV k) v (upd H a (.dK (Ch kvs k v))):=.inl ⟨kvs,k,e,rfl,hl,rfl⟩
theorem DPut.t{H:Hp}{a b:Addr}{kvs:List (List Key×V)}{k:List Key}{v:V}(e:H a=some (.dT kvs))(eb:H b=some (.tup (k.map kV)))(hl:kvs.length<sizeLine) :
  DPut H a (.ref b) v (upd H a (.dT (Ch kvs k v))):=.inr ⟨kvs,k,b,e,rfl,eb,hl,rfl⟩


section
variable{X:Cx}{pins:List (Addr×Obj)}{σ:St}{H:Hp}{s:Shared}{a:Addr}{y v:V}{u r:Value}{o:Option V}{A:Around}{E:Value→Shared→Prop}
theorem Inv.big(I:Inv X pins σ H s):sysModules<s.heap.objs.size:=by
 have h:mainGlobals<s.heap.objs.size:=(I.mod.glob.keeps I.bk).lt;exact Nat.lt_trans (by decide) h

theorem Gx{h':Heap}{t':Nat}{ob:HO}(I:Inv X pins σ H s)(mu:Mut (H a))(hs:Heap.SameBut a s.heap h')(he:∃q,h'.get? a=some q)(new:ObjOk X.prog X.w (upd H a ob) h' a ob) :
  Inv X pins σ (upd H a ob) { s with heap:=h',toks:=t' }:=
 I.write (x:=a) (e:=a) mu (.inl rfl) (fun b q hb z=>(hs.2 b hb).trans z) he new
theorem O0{P:Program}{w:World}{H':Hp}{h':Heap}{kvs:List (Key×V)}{vs:List (Key×Value)}(z:kvs.length≤sizeLine)(hd:(a == sysModules)=false)(rel:KV kvs vs)(dd:h'.DictOf (Ap P w) a vs) :
  ObjOk P w H' h' a (.dK kvs):=⟨z,hd,vs,rel,dd⟩
theorem Sl{H':Hp}{Q:Unit→Shared→Prop}(hu:A.units+1<cLine)(I:Inv X pins σ H s)(g:DPut H a y v H')(ry:RelV y u)(rv:RelV v r)(h:∀s',Inv X pins σ H' s'→Q () s') :
  wpAny (model X.prog X.w) A (setItem (.ref a) u r) Q E s:=by
 rcases g with ⟨kvs,k,e,ey,l,eH⟩|⟨kvs,k,b,e,ey,eb,l,eH⟩
 ·subst ey eH;obtain⟨z,hd,vs,rel,dd⟩:=Ee I.hok e;have hz:vs.length≤sizeLine:=by rw[←rel.length];exact z
  have hl:(Ch kvs k v).length≤sizeLine:=by have:=Cb kvs k v;omega
  refine wpAny_setItem_pairs (hsz:=hz) (Gd ry) dd fun h' dd' hs=>h _ ?_;have he:∃q,h'.get? a=some q:=let ⟨q,_,_,hq,_⟩:=dd';⟨q,hq⟩;exact Gx I (by rw[e];exact True.intro) hs he (O0 hl hd (rel.put k rv) dd')
 ·subst ey eH;cases(show u=Value.ref b from ry);obtain⟨z,hd,xs,rel,dd⟩:=dt_of I.hok e;have hz:xs.length≤sizeLine:=by rw[←Paired.length rel];exact z
  have hl:(Ch kvs k v).length≤sizeLine:=by have:=Cb kvs k v;omega
  refine wpAny_setItem_heap (hsz:=hz) (tupleKind_room_in1 hu) (Ox I.hok eb) dd fun h' dd' hs=>h _ ?_;obtain⟨q,es,ep,hq,h2,h3,h4,_,h5⟩:=dd';refine Gx I (by rw[e];exact True.intro) hs ⟨q,hq⟩ ⟨hl,hd,_,(rel.put k eb rv).keeps fun c ys ec=>?_,q,es,ep,hq,h2,h3,h4,h5⟩
  rw[Ae (Di ec e (fun z=>nomatch z))];exact ec
end
section
variable{X:Cx}{pins:List (Addr×Obj)}{σ:St}{H:Hp}{s:Shared}{a:Addr}{kvs:List (Key×V)}{k:Key}{u:Value}{A:Around}{E:Value→Shared→Prop}
end
def To(i:Expr):Prop:=∀ov iv,subscripted i false ov iv=operate [ov,iv] (getItem ov iv)
theorem P8{prog:Program}{w:World}{A:Around}{E:Value→Shared→Prop}{s:Shared}{env:Env}{value slice:Expr}{pos:Pos}{T id:String}{Q:Value→Shared→Prop}(hl:typeLookup (.type T) "__getitem__" = pure (some (.builtin id)))(hs:To slice)(h:wpAny (model prog w) A (eval value env) (fun o s₁=>wpAny (model prog w) A (eval slice env) (fun i s₂=>s₂.TypeIs o T∧wpAny (model prog w) A (getItem o i) Q E s₂) E s₁) E s) :
  wpAny (model prog w) A (eval (.Subscript value slice pos) env) Q E s:=by
 refine Subscript_ (wpAny_mono h (fun o s₁ h₁=>wpAny_mono h₁ (fun i s₂ h₂=>?_) fun _ _ x=>x) fun _ _ x=>x);obtain⟨hT,h₂⟩:=h₂;unfold subscriptTail;refine wpAny_bind ?_;rw[getitemInPython_of_ne hT.not_modules];refine wpAny_bind (wpAny_specialOf hT hl ?_);have fin:wpAny (model prog w) A (subscripted slice false o i) (fun r s₃=>wpAny (model prog w) A (letTemporaryGo value o r >>= fun _=>pure r) Q E s₃) E s₂:=by
  rw[hs o i];exact wpAny_operating (wpAny_mono h₂ (fun r s₃ h₃=>wpAny_bind (wpAny_letTemporaryGo (wpAny_pure h₃))) fun _ _ x=>x)
 first
  |exact wpAny_pure (wpAny_bind fin)
  |exact wpAny_bind (wpAny_pure (wpAny_bind fin))
  |exact wpAny_bind fin

section
variable{X:Cx}{o i e value:Expr}{pos pos' tpos:Pos}{td ty tv:TE}
end
theorem Ie{P:Program}{w:World}{H:Hp}(h:Heap)(hb:sysModules<h.objs.size):ObjOk P w H (h.push { cls:=.type "dict",data:=.dict #[] }) h.objs.size (.dK []):=
 ⟨Nat.zero_le _,beq_eq_false_iff_ne.mpr (Ne.symm (Nat.ne_of_lt hb)),[],.nil,Heap.DictOf.new h⟩
def Ab3:TE:=fun _ H Q=>∀p,H p=none→Q (.ref p) (upd H p (.dK []))
section
variable{X:Cx}{pos:Pos}
theorem pe_dnewK:PE X (.Dict [] [] pos) Ab3:=fun pins s σ H Q I h=>
 wpAny_Dict_empty ⟨.ref s.heap.objs.size,_,I.laid (a:=s.heap.objs.size) (o:=.dK []) (t':=s.toks) (fun _ _ q=>Heap.get?_push_of_some _ q) (Nat.le_refl _) (Ie s.heap I.big),rfl,h _ (I.hok.fresh (Nat.le_refl _))⟩
end
def El(kvs more:List (Key×V)):List (Key×V):=more.foldl (fun acc kv=>Ch acc kv.1 kv.2) kvs
theorem Eg:∀(more kvs:List (Key×V)),(El kvs more).length≤kvs.length+more.length
 |[],kvs=>by show kvs.length≤kvs.length+0;omega
 |p::r,kvs=>by
  have h1:=Eg r (Ch kvs p.1 p.2);have h2:=Cb kvs p.1 p.2;show(El (Ch kvs p.1 p.2) r).length≤_;rw[List.length_cons];omega
structure M2(X:Cx)(o:Expr)(m:Str)(apos:Pos)(e f:Expr)(cpos:Pos):Prop where
 base:attributeBase o m X.env (eval o X.env)=eval o X.env
 few:((backTo cpos (starEach [e,f] X.env)).all (fun x=>!x.1)&&(backToKw cpos (keywordEach [] X.env)).all (fun x=>x.1.isSome)
  && decide (([e,f]:List Expr).length+([]:List Keyword).length+(if ([]:List Keyword).isEmpty then 0 else 1)<30))=true
 line:(apos.endLine == cpos.line)=true
 trees:backTo cpos (starEach [e,f] X.env)=[(false,eval e X.env),(false,eval f X.env)]

def IsD(H:Hp)(a:Addr):Prop:=(∃kvs,Rd H a (.dK kvs))∨∃kvs,Rd H a (.dT kvs)
theorem Oy{X:Cx}{pins:List (Addr×Obj)}{σ:St}{H:Hp}{s:Shared}{a:Addr}(I:Inv X pins σ H s)(d:IsD H a) :
  s.TypeIs (.ref a) "dict"∧(∀b,Value.ref a=.ref b→∃ob,s.heap.get? b=some ob∧ob.dict=none)∧(a == sysModules)=false:=by
 rcases d with ⟨kvs,e⟩|⟨kvs,e⟩
 ·obtain⟨_,hd,vs,_,dd⟩:=P4 I.hok e;refine⟨dd.typeIs,fun b q=>?_,hd⟩;cases q;obtain⟨ob,_,_,h1,h2,_⟩:=dd;exact⟨ob,h1,h2.2.1⟩
 ·obtain⟨_,hd,xs,_,dd⟩:=T6 I.hok e;refine⟨dd.typeIs,fun b q=>?_,hd⟩;cases q;obtain⟨ob,_,_,h1,h2,_⟩:=dd;exact⟨ob,h1,h2.2.1⟩

section
variable{X:Cx}{pins:List (Addr×Obj)}{σ:St}{H:Hp}{s:Shared}{a:Addr}{y d:V}{u r:Value}{o:Option V}{A:Around}{E:Value→Shared→Prop}
theorem Aem{Q:Value→Shared→Prop}(hu:A.units+1<cLine)(I:Inv X pins σ H s)(g:DGet H a y o)(ry:RelV y u)(rd:RelV d r)(h:∀w' s',Inv X pins σ H s'→RelV (o.getD d) w'→Q w' s') :
  wpAny (model X.prog X.w) A (call (.builtin "dict.get") [.ref a,u,r]) Q E s:=by
 rcases g with ⟨kvs,k,e,ey,l⟩|⟨kvs,k,b,e,ey,eb,l⟩
 ·subst ey;obtain⟨z,hd,vs,rel,dd⟩:=P4 I.hok e;refine call_meetsIn PySem.F.slot_dict_get dd.typeIs PySem.F.entry_dict_get (PySem.F.args_dict_get_3 _ _ _) (meets_dict_get_default (Ap X.prog X.w) a (Gd ry) hd r) ⟨_,dd.mapOf,h _ _ (I.tok _) ?_⟩;rw[l];exact(rel.val k).getD rd
 ·subst ey;cases(show u=Value.ref b from ry);obtain⟨z,hd,xs,rel,dd⟩:=T6 I.hok e;refine call_meetsIn PySem.F.slot_dict_get dd.typeIs PySem.F.entry_dict_get (PySem.F.args_dict_get_3 _ _ _) (meetsH_dict_get_default (tupleKind (Ap X.prog X.w)) a b hd r) ⟨tupleKind_room_in1 hu,k,xs,Ox I.hok eb,dd,h _ _ (I.tok _) ?_⟩;rw[l];exact(rel.val k).getD rd
end
def Ab4(td ty tx:TE):TE:=fun σ H Q=>td σ H fun x H1=>∃a,x=.ref a∧IsD H1 a∧ty σ H1 fun y H2=>tx σ H2 fun z H3=>∃o,DGet H3 a y o∧Q (o.getD z) H3
section
variable{X:Cx}{o e f:Expr}{apos cpos:Pos}{td ty tx:TE}
theorem Wi(hu:X.A.units+1<cLine)(ho:PE X o td)(he:PE X e ty)(hf:PE X f tx)(m:M2 X o "get" apos e f cpos):PE X (.Call (.Attribute o "get" apos) [e,f] [] cpos) (Ab4 td ty tx):=by
 intro pins s σ H Q I h;refine wpAny_Call_method m.base m.few m.line PySem.F.plainAttrs_dict PySem.F.slot_dict_get PySem.F.type_dict_get (thn (ho pins s σ H _ I h) fun u s1 zz=>?_);obtain⟨x,H1,I1,rx,a,ex,d,q1⟩:=zz;subst ex;obtain rfl:u=Value.ref a:=rx;obtain⟨t1,t2,_⟩:=Oy I1 d;refine⟨t1,t2,?_⟩;rw[m.trees];refine Calls.callWith_builtin rfl (Calls.evalArgs_plain (Calls.spliced_cons (thn (he pins s1 σ H1 _ I1 q1) fun iv s2 ⟨y,H2,I2,ry,q2⟩=>
  Calls.spliced_cons (thn (hf pins s2 σ H2 _ I2 q2) fun fv s3 ⟨z,H3,I3,rz,ov,g,q3⟩=>Calls.spliced_nil ?_))))
 exact Aem hu I3 g ry rz fun w' s4 I4 rw'=>⟨_,H3,I4,rw',q3⟩
end
section
variable{X:Cx}{pins:List (Addr×Obj)}{σ:St}{H:Hp}{s:Shared}{a:Addr}{kvs:List (Key×V)}{A:Around}{E:Value→Shared→Prop}
end
section
variable{X:Cx}{pins:List (Addr×Obj)}{σ:St}{H:Hp}{s:Shared}{a:Addr}{y:V}{u:Value}{A:Around}{E:Value→Shared→Prop}
end
end L2
namespace Att
open PySem PySem.W PySem.Calls PyProof.Rows
theorem Gj{P:Params}{h:Heap}:∀(ns:List Int) (vs:List Value),WellAll P h vs (ns.map WData.int)→IntsAre vs ns:=by
 intro ns
 induction ns with
 |nil=>
  intro vs w;rw[List.map_nil] at w;cases w;exact .nil
 |cons n ns ih=>
  intro vs w;rw[List.map_cons] at w;cases w with
  |cons a b=>
   cases a;exact .cons _ _ (ih _ b)

theorem Rl{l:OpenLaw}{n:Nat}(hn:l.most=some n){P:Params}{h:Heap}{args:List WData}{vals:List Value}(hpre:l.row.toRowW.claim.pre args=true)(hwl:WellAll P h vals args) :
  ∃a vs ns,vals=[Value.ref a]∧args=[WData.list (ns.map WData.int)]∧h.get? a=some { cls:=.type "list",data:=.seq vs.toArray }∧IntsAre vs ns∧ns.length≤n:=by
 have hsh:WShape.hasAll [] args [.list .int]=true:=(pre_splitW hpre).1;have hc:l.pre.holds [] { args:=args }=true:=(pre_splitW hpre).2;obtain⟨d,r,rfl,h1,h2⟩:=hasAllW_cons hsh;obtain rfl:=hasAllW_nil h2;obtain⟨xs,rfl,h3⟩:=hasW_list h1;obtain⟨ns,rfl⟩:=items_int h3;have hlen:ns.length≤n:=by
  unfold OpenLaw.pre at hc;have h4:(WTm.not (.lt (.lit (.int (n:Int))) (.len (.arg 0)))).holds [] { args:=[.list (ns.map .int)] }=true:=by
   have h4:=(holds_andW hc).1;rw[hn] at h4;exact h4
  have h5:=condW_of h4 (w_not (w_lt w_lit (w_len_list (w_arg rfl))));rw[List.length_map] at h5;refine Nat.le_of_not_lt fun q=>?_;have q':(n:Int)<((ns.length:Nat):Int):=by omega
  first
   |(rw[decide_eq_true q'] at h5;exact absurd h5 (by decide))
   |(simp at h5;omega)
 cases hwl with
 |cons w1 w2=>
  cases w2;cases w1 with
  |list ho hall=>exact⟨_,_,ns,rfl,rfl,ho,Gj ns _ hall,hlen⟩

theorem Rt(l:OpenLaw)(args:List WData):l.row.toRowW.claim.post args (.bool true) args=true:=
 postW_of (r:=l.row.toRowW) (X:=(true == true))
  (show WShape.has [] (.bool true) .bool=true by first|rfl|decide|simp[WShape.has,WShape.arms,WShape.armsAll])
  (show(WTm.eq .res (.lit (.bool true))).value [] { args:=args,res:=some (.bool true),after:=args }=some (.bool (true == true)) from w_eq_bool (w_res rfl) w_lit) rfl

theorem attach_call{l:OpenLaw}{n:Nat}{q:Program}{loose:List Str}{XP:(Str→Option Value)→Heap→Prop}{YP:World→Heap→Prop}{d:DefRec}(hn:l.most=some n)(hdf:d.params.defaults=[])(call:∀(w:World) (s₀ s₁:Shared) (mg mb:Str→Option Value) (fa:Addr) (o:Obj) (pm cd doc:Value) (a:Addr) (vs:List Value) (ns:List Int),
   Ground q loose [] XP w s₀ mg mb s₁.heap→YP w s₁.heap→
   s₁.heap.get? fa=some o→o.data=.func (docDef d.name d.params d.body d.scope pm cd doc)→s₁.heap.CodeRec cd d.name→mg d.name=some (.ref fa)→
   s₁.heap.get? a=some { cls:=.type "list",data:=.seq vs.toArray }→IntsAre vs ns→ns.length≤n→s₁.gens=#[]→
   codeAny (model l.prog w) callerA (.call (.ref fa) ⟨[.ref a],[]⟩) (fun r s'=>r=.ok (.ret (.bool true))∧OldK s₁.heap s'.heap∧s'.os=s₁.os∧AllBare s'.gens) s₁) :
  WalkO q loose XP YP l.row.toRowW d [] (fun f vs=>PySem.call f vs):=by
 intro w s₀ s₁ mg mb G Y fa o pm cd doc dV kV ho hd hcd hD hmg hg args vals as hpre hlay hrd hwl hlo;obtain rfl:dV=.none:=Dflts.none hD hdf;obtain rfl:kV=.none:=Dflts.noKw hD;obtain⟨a,vs,ns,rfl,rfl,hobj,hints,hlen⟩:=Rl hn hpre hwl;refine enter_call (codeAny_mono (call w s₀ s₁ mg mb fa o pm cd doc a vs ns G Y ho (fd_plain hd) hcd hmg hobj hints hlen hg) fun r s' hq=>?_);obtain⟨rfl,h2,h3,h4⟩:=hq;exact⟨.inl ⟨.bool true,.bool true,[],rfl,fun _=>rfl,.bool true,Rt l _,fun _=>⟨List.Pairwise.nil,fun _ hm=>(nomatch hm)⟩⟩,h2,h3,h4⟩

section
variable{prog:Program}{w:World}{A:Around}{E:Value→Shared→Prop}{s:Shared}{K:Frag}
end
end Att
namespace L2
open PySem PySem.Spec PyProof.Rows
theorem vals_ints:∀{vs:List Value} {ns:List Int},IntsAre vs ns→Vals (ns.map V.int) vs
 |_,_,.nil=>.nil
 |_,_,.cons n t h=>.cons ⟨t,rfl⟩ (vals_ints h)

end L2
namespace L2
open PySem PySem.Spec PyProof.Rows
abbrev KOf{K:W.Frag}{h:Heap}(_:K.In h):W.Frag:=K

end L2
namespace L2
open PySem PySem.Spec PyProof.Rows
def D8(s:Stmt):Arguments:=match s with
 |.FunctionDef _ a _ _ _ _ _ _ _ _=>a
 |_=>{ posonlyargs:=[],args:=[],vararg:=none,kwonlyargs:=[],kw_defaults:=[],kwarg:=none,defaults:=[] }
def Bv(s:Stmt):List Stmt:=match s with
 |.FunctionDef _ _ b _ _ _ _ _ _ _=>b
 |_=>[]
def Ad(s:Stmt):Scope:=match s with
 |.FunctionDef _ _ _ _ _ _ sc _ _ _=>sc
 |_=>{ kind:=.function,names:=[],isGenerator:=false,isCoroutine:=false }

abbrev CX0:CXT:=fun _ _ _ _ _ _=>False
abbrev E0:XK:=fun _ _ _=>False
structure Fun(K:W.Frag)(x qual:Str)(st:Stmt)(f:Addr)(fd:FuncData):Prop where
 ex:∃(oc:Value) (od:Option Addr) (kV doc pm:Value) (an:Option Addr) (cdv ct:Value) (osl:Array (Option Value)),
  fd=W.fnOf x qual (D8 st) (Bv st) (Ad st) .none kV doc pm an cdv ct∧K.lookup f=some ⟨oc,od,.func fd,osl⟩∧W.codeIn K cdv qual=true
 kp:W.keepIn K (.ref f)=true
section
variable{P:Program}{w:World}{K:W.Frag}{mg:Str→Option Value}{base:Heap}
theorem Fun.ok{x qual:Str}{st:Stmt}{f:Addr}{fd:FuncData}{N ps:List Str}{k:Nat}{sp:Sp}(F:Fun K x qual st f fd)(S:FnScope N ps (Ad st))(len:∀vs H Q E,sp vs H Q E→vs.length=ps.length)(hbody:∀(cdv:Value) (A:Around) (outer:List Env) (s:Shared) (H:Hp) (vs:List V) (Q:VK) (E:XK),Room k (A.deeper (envOfC qual (Ad st) s.heap.objs.size f cdv))→sp vs H Q E→
   ∃t,PSs (C6 CX0 P w K mg base N qual (Ad st) f cdv A outer s H E).nox (Bv st) t∧t { nx:=fun _ H'=>Q .non H',rt:=Q } (start N vs) H):FnOk P w K mg base CX0 (k+1) f fd ps sp:=by
 obtain⟨oc,od,kV,doc,pm,an,cdv,ct,osl,rfl,lk,hcd⟩:=F.ex;refine T5 lk hcd S len fun A outer s H vs Q E hr hsp=>?_;obtain⟨t,h,q⟩:=hbody cdv A outer s H vs Q E hr hsp;exact⟨t,h.nox,q⟩
theorem Fun.binds{x qual:Str}{st:Stmt}{f:Addr}{fd:FuncData}{ps:List Str}(F:Fun K x qual st f fd)(h:∀(kV doc pm:Value) (an:Option Addr) (cdv ct:Value) (us:List Value),us.length=ps.length→bindArgs (W.fnOf x qual (D8 st) (Bv st) (Ad st) .none kV doc pm an cdv ct) ⟨us,[]⟩=pure (ps.zip us)):Binds K fd ps []:=by
 obtain⟨oc,od,kV,doc,pm,an,cdv,ct,osl,rfl,lk,hcd⟩:=F.ex;exact .all (h kV doc pm an cdv ct)
theorem U6{x qual:Str}{st:Stmt}{f:Addr}{oc:Value}{od an:Option Addr}{osl:Array (Option Value)}{kV doc pm cdv ct:Value}(l:K.lookup f=some ⟨oc,od,.func (W.fnOf x qual (D8 st) (Bv st) (Ad st) .none kV doc pm an cdv ct),osl⟩)(c:W.codeIn K cdv qual=true)(k:W.keepIn K (.ref f)=true):Fun K x qual st f (W.fnOf x qual (D8 st) (Bv st) (Ad st) .none kV doc pm an cdv ct):=⟨⟨oc,od,kV,doc,pm,an,cdv,ct,osl,rfl,l,c⟩,k⟩
end
theorem Bo{n:Nat}(h:n≤1000):n<sizeLine:=Nat.lt_of_le_of_lt h (by decide)

section
variable{X:Cx}
theorem pv(i:Nat){x:Str}{pos:Pos}(hN:X.N[i]? = some x:=by rfl)(hv:Vis X.env.scope x:=by first|exact Or.inl rfl|exact Or.inr (Or.inl rfl)|exact Or.inr (Or.inr rfl))(hd:(x == ("__debug__" : Str))=false:=by decide)(hcd:(x == ("__classdict__" : Str))=false:=by decide):PE X (.Name x pos) (tVar i):=K5 hN hv hd hcd
end
def Same(H H':Hp):Prop:=∀b o,H b=some o→H' b=some o
theorem Same.trans{H H1 H2:Hp}(a:Same H H1)(b:Same H1 H2):Same H H2:=fun c o h=>b c o (a c o h)
theorem Same.free{H H':Hp}(e:Same H H'){l:Addr}(h:H' l=Option.none):H l=Option.none:=by
 cases q:H l with
 |none=>rfl
 |some o=>
  rw[e l o q] at h;cases h
section
variable{X:Cx}
end
section
variable{κ:Type}[DecidableEq κ]
end
end L2
namespace D3
open PySem PySem.Spec
open PyProof.Rows hiding St
open L2 hiding St
inductive D where
 |non|bl (b:Bool)|int (i:Int)|str (x:Str)|tup (ds:List D)|ref (a:Addr)|ty (n:String)|lint (ns:List Int)
 deriving Inhabited

def RdI(K:W.Frag)(H:Hp)(a:Addr)(xs:List V):Prop:=(∃o,H a=some (.frz o (.lst xs)))∨
 ∃(o:Obj) (its:Array Value) (n:Nat),K.lookup a=some o∧o.cls=.type "list"∧o.dict=none∧o.data=.seq its n∧its.size≤sizeLine∧Vals xs its.toList
theorem RdI.sq{K:W.Frag}{H:Hp}{a:Addr}{xs:List V}(h:RdI K H a xs):SqL K H a xs:=h.elim (fun⟨o,e⟩=>.inl (.inr ⟨o,e⟩)) .inr
mutual
inductive DV (K:W.Frag) (H:Hp):D→V→Prop where
 |non:DV K H .non .non
 |bl (b:Bool):DV K H (.bl b) (.bl b)
 |int (i:Int):DV K H (.int i) (.int i)
 |str (x:Str):DV K H (.str x) (.str x)
 |ref (a:Addr):DV K H (.ref a) (.ref a)
 |ty (n:String):DV K H (.ty n) (.ty n)
 |lint {ns:List Int} {a:Addr} (e:RdI K H a (ns.map V.int)):DV K H (.lint ns) (.ref a)
 |tup {ds:List D} {a:Addr} {xs:List V} (e:H a=some (.tup xs)) (r:DVs K H ds xs):DV K H (.tup ds) (.ref a)
inductive DVs (K:W.Frag) (H:Hp):List D→List V→Prop where
 |nil:DVs K H [] []
 |cons {d:D} {v:V} {ds:List D} {vs:List V} (h:DV K H d v) (t:DVs K H ds vs):DVs K H (d::ds) (v::vs)
end
structure Ext(H H':Hp):Prop where
 tup:∀b xs,H b=some (.tup xs)→H' b=some (.tup xs)
 frz:∀b o u,H b=some (.frz o u)→H' b=some (.frz o u)
theorem Ext.refl(H:Hp):Ext H H:=⟨fun _ _ h=>h,fun _ _ _ h=>h⟩
theorem Ext.trans{H H1 H2:Hp}(a:Ext H H1)(b:Ext H1 H2):Ext H H2:=⟨fun c xs h=>b.tup c xs (a.tup c xs h),fun c o u h=>b.frz c o u (a.frz c o u h)⟩
theorem Ext.fresh{H:Hp}{p:Addr}{o:HO}(h:H p=none):Ext H (upd H p o):=⟨fun b xs e=>by
 rw[Ae (Aj e h)];exact e,fun b ob u e=>by rw[Ae (Aj e h)];exact e⟩
theorem Ext.write{H:Hp}{p:Addr}{o u:HO}(h:H p=some u)(n:∀xs,u≠.tup xs)(m:∀ob w,u≠.frz ob w):Ext H (upd H p o):=⟨fun b xs e=>by
 rw[Ae (Di e h fun z=>n xs z.symm)];exact e,fun b ob w e=>by rw[Ae (Di e h fun z=>m ob w z.symm)];exact e⟩
theorem RdI.ext{K:W.Frag}{H H':Hp}{a:Addr}{xs:List V}(h:RdI K H a xs)(x:Ext H H'):RdI K H' a xs:=h.elim (fun⟨o,e⟩=>.inl ⟨o,x.frz _ _ _ e⟩) .inr
section
variable{K:W.Frag}
mutual
theorem DV.ext{H H':Hp}(x:Ext H H'):∀{d:D} {v:V},DV K H d v→DV K H' d v
 |_,_,.non=>.non
 |_,_,.bl b=>.bl b
 |_,_,.int i=>.int i
 |_,_,.str s=>.str s
 |_,_,.ref a=>.ref a
 |_,_,.ty n=>.ty n
 |_,_,.lint e=>.lint (e.ext x)
 |_,_,.tup e r=>.tup (x.tup _ _ e) (DVs.ext x r)
theorem DVs.ext{H H':Hp}(x:Ext H H'):∀{ds:List D} {vs:List V},DVs K H ds vs→DVs K H' ds vs
 |_,_,.nil=>.nil
 |_,_,.cons h t=>.cons (DV.ext x h) (DVs.ext x t)
end
theorem DVs.length{H:Hp}:∀{ds:List D} {vs:List V},DVs K H ds vs→ds.length=vs.length
 |_,_,.nil=>rfl
 |_,_,.cons _ t=>congrArg (· + 1) t.length
theorem DVs.get{H:Hp}:∀{ds:List D} {vs:List V} {i:Nat} {d:D},DVs K H ds vs→ds[i]? = some d→∃v,vs[i]? = some v∧DV K H d v
 |_,_,_,_,.nil,e=>by simp at e
 |_,_,0,_,.cons h _,e=>by simp at e;subst e;exact⟨_,rfl,h⟩
 |_,_,i+1,d,.cons _ t,e=>by
  obtain⟨v,h1,h2⟩:=DVs.get (i:=i) (d:=d) t (by simpa using e)
  exact⟨v,by simpa using h1,h2⟩
theorem DVs.get'{H:Hp}:∀{ds:List D} {vs:List V} {i:Nat} {v:V},DVs K H ds vs→vs[i]? = some v→∃d,ds[i]? = some d∧DV K H d v
 |_,_,_,_,.nil,e=>by simp at e
 |_,_,0,_,.cons h _,e=>by simp at e;subst e;exact⟨_,rfl,h⟩
 |_,_,i+1,d,.cons _ t,e=>by
  obtain⟨v,h1,h2⟩:=DVs.get' (i:=i) (v:=d) t (by simpa using e)
  exact⟨v,by simpa using h1,h2⟩
theorem DVs.append{H:Hp}:∀{ds es:List D} {vs ws:List V},DVs K H ds vs→DVs K H es ws→DVs K H (ds++es) (vs++ws)
 |_,_,_,_,.nil,s=>s
 |_,_,_,_,.cons h t,s=>.cons h (t.append s)
theorem DVs.set{H:Hp}{d:D}{v:V}(r:DV K H d v):∀{ds:List D} {vs:List V} (i:Nat),DVs K H ds vs→DVs K H (ds.set i d) (vs.set i v)
 |_,_,_,.nil=>.nil
 |_,_,0,.cons _ t=>.cons r t
 |_,_,i+1,.cons h t=>.cons h (DVs.set r i t)
theorem DVs.take{H:Hp}:∀{ds:List D} {vs:List V} (n:Nat),DVs K H ds vs→DVs K H (ds.take n) (vs.take n)
 |_,_,0,_=>.nil
 |_,_,_+1,.nil=>.nil
 |_,_,n+1,.cons h t=>.cons h (t.take n)
theorem DVs.drop{H:Hp}:∀{ds:List D} {vs:List V} (n:Nat),DVs K H ds vs→DVs K H (ds.drop n) (vs.drop n)
 |_,_,0,r=>r
 |_,_,_+1,.nil=>.nil
 |_,_,n+1,.cons _ t=>t.drop n
theorem DVs.ints{H:Hp}:∀{ns:List Int},DVs K H (ns.map D.int) (ns.map V.int)
 |[]=>.nil
 |_::_=>.cons (.int _) DVs.ints
theorem DVs.one{H:Hp}{d:D}{vs:List V}(r:DVs K H [d] vs):∃v,vs=[v]∧DV K H d v:=by
 cases r with|cons h t=>cases t;exact⟨_,rfl,h⟩
theorem DVs.two{H:Hp}{d e:D}{vs:List V}(r:DVs K H [d,e] vs):∃v w,vs=[v,w]∧DV K H d v∧DV K H e w:=by
 cases r with|cons h t=>cases t with|cons h' t'=>cases t';exact⟨_,_,rfl,h,h'⟩

end
def kD:Key→D
 |.inl i=>.int i
 |.inr x=>.str x

inductive GO where
 |lst (ds:List D)
 |dct (kvs:List (List Key×D))
 |dkk (kvs:List (Key×D))
 /-- an instance of the class at C,its attributes -/
 |ins (C:Addr) (fs:List (Str×D))
 /-- the codes that were made within a def;q: how they are called -/
 |tbl (q:Str)
 /-- a thing that never changes,of which ok holds (a function,an exception) -/
 |any (ok:Hp→Addr→Prop)
abbrev Gp:=Addr→Option GO
def Ab(G:Gp)(a:Addr)(o:GO):Gp:=fun b=>if b=a then some o else G b
theorem Aa{G:Gp}{a:Addr}{o:GO}:Ab G a o a=some o:=if_pos rfl
theorem Ag{G:Gp}{a b:Addr}{o:GO}(h:b≠a):Ab G a o b=G b:=if_neg h
theorem B9{G:Gp}{a:Addr}{o u:GO}:Ab (Ab G a o) a u=Ab G a u:=by
 funext b;unfold Ab;split<;>rfl
theorem Rf{G:Gp}{a b:Addr}{o u:GO}(h:a≠b):Ab (Ab G a o) b u=Ab (Ab G b u) a o:=by
 funext c;unfold Ab
 by_cases h1:c=b
 ·by_cases h2:c=a
  ·exact absurd (h2.symm.trans h1) h
  ·simp[h1,Ne.symm h]
 ·by_cases h2:c=a<;>simp[h1,h2,h]
theorem gne{G:Gp}{a b:Addr}{o:GO}(h:G a=some o)(h':G b=none):a≠b:=by
 intro e;subst e;rw[h] at h';cases h'

def CodeIs(o:Obj)(q:Str):Prop:=∃vs t,o.data=.fields vs∧vs[1]? = some (.str q t)
def GOk(K:W.Frag)(H:Hp)(a:Addr):GO→Prop
 |.lst ds=>∃xs,H a=some (.lst xs)∧DVs K H ds xs
 |.dct kvs=>∃ks,H a=some (.dT ks)∧Paired (fun(p:List Key×D) (q:List Key×V)=>p.1=q.1∧DV K H p.2 q.2) kvs ks
 |.dkk kvs=>∃ks,H a=some (.dK ks)∧Paired (fun(p:Key×D) (q:Key×V)=>p.1=q.1∧DV K H p.2 q.2) kvs ks
 |.ins C fs=>∃dx ks,H a=some (.ins C dx ks)∧Paired (fun(p:Str×D) (q:Str×V)=>p.1=q.1∧DV K H p.2 q.2) fs ks
 |.tbl q=>∃ps,H a=some (.tbl ps)∧TriplesOk ps.toList∧∀pos cv,codeAmong pos ps.toList=some cv→∃c o u,cv=.ref c∧H c=some (.frz o u)∧CodeIs o q
 |.any ok=>(∃o u,H a=some (.frz o u))∧∀H',Ext H H'→ok H' a
def RelG(K:W.Frag)(H:Hp)(G:Gp):Prop:=∀a o,G a=some o→GOk K H a o

theorem GOk.upd{K:W.Frag}{H:Hp}{a p:Addr}{o:GO}{u:HO}(h:GOk K H a o)(x:Ext H (L2.upd H p u))(n:H p=none∨a≠p):GOk K (L2.upd H p u) a o:=by
 have ne:∀u,H a=some u→a≠p:=fun u e=>n.elim (fun z=>Aj e z) id;cases o with
 |lst ds=>obtain⟨xs,e,r⟩:=h;exact⟨xs,by rw[Ae (ne _ e)];exact e,r.ext x⟩
 |dct kvs=>obtain⟨ks,e,r⟩:=h;exact⟨ks,by rw[Ae (ne _ e)];exact e,L2.Paired.mapP r fun _ _ z=>⟨z.1,z.2.ext x⟩⟩
 |dkk kvs=>obtain⟨ks,e,r⟩:=h;exact⟨ks,by rw[Ae (ne _ e)];exact e,L2.Paired.mapP r fun _ _ z=>⟨z.1,z.2.ext x⟩⟩
 |ins C fs=>obtain⟨dx,ks,e,r⟩:=h;exact⟨dx,ks,by rw[Ae (ne _ e)];exact e,L2.Paired.mapP r fun _ _ z=>⟨z.1,z.2.ext x⟩⟩
 |tbl q=>obtain⟨ps,e,t,r⟩:=h;exact⟨ps,by rw[Ae (ne _ e)];exact e,t,fun pos cv h1=>let ⟨c,o,u,a1,a2,a3⟩:=r pos cv h1;⟨c,o,u,a1,x.frz _ _ _ a2,a3⟩⟩
 |any ok=>obtain⟨⟨o,u,e⟩,r⟩:=h;exact⟨⟨o,u,x.frz _ _ _ e⟩,fun H' y=>r H' (x.trans y)⟩
theorem RelG.free{K:W.Frag}{H:Hp}{G:Gp}(r:RelG K H G){p:Addr}(h:H p=none):G p=none:=by
 cases q:G p with
 |none=>rfl
 |some o=>
  have z:=r p o q;cases o with
  |lst ds=>obtain⟨_,e,_⟩:=z;rw[h] at e;cases e
  |dct ds=>obtain⟨_,e,_⟩:=z;rw[h] at e;cases e
  |dkk ds=>obtain⟨_,e,_⟩:=z;rw[h] at e;cases e
  |ins C fs=>obtain⟨_,_,e,_⟩:=z;rw[h] at e;cases e
  |tbl q=>obtain⟨_,e,_⟩:=z;rw[h] at e;cases e
  |any ok=>obtain⟨⟨_,_,e⟩,_⟩:=z;rw[h] at e;cases e
theorem RelG.tup{K:W.Frag}{H:Hp}{G:Gp}(r:RelG K H G){p:Addr}{u:HO}(h:H p=none):RelG K (upd H p u) G:=fun a o e=>(r a o e).upd (Ext.fresh h) (.inl h)
theorem RelG.ext'{K:W.Frag}{H:Hp}{G G':Gp}(r:RelG K H G)(s:∀a o,G' a=some o→G a=some o):RelG K H G':=fun a o e=>r a o (s a o e)

abbrev DSt:=List (Option D)
abbrev St:=L2.St
def RelS(K:W.Frag)(H:Hp)(σD:DSt)(σ:St):Prop:=σD.length=σ.length∧∀(i:Nat) d,σD[i]? = some (some d)→∃v,σ[i]? = some (some v)∧DV K H d v
theorem RelS.ext{K:W.Frag}{H H':Hp}{σD:DSt}{σ:St}(r:RelS K H σD σ)(x:Ext H H'):RelS K H' σD σ:=⟨r.1,fun i d e=>let ⟨v,h1,h2⟩:=r.2 i d e;⟨v,h1,h2.ext x⟩⟩
theorem RelS.set{K:W.Frag}{H:Hp}{σD:DSt}{σ:St}(r:RelS K H σD σ){d:D}{v:V}(h:DV K H d v)(i:Nat):RelS K H (σD.set i (some d)) (σ.set i (some v)):=by
 refine⟨by rw[List.length_set,List.length_set];exact r.1,fun j e q=>?_⟩
 by_cases hj:i=j
 ·subst hj;rw[List.getElem?_set] at q ⊢;rw[if_pos rfl] at q ⊢;have hl:=r.1
  split at q
  ·rename_i hi;cases q;exact⟨v,by rw[if_pos (by omega)],h⟩
  ·cases q
 ·rw[List.getElem?_set_ne hj] at q ⊢;exact r.2 j e q

abbrev DK:=D→Gp→Prop
abbrev DTE:=DSt→Gp→DK→Prop
abbrev DTT:=DSt→Gp→(Bool→Gp→Prop)→Prop
abbrev DTA:=DSt→Gp→(List D→Gp→Prop)→Prop
structure DEnds where
 nx:DSt→Gp→Prop
 rt:DK
 bk:DSt→Gp→Prop:=fun _ _=>False
 ct:DSt→Gp→Prop:=fun _ _=>False
abbrev DTS:=DEnds→DSt→Gp→Prop

def Fwd(K:W.Frag)(H:Hp)(G':Gp)(Q:Hp→Prop):Prop:=∀H',Ext H H'→RelG K H' G'→Q H'
theorem Fwd.go{K:W.Frag}{H H1:Hp}{G':Gp}{Q:Hp→Prop}(f:Fwd K H G' Q)(x:Ext H H1):Fwd K H1 G' Q:=fun H' y r=>f H' (x.trans y) r

def Ba(K:W.Frag)(t:DTE):TE:=fun σ H Q=>∃σD G Q',RelS K H σD σ∧RelG K H G∧t σD G Q'∧∀d G',Q' d G'→Fwd K H G' fun H'=>∀v,DV K H' d v→Q v H'
def Cw(K:W.Frag)(t:DTT):TT:=fun σ H Q=>∃σD G Q',RelS K H σD σ∧RelG K H G∧t σD G Q'∧∀b G',Q' b G'→Fwd K H G' fun H'=>Q b H'
def T2(K:W.Frag)(t:DTA):TA:=fun σ H Q=>∃σD G Q',RelS K H σD σ∧RelG K H G∧t σD G Q'∧∀ds G',Q' ds G'→Fwd K H G' fun H'=>∀vs,DVs K H' ds vs→Q vs H'
structure DEnds.Reach(K:W.Frag)(H:Hp)(D:DEnds)(E:Ends):Prop where
 nx:∀σD G',D.nx σD G'→Fwd K H G' fun H'=>∀σ,RelS K H' σD σ→E.nx σ H'
 rt:∀d G',D.rt d G'→Fwd K H G' fun H'=>∀v,DV K H' d v→E.rt v H'
 bk:∀σD G',D.bk σD G'→Fwd K H G' fun H'=>∀σ,RelS K H' σD σ→E.bk σ H'
 ct:∀σD G',D.ct σD G'→Fwd K H G' fun H'=>∀σ,RelS K H' σD σ→E.ct σ H'
theorem DEnds.Reach.go{K:W.Frag}{H H1:Hp}{D:DEnds}{E:Ends}(r:D.Reach K H E)(x:Ext H H1):D.Reach K H1 E:=
 ⟨fun σ G h=>(r.nx σ G h).go x,fun d G h=>(r.rt d G h).go x,fun σ G h=>(r.bk σ G h).go x,fun σ G h=>(r.ct σ G h).go x⟩
def Dn(K:W.Frag)(t:DTS):TS:=fun E σ H=>∃σD G D,RelS K H σD σ∧RelG K H G∧t D σD G∧D.Reach K H E

def QE(X:Cx)(e:Expr)(t:DTE):Prop:=PE X e (Ba X.K t)
def QT(X:Cx)(e:Expr)(t:DTT):Prop:=PT X e (Cw X.K t)
def QW(X:Cx)(e:Expr)(t:DTT):Prop:=PW X e (Cw X.K t)
def QA(X:Cx)(es:List Expr)(t:DTA):Prop:=PA X es (T2 X.K t)
def QS(X:Cx)(s:Stmt)(t:DTS):Prop:=PS X s (Dn X.K t)
def QSs(X:Cx)(s:List Stmt)(t:DTS):Prop:=PSs X s (Dn X.K t)

theorem _root_.L2.PE.imp{X:Cx}{e:Expr}{t t':TE}(h:PE X e t)(f:∀σ H Q,t' σ H Q→t σ H Q):PE X e t':=fun pins s σ H Q I q=>h pins s σ H Q I (f σ H Q q)
theorem _root_.L2.PT.imp{X:Cx}{e:Expr}{t t':TT}(h:PT X e t)(f:∀σ H Q,t' σ H Q→t σ H Q):PT X e t':=fun pins s σ H Q I q=>h pins s σ H Q I (f σ H Q q)
theorem _root_.L2.PW.imp{X:Cx}{e:Expr}{t t':TT}(h:PW X e t)(f:∀σ H Q,t' σ H Q→t σ H Q):PW X e t':=fun w pins s σ H Q I q=>h w pins s σ H Q I (f σ H Q q)
theorem _root_.L2.PA.imp{X:Cx}{e:List Expr}{t t':TA}(h:PA X e t)(f:∀σ H Q,t' σ H Q→t σ H Q):PA X e t':=fun p pins s σ H Q I q=>h p pins s σ H Q I (f σ H Q q)
theorem _root_.L2.PS.imp{X:Cx}{e:Stmt}{t t':TS}(h:PS X e t)(f:∀D σ H,t' D σ H→t D σ H):PS X e t':=fun pins s σ H D I q=>h pins s σ H D I (f D σ H q)
theorem _root_.L2.PSs.imp{X:Cx}{e:List Stmt}{t t':TS}(h:PSs X e t)(f:∀D σ H,t' D σ H→t D σ H):PSs X e t':=fun pins s σ H D I q=>h pins s σ H D I (f D σ H q)

section
variable{X:Cx}{a b c e:Expr}{ta tb tc te:DTE}{pos:Pos}
def Rb(i:Nat):DTE:=fun σ G Q=>∃d,σ[i]? = some (some d)∧Q d G
def nC(d:D):DTE:=fun _ G Q=>Q d G
theorem Tt{i:Nat}{x:Str}(hN:X.N[i]? = some x:=by rfl)(hv:Vis X.env.scope x:=by first|exact Or.inl rfl|exact Or.inr (Or.inl rfl)|exact Or.inr (Or.inr rfl))(hd:(x == ("__debug__" : Str))=false:=by decide)(hcd:(x == ("__classdict__" : Str))=false:=by decide):QE X (.Name x pos) (Rb i):=(K5 hN hv hd hcd).imp fun σ H Q zz=>by
 obtain⟨σD,G,Q',rs,rg,⟨d,e,q⟩,cl⟩:=zz;obtain⟨v,e1,r⟩:=rs.2 i d e;exact⟨v,e1,cl d G q H (Ext.refl H) rg v r⟩
theorem Ha{v:V}{d:D}(h:PE X e (tC v))(r:∀H,DV X.K H d v):QE X e (nC d):=h.imp fun σ H Q ⟨σD,G,Q',rs,rg,q,cl⟩=>cl d G q H (Ext.refl H) rg v (r H)
theorem Aw{i j pos}:QE X (.Constant (.int i) j pos) (nC (.int i)):=Ha Adi fun _=>.int i
theorem q_bl{b j pos}:QE X (.Constant (.bool b) j pos) (nC (.bl b)):=Ha pe_bl fun _=>.bl b
theorem Mn{j pos}:QE X (.Constant .none j pos) (nC .non):=Ha Um fun _=>.non
theorem B8{x j pos}:QE X (.Constant (.str x) j pos) (nC (.str x)):=Ha Ade fun _=>.str x
theorem Acv{x:Str}{i:Int}{t:Tok}(hm:X.mg x=some (.int i t))(hg:Gl X x:=by rfl)(hd:(x == ("__debug__" : Str))=false:=by decide):QE X (.Name x pos) (nC (.int i)):=Ha (v:=.int i) (Qi hg hm ⟨t,rfl⟩ hd) fun _=>.int i
theorem V2{x:Str}{n:String}(hm:X.mg x=none)(hv:bootBuiltins x=some (.type n))(hg:Gl X x:=by rfl)(hn:x≠"__name__":=by decide)(hd:(x == ("__debug__" : Str))=false:=by decide):QE X (.Name x pos) (nC (.ty n)):=
 Ha (v:=.ty n) (Zn hg hm hv rfl hn hd) fun _=>.ty n

abbrev DR2:=D→D→Gp→DK→Prop
def Jv(K:W.Frag)(r:DR2):R2:=fun x y H Q=>∃dx dy G Q',DV K H dx x∧DV K H dy y∧RelG K H G∧r dx dy G Q'∧∀d G',Q' d G'→Fwd K H G' fun H'=>∀v,DV K H' d v→Q v H'
def QOp(X:Cx)(f:Value→Value→Sem Value)(r:DR2):Prop:=OpR X f (Jv X.K r)
theorem _root_.L2.OpR.imp{f:Value→Value→Sem Value}{r r':R2}(h:OpR X f r)(g:∀x y H Q,r' x y H Q→r x y H Q):OpR X f r':=fun pins s σ H x y v u Q I rx ry q=>h pins s σ H x y v u Q I rx ry (g x y H Q q)
def nOp(r:DR2)(ta tb:DTE):DTE:=fun σ G Q=>ta σ G fun x G1=>tb σ G1 fun y G2=>r x y G2 Q
theorem Gu{K:W.Frag}{r:DR2}{σ:St}{H:Hp}{Q:VK}(h:Ba K (nOp r ta tb) σ H Q):tOp (Jv K r) (Ba K ta) (Ba K tb) σ H Q:=by
 obtain⟨σD,G,Q',rs,rg,h,cl⟩:=h;refine⟨σD,G,_,rs,rg,h,fun x G1 h1 H1 x1 rg1 v1 d1=>?_⟩;refine⟨σD,G1,_,rs.ext x1,rg1,h1,fun y G2 h2 H2 x2 rg2 v2 d2=>?_⟩;exact⟨x,y,G2,Q',d1.ext x2,d2,rg2,h2,fun d G' q=>(cl d G' q).go (x1.trans x2)⟩
theorem Kr{op:Operator}{r:DR2}(ho:QOp X (binaryOp op) r)(ha:QE X a ta)(hb:QE X b tb):QE X (.BinOp a op b pos) (nOp r ta tb):=(pe_op ho ha hb).imp fun _ _ _ h=>Gu h
def dI(C:Int→Int→Prop)(g:Int→Int→D):DR2:=fun x y G Q=>∃i,x=.int i∧∃j,y=.int j∧C i j∧Q (g i j) G
def dI0(g:Int→Int→D):DR2:=fun x y G Q=>∃i,x=.int i∧∃j,y=.int j∧Q (g i j) G
theorem Tu{f:Value→Value→Sem Value}{C:Int→Int→Prop}{g:Int→Int→V}{g':Int→Int→D}(h:OpR X f (rI C g))(e:∀H i j,DV X.K H (g' i j) (g i j)):QOp X f (dI C g'):=L2.OpR.imp h fun x y H Q zz=>by
 obtain⟨dx,dy,G,Q',hx,hy,rg,⟨i,ei,j,ej,c,q⟩,cl⟩:=zz;subst ei ej;cases hx;cases hy;exact⟨i,j,rfl,rfl,c,cl _ G q H (Ext.refl H) rg _ (e H i j)⟩
theorem He{f:Value→Value→Sem Value}{g:Int→Int→V}{g':Int→Int→D}(h:OpR X f (rI0 g))(e:∀H i j,DV X.K H (g' i j) (g i j)):QOp X f (dI0 g'):=L2.OpR.imp h fun x y H Q zz=>by
 obtain⟨dx,dy,G,Q',hx,hy,rg,⟨i,ei,j,ej,q⟩,cl⟩:=zz;subst ei ej;cases hx;cases hy;exact⟨i,j,rfl,rfl,cl _ G q H (Ext.refl H) rg _ (e H i j)⟩
theorem o_sub:QOp X (binaryOp .Sub) (dI0 fun i j=>.int (i-j)):=He Adm fun _ _ _=>.int _
theorem o_mul:QOp X (binaryOp .Mult) (dI CMul fun i j=>.int (i*j)):=Tu Adn fun _ _ _=>.int _
theorem Adw:QOp X (binaryOp .FloorDiv) (dI Tp fun i j=>.int (i / j)):=Tu Zp fun _ _ _=>.int _
theorem o_mod:QOp X (binaryOp .Mod) (dI (fun _ j=>0<j) fun i j=>.int (i % j)):=Tu Ado fun _ _ _=>.int _
theorem o_lt:QOp X (compareOp .Lt) (dI0 fun i j=>.bl (decide (i<j))):=He op_lt fun _ _ _=>.bl _
theorem o_le:QOp X (compareOp .LtE) (dI0 fun i j=>.bl (decide (i≤j))):=He op_le fun _ _ _=>.bl _
theorem o_gt:QOp X (compareOp .Gt) (dI0 fun i j=>.bl (decide (j<i))):=He op_gt fun _ _ _=>.bl _
theorem o_ge:QOp X (compareOp .GtE) (dI0 fun i j=>.bl (decide (j≤i))):=He op_ge fun _ _ _=>.bl _
end
section
variable{K:W.Frag}
theorem RelG.lst{H:Hp}{G:Gp}(r:RelG K H G){p:Addr}{ds:List D}{xs:List V}(hp:H p=none)(rv:DVs K H ds xs):RelG K (upd H p (.lst xs)) (Ab G p (.lst ds)):=fun a o e=>by
 by_cases h:a=p
 ·subst h;rw[Aa] at e;cases e;exact⟨xs,Af,rv.ext (Ext.fresh hp)⟩
 ·rw[Ag h] at e;exact(r a o e).upd (Ext.fresh hp) (.inl hp)
theorem C3{H:Hp}{p:Addr}{xs:List V}{o:HO}(h:H p=some (.lst xs)):Ext H (upd H p o):=Ext.write h (fun _ z=>nomatch z) fun _ _ z=>nomatch z
theorem RelG.lstw{H:Hp}{G:Gp}(r:RelG K H G){p:Addr}{ds:List D}{xs ys:List V}(hp:H p=some (.lst ys))(rv:DVs K H ds xs):RelG K (upd H p (.lst xs)) (Ab G p (.lst ds)):=fun a o e=>by
 by_cases h:a=p
 ·subst h;rw[Aa] at e;cases e;exact⟨xs,Af,rv.ext (C3 hp)⟩
 ·rw[Ag h] at e;exact(r a o e).upd (C3 hp) (.inr h)
end
section
variable{X:Cx}{a b c e:Expr}{ta tb tc te:DTE}{pos:Pos}
def P2(t:DTE):DTT:=fun σ G Q=>t σ G fun x G'=>∃k,x=.bl k∧Q k G'
theorem Kc{K:W.Frag}{t:DTE}{σ:St}{H:Hp}{Q:Bool→Hp→Prop}(h:Cw K (P2 t) σ H Q):Ba K t σ H fun x H'=>∃k,x=.bl k∧Q k H':=by
 obtain⟨σD,G,Q',rs,rg,h,cl⟩:=h;refine⟨σD,G,_,rs,rg,h,fun d G' zz H' x r v dv=>?_⟩;obtain⟨k,ek,q⟩:=zz;subst ek;cases dv;exact⟨k,rfl,cl k G' q H' x r⟩
theorem q_cmp{op:CmpOp}{r:DR2}(ho:QOp X (compareOp op) r)(ha:QE X a ta)(hb:QE X b tb)(hm:behindInMarks op b=false):QE X (.Compare a [op] [b] pos) (nOp r ta tb):=(Zl ho ha hb hm).imp fun _ _ _ h=>Gu h
theorem Hd{op:CmpOp}{r:DR2}(ho:QOp X (compareOp op) r)(ha:QE X a ta)(hb:QE X b tb)(hm:behindInMarks op b=false):QT X (.Compare a [op] [b] pos) (P2 (nOp r ta tb)):=
 (Zb ho ha hb hm).imp fun _ _ _ h=>Gu (Kc h)
def K7(r r':DR2)(ta tb tc:DTE):DTE:=fun σ G Q=>ta σ G fun x G1=>tb σ G1 fun y G2=>r x y G2 fun z G3=>∃k,z=.bl k∧
 (if k=true then tc σ G3 fun w' G4=>r' y w' G4 Q else Q (.bl false) G3)
theorem Iq{K:W.Frag}{r r':DR2}{σ:St}{H:Hp}{Q:VK}(h:Ba K (K7 r r' ta tb tc) σ H Q):Oh (Jv K r) (Jv K r') (Ba K ta) (Ba K tb) (Ba K tc) σ H Q:=by
 obtain⟨σD,G,Q',rs,rg,h,cl⟩:=h;refine⟨σD,G,_,rs,rg,h,fun x G1 h1 H1 x1 rg1 v1 d1=>?_⟩;refine⟨σD,G1,_,rs.ext x1,rg1,h1,fun y G2 h2 H2 x2 rg2 v2 d2=>?_⟩;refine⟨x,y,G2,_,d1.ext x2,d2,rg2,h2,fun z G3 h3 H3 x3 rg3 v3 d3=>?_⟩;obtain⟨k,ek,h3⟩:=h3;subst ek;cases d3;refine⟨k,rfl,?_⟩;cases k with
 |true=>
  rw[if_pos rfl] at h3 ⊢;refine⟨σD,G3,_,rs.ext (x1.trans (x2.trans x3)),rg3,h3,fun w4 G4 h4 H4 x4 rg4 v4 d4=>?_⟩;exact⟨y,w4,G4,Q',d2.ext (x3.trans x4),d4,rg4,h4,fun d G' q=>(cl d G' q).go (x1.trans (x2.trans (x3.trans x4)))⟩
 |false=>
  rw[if_neg Bool.false_ne_true] at h3 ⊢;exact cl _ G3 h3 H3 (x1.trans (x2.trans x3)) rg3 _ (.bl false)
theorem q_chain{op op':CmpOp}{r r':DR2}(ho:QOp X (compareOp op) r)(ho':QOp X (compareOp op') r')(ha:QE X a ta)(hb:QE X b tb)(hc:QE X c tc)(hm:lastMarks [op,op'] [b,c]=false:=by with_unfolding_all rfl):QE X (.Compare a [op,op'] [b,c] pos) (K7 r r' ta tb tc):=(Wj ho ho' ha hb hc hm).imp fun _ _ _ h=>Iq h
theorem qt_chain{op op':CmpOp}{r r':DR2}(ho:QOp X (compareOp op) r)(ho':QOp X (compareOp op') r')(ha:QE X a ta)(hb:QE X b tb)(hc:QE X c tc)(hm:lastMarks [op,op'] [b,c]=false:=by with_unfolding_all rfl):QT X (.Compare a [op,op'] [b,c] pos) (P2 (K7 r r' ta tb tc)):=(V6 ho ho' ha hb hc hm).imp fun _ _ _ h=>Iq (Kc h)

def eqS:D→D→Option Bool
 |.int i,.int j=>some (decide (i=j))
 |.bl i,.bl j=>some (decide (i=j))
 |.str i,.str j=>some (decide (i=j))
 |.non,.non=>some true
 |.non,.int _=>some false|.int _,.non=>some false|.non,.bl _=>some false|.bl _,.non=>some false|.non,.str _=>some false|.str _,.non=>some false
 |.int _,.str _=>some false|.str _,.int _=>some false|.bl _,.str _=>some false|.str _,.bl _=>some false
 |_,_=>none
theorem Nk{H:Hp}{K:W.Frag}{x y:D}{v u:V}{k:Bool}(h:eqS x y=some k)(hx:DV K H x v)(hy:DV K H y u):scal v u=true∧decide (v=u)=k:=by
 cases hx<;>cases hy<;>simp only[eqS,Option.some.injEq,reduceCtorEq] at h<;>subst h<;>refine⟨rfl,?_⟩<;>simp
def dEq:DR2:=fun x y G Q=>∃k,eqS x y=some k∧Q (.bl k) G
def dNe:DR2:=fun x y G Q=>∃k,eqS x y=some k∧Q (.bl (!k)) G
theorem o_eq:QOp X (compareOp .Eq) dEq:=L2.OpR.imp op_eq fun x y H Q zz=>by
 obtain⟨dx,dy,G,Q',hx,hy,rg,⟨k,ek,q⟩,cl⟩:=zz;obtain⟨h1,h2⟩:=Nk ek hx hy;refine⟨h1,?_⟩;rw[h2];exact cl _ G q H (Ext.refl H) rg _ (.bl k)
theorem o_ne:QOp X (compareOp .NotEq) dNe:=L2.OpR.imp op_ne fun x y H Q zz=>by
 obtain⟨dx,dy,G,Q',hx,hy,rg,⟨k,ek,q⟩,cl⟩:=zz;obtain⟨h1,h2⟩:=Nk ek hx hy;refine⟨h1,?_⟩;rw[h2];exact cl _ G q H (Ext.refl H) rg _ (.bl (!k))
def isN:D→Bool
 |.non=>true
 |_=>false
theorem Aeb{H:Hp}{K:W.Frag}{d:D}{v:V}(h:DV K H d v):decide (v=.non)=isN d:=by cases h<;>simp[isN]
theorem Adv:QOp X (compareOp .IsNot) (fun x y G Q=>y=.non∧Q (.bl (!isN x)) G):=L2.OpR.imp Zo fun x y H Q zz=>by
 obtain⟨dx,dy,G,Q',hx,hy,rg,⟨ey,q⟩,cl⟩:=zz;subst ey;cases hy;refine⟨rfl,?_⟩;rw[Aeb hx];exact cl _ G q H (Ext.refl H) rg _ (.bl _)

variable{t u:DTT}{rest:List Expr}
def nAnd(t u:DTT):DTT:=fun σ G Q=>t σ G fun c G1=>if c=true then u σ G1 Q else Q false G1
def nOr(t u:DTT):DTT:=fun σ G Q=>t σ G fun c G1=>if c=true then Q true G1 else u σ G1 Q
def nNot(t:DTT):DTT:=fun σ G Q=>t σ G fun c G1=>Q (!c) G1
theorem qw_and1(ha:QT X a t):QW X (.BoolOp .And [a] pos) t:=Za ha
theorem qw_or1(ha:QT X a t):QW X (.BoolOp .Or [a] pos) t:=Acz ha
theorem Acg(ha:QT X a t)(hb:QW X (.BoolOp .And (b::rest) pos) u):QW X (.BoolOp .And (a::b::rest) pos) (nAnd t u):=(Ac0 ha hb).imp fun σ H Q zz=>by
 obtain⟨σD,G,Q',rs,rg,h,cl⟩:=zz;refine⟨σD,G,_,rs,rg,h,fun k G1 h1 H1 x1 rg1=>?_⟩;cases k with
 |true=>rw[if_pos rfl] at h1 ⊢;exact⟨σD,G1,Q',rs.ext x1,rg1,h1,fun b G' q=>(cl b G' q).go x1⟩
 |false=>rw[if_neg Bool.false_ne_true] at h1 ⊢;exact cl _ G1 h1 H1 x1 rg1
theorem qw_or(ha:QT X a t)(hb:QW X (.BoolOp .Or (b::rest) pos) u):QW X (.BoolOp .Or (a::b::rest) pos) (nOr t u):=(pw_or ha hb).imp fun σ H Q zz=>by
 obtain⟨σD,G,Q',rs,rg,h,cl⟩:=zz;refine⟨σD,G,_,rs,rg,h,fun k G1 h1 H1 x1 rg1=>?_⟩;cases k with
 |true=>rw[if_pos rfl] at h1 ⊢;exact cl _ G1 h1 H1 x1 rg1
 |false=>rw[if_neg Bool.false_ne_true] at h1 ⊢;exact⟨σD,G1,Q',rs.ext x1,rg1,h1,fun b G' q=>(cl b G' q).go x1⟩
theorem qt_of(h:QW X e t):QT X e t:=h.pt
theorem Aci(ha:QT X a t):QT X (.UnaryOp .Not a pos) (nNot t):=(Ac1 ha).imp fun σ H Q ⟨σD,G,Q',rs,rg,h,cl⟩=>
 ⟨σD,G,_,rs,rg,h,fun k G1 h1 H1 x1 rg1=>cl _ G1 h1 H1 x1 rg1⟩
def Abi(ta tb:DTE):DTE:=fun σ G Q=>ta σ G fun x G1=>∃c,x=.bl c∧if c=true then tb σ G1 Q else Q (.bl false) G1
def Aba(ta:DTE):DTE:=fun σ G Q=>ta σ G fun x G1=>∃c,x=.bl c∧Q (.bl (!c)) G1
theorem q_one{op}(h:QE X a ta):QE X (.BoolOp op [a] pos) ta:=Adf h
theorem q_and(ha:QE X a ta)(hb:QE X (.BoolOp .And (b::rest) pos) tb):QE X (.BoolOp .And (a::b::rest) pos) (Abi ta tb):=(Adl ha hb).imp fun σ H Q zz=>by
 obtain⟨σD,G,Q',rs,rg,h,cl⟩:=zz;refine⟨σD,G,_,rs,rg,h,fun d G1 zz H1 x1 rg1 v dv=>?_⟩;obtain⟨k,ek,h1⟩:=zz;subst ek;cases dv;refine⟨k,rfl,?_⟩;cases k with
 |true=>rw[if_pos rfl] at h1 ⊢;exact⟨σD,G1,Q',rs.ext x1,rg1,h1,fun b G' q=>(cl b G' q).go x1⟩
 |false=>rw[if_neg Bool.false_ne_true] at h1 ⊢;exact cl _ G1 h1 H1 x1 rg1 _ (.bl false)
theorem q_not(ha:QE X a ta):QE X (.UnaryOp .Not a pos) (Aba ta):=(Adg ha).imp fun σ H Q zz=>by
 obtain⟨σD,G,Q',rs,rg,h,cl⟩:=zz;refine⟨σD,G,_,rs,rg,h,fun d G1 zz H1 x1 rg1 v dv=>?_⟩;obtain⟨k,ek,h1⟩:=zz;subst ek;cases dv;exact⟨k,rfl,cl _ G1 h1 H1 x1 rg1 _ (.bl _)⟩
def nIf(t:DTT)(ta tb:DTE):DTE:=fun σ G Q=>t σ G fun c G1=>if c=true then ta σ G1 Q else tb σ G1 Q
theorem Y5(hc:QT X c t)(ha:QE X a ta)(hb:QE X b tb):QE X (.IfExp c a b pos) (nIf t ta tb):=(Wh hc ha hb).imp fun σ H Q zz=>by
 obtain⟨σD,G,Q',rs,rg,h,cl⟩:=zz;refine⟨σD,G,_,rs,rg,h,fun k G1 h1 H1 x1 rg1=>?_⟩;cases k with
 |true=>rw[if_pos rfl] at h1 ⊢;exact⟨σD,G1,Q',rs.ext x1,rg1,h1,fun b G' q=>(cl b G' q).go x1⟩
 |false=>rw[if_neg Bool.false_ne_true] at h1 ⊢;exact⟨σD,G1,Q',rs.ext x1,rg1,h1,fun b G' q=>(cl b G' q).go x1⟩
def Kp(G:Gp):D→Option Bool
 |.non=>some false
 |.bl b=>some b
 |.int i=>some (i != 0)
 |.str y=>if y.length≤sizeLine then some ((y.length:Int) != 0) else none
 |.tup ds=>some (!ds.isEmpty)
 |.lint ns=>some (!ns.isEmpty)
 |.ref a=>match G a with
  |some (.lst ds)=>some (!ds.isEmpty)
  |some (.dkk kvs)=>some (!kvs.isEmpty)
  |_=>none
 |_=>none
theorem isE{K:W.Frag}{H:Hp}{ds:List D}{vs:List V}(r:DVs K H ds vs):ds.isEmpty=vs.isEmpty:=by cases r<;>rfl
theorem Yk{K:W.Frag}{H:Hp}{G:Gp}{d:D}{v:V}{k:Bool}(rg:RelG K H G)(h:Kp G d=some k)(r:DV K H d v):TruV K v H k:=by
 cases r with
 |non=>cases h;rfl
 |bl b=>cases h;rfl
 |int i=>cases h;rfl
 |str y=>
  simp only[Kp] at h
  split at h
  ·rename_i hy;cases h;exact⟨hy,rfl⟩
  ·cases h
 |tup e r=>
  cases h;exact .inr (.inl ⟨_,.inl (.inl e),by rw[isE r]⟩)
 |@lint ns a e=>
  cases h;exact .inl ⟨_,e.sq,by cases ns<;>rfl⟩
 |ref a=>
  simp only[Kp] at h
  split at h
  ·rename_i ds q;obtain⟨xs,e,r⟩:=rg a _ q;cases h;exact .inl ⟨xs,.inl (.inl e),by rw[isE r]⟩
  ·rename_i kvs q;obtain⟨xs,e,r⟩:=rg a _ q;cases h;exact .inr (.inr ⟨xs,e,by cases r<;>rfl⟩)
  ·cases h
 |ty n=>cases h
def nTru(t:DTE):DTT:=fun σ G Q=>t σ G fun x G'=>∃k,Kp G' x=some k∧Q k G'
theorem Ach(ha:QE X a ta)(he:∀whole,isTrue a X.env whole=(do let v ←whole;standAt a.pos;holding [v] (truthy v)):=by intro _;rfl):QT X a (nTru ta):=(V5 ha he).imp fun σ H Q zz=>by
 obtain⟨σD,G,Q',rs,rg,h,cl⟩:=zz;refine⟨σD,G,_,rs,rg,h,fun d G1 zz H1 x1 rg1 v dv=>?_⟩;obtain⟨k,ek,h1⟩:=zz;exact⟨k,Yk rg1 ek dv,cl _ G1 h1 H1 x1 rg1⟩

variable{es:List Expr}{tA:DTA}
def Ji:DTA:=fun _ G Q=>Q [] G
def Tz(ta:DTE)(tr:DTA):DTA:=fun σ G Q=>ta σ G fun x G1=>tr σ G1 fun xs G2=>Q (x::xs) G2
theorem qa_nil:QA X [] Ji:=pa_nil.imp fun σ H Q ⟨σD,G,Q',rs,rg,h,cl⟩=>cl _ G h H (Ext.refl H) rg _ .nil
theorem Ev(ha:QE X e te)(hr:QA X es tA)(hs:starEach (e::es) X.env=(false,eval e X.env)::starEach es X.env:=by rfl):QA X (e::es) (Tz te tA):=(Dg ha hr hs).imp fun σ H Q zz=>by
 obtain⟨σD,G,Q',rs,rg,h,cl⟩:=zz;refine⟨σD,G,_,rs,rg,h,fun x G1 h1 H1 x1 rg1 v1 d1=>?_⟩;refine⟨σD,G1,_,rs.ext x1,rg1,h1,fun ys G2 h2 H2 x2 rg2 v2 d2=>?_⟩;exact cl _ G2 h2 H2 (x1.trans x2) rg2 _ (.cons (d1.ext x2) d2)
def nTup(t:DTA):DTE:=fun σ G Q=>t σ G fun xs G1=>xs.length≤sizeLine∧Q (.tup xs) G1
def nLst(t:DTA):DTE:=fun σ G Q=>t σ G fun xs G1=>xs.length≤sizeLine∧∀p,G1 p=none→Q (.ref p) (Ab G1 p (.lst xs))
theorem F8{x1}(h:QA X es tA):QE X (.Tuple es x1 pos) (nTup tA):=(Adc h).imp fun σ H Q zz=>by
 obtain⟨σD,G,Q',rs,rg,h,cl⟩:=zz;refine⟨σD,G,_,rs,rg,h,fun ds G1 ⟨hl,q⟩ H1 x1 rg1 vs dv=>⟨by rw[←dv.length];exact hl,fun p hp=>?_⟩⟩
 exact cl _ G1 q _ (x1.trans (Ext.fresh hp)) (rg1.tup hp) _ (.tup Af (dv.ext (Ext.fresh hp)))
theorem F9(h:QA X es tA):QE X (.List es pos) (nLst tA):=(Uo h).imp fun σ H Q zz=>by
 obtain⟨σD,G,Q',rs,rg,h,cl⟩:=zz;refine⟨σD,G,_,rs,rg,h,fun ds G1 ⟨hl,q⟩ H1 x1 rg1 vs dv=>⟨by rw[←dv.length];exact hl,fun p hp=>?_⟩⟩
 exact cl _ _ (q p (rg1.free hp)) _ (x1.trans (Ext.fresh hp)) (rg1.lst hp dv) _ (.ref p)

def Bb(G:Gp)(x:D)(i:Int):Option D:=match x with
 |.tup ds=>atI ds i
 |.lint ns=>atI (ns.map D.int) i
 |.ref a=>match G a with
  |some (.lst ds)=>atI ds i
  |_=>none
 |_=>none
theorem L0{K:W.Frag}{H:Hp}{ds:List D}{vs:List V}{i:Int}{d:D}(r:DVs K H ds vs)(h:atI ds i=some d):∃v,atI vs i=some v∧DV K H d v:=by
 unfold atI at h ⊢;rw[←r.length];cases e:ixN ds.length i with
 |none=>rw[e] at h;cases h
 |some j=>rw[e] at h;exact r.get h
def dIx:DR2:=fun x y G Q=>∃i,y=.int i∧∃d,Bb G x i=some d∧Q d G
theorem _root_.L2.IxR.imp{r r':R2}(h:IxR X r)(g:∀x y H Q,r' x y H Q→r x y H Q):IxR X r':=fun va sl pins s σ H x y v u Q I rx ry q hs=>h va sl pins s σ H x y v u Q I rx ry (g x y H Q q) hs
theorem o_ix:IxR X (Jv X.K dIx):=ix_seq.imp fun x y H Q zz=>by
 obtain⟨dx,dy,G,Q',hx,hy,rg,⟨i,ei,d,ed,q⟩,cl⟩:=zz;subst ei;cases hy;cases hx with
 |@tup ds a xs e r=>
  obtain⟨v,ev,dv⟩:=L0 r (show atI ds i=some d from ed);exact .inr (.inl ⟨a,xs,i,v,rfl,rfl,.inl (.inl e),ev,cl _ G q H (Ext.refl H) rg _ dv⟩)
 |@lint ns a e=>
  obtain⟨v,ev,dv⟩:=L0 (K:=X.K) (H:=H) DVs.ints (show atI (ns.map D.int) i=some d from ed);exact .inl ⟨a,_,i,v,rfl,rfl,e.sq,ev,cl _ G q H (Ext.refl H) rg _ dv⟩
 |ref a=>
  simp only[Bb] at ed
  split at ed
  ·rename_i ds g;obtain⟨xs,e,r⟩:=rg a _ g;obtain⟨v,ev,dv⟩:=L0 r ed;exact .inl ⟨a,xs,i,v,rfl,rfl,.inl (.inl e),ev,cl _ G q H (Ext.refl H) rg _ dv⟩
  ·cases ed
 |_=>cases ed
theorem q_ix(ha:QE X a ta)(hb:QE X b tb)(hs:Ra b:=by intro _ _;rfl):QE X (.Subscript a b pos) (nOp dIx ta tb):=(pe_ix o_ix ha hb hs).imp fun _ _ _ h=>Gu h
end
section
variable{X:Cx}{a b c e:Expr}{ta tb tc te:DTE}{pos:Pos}{st:Stmt}{rest body orelse:List Stmt}{t u:DTS}
def Abb:DTS:=fun D σ G=>D.nx σ G
def nSeq(t u:DTS):DTS:=fun D σ G=>t { D with nx:=u D } σ G
theorem qss_nil:QSs X [] Abb:=pss_nil.imp fun E σ H ⟨σD,G,D,rs,rg,h,cl⟩=>cl.nx σD G h H (Ext.refl H) rg σ rs
theorem W8{K:W.Frag}{E:Ends}{σ:St}{H:Hp}(h:Dn K (nSeq t u) E σ H):tSeq (Dn K t) (Dn K u) E σ H:=by
 obtain⟨σD,G,D,rs,rg,h,cl⟩:=h;refine⟨σD,G,_,rs,rg,h,⟨fun σ1 G1 h1 H1 x1 rg1 σ' rs1=>⟨σ1,G1,D,rs1,rg1,h1,cl.go x1⟩,cl.rt,cl.bk,cl.ct⟩⟩
theorem Vy(h1:QS X st t)(h2:QSs X rest u):QSs X (st::rest) (nSeq t u):=(V7 h1 h2).imp fun _ _ _ h=>W8 h
theorem Lj(h1:QS X st t):QSs X [st] t:=Gs h1
def Abg(te:DTE):DTS:=fun D σ G=>te σ G fun _ G1=>D.nx σ G1
theorem Y0(he:QE X e te)(hs:swapsWith e none pos.line X.env=pure false:=by rfl):QS X (.Expr e pos) (Abg te):=(Ze he hs).imp fun E σ H ⟨σD,G,D,rs,rg,h,cl⟩=>
 ⟨σD,G,_,rs,rg,h,fun d G1 h1 H1 x1 rg1 v dv=>cl.nx σD G1 h1 H1 x1 rg1 σ (rs.ext x1)⟩
def nRet(te:DTE):DTS:=fun D σ G=>te σ G D.rt
theorem Oq(he:QE X e te):QS X (.Return (some e) pos) (nRet te):=(Os he).imp fun E σ H ⟨σD,G,D,rs,rg,h,cl⟩=>⟨σD,G,_,rs,rg,h,cl.rt⟩
def nIfS(c:DTT)(t u:DTS):DTS:=fun D σ G=>c σ G fun b G1=>if b=true then t D σ G1 else u D σ G1
theorem Mm{tc:DTT}(hc:QT X c tc)(ha:QSs X body t)(hb:QSs X orelse u):QS X (.If c body orelse pos) (nIfS tc t u):=(Aa4 hc ha hb).imp fun E σ H zz=>by
 obtain⟨σD,G,D,rs,rg,h,cl⟩:=zz;refine⟨σD,G,_,rs,rg,h,fun k G1 h1 H1 x1 rg1=>?_⟩;cases k with
 |true=>rw[if_pos rfl] at h1 ⊢;exact⟨σD,G1,D,rs.ext x1,rg1,h1,cl.go x1⟩
 |false=>rw[if_neg Bool.false_ne_true] at h1 ⊢;exact⟨σD,G1,D,rs.ext x1,rg1,h1,cl.go x1⟩
def Ut:DTS:=fun _ _ _=>False
theorem V0:QS X st Ut:=ps_never.imp fun E σ H ⟨σD,G,D,rs,rg,h,cl⟩=>h
abbrev DTG:=D→DSt→Gp→(DSt→Gp→Prop)→Prop
abbrev Mi:=List D→DSt→Gp→(DSt→Gp→Prop)→Prop
def Cn(K:W.Frag)(t:DTG):TG:=fun v σ H Q=>∃d σD G Q',DV K H d v∧RelS K H σD σ∧RelG K H G∧t d σD G Q'∧∀σD' G',Q' σD' G'→Fwd K H G' fun H'=>∀σ',RelS K H' σD' σ'→Q σ' H'
def Ad2(K:W.Frag)(t:Mi):TGs:=fun vs σ H Q=>∃ds σD G Q',DVs K H ds vs∧RelS K H σD σ∧RelG K H G∧t ds σD G Q'∧∀σD' G',Q' σD' G'→Fwd K H G' fun H'=>∀σ',RelS K H' σD' σ'→Q σ' H'
def QG(X:Cx)(e:Expr)(g:DTG):Prop:=PG X e (Cn X.K g)
def QGs(X:Cx)(es:List Expr)(g:Mi):Prop:=PGs X es (Ad2 X.K g)
theorem _root_.L2.PG.imp{X:Cx}{e:Expr}{t t':TG}(h:PG X e t)(f:∀v σ H Q,t' v σ H Q→t v σ H Q):PG X e t':=fun pins s σ H v u Q I r q=>h pins s σ H v u Q I r (f v σ H Q q)
theorem _root_.L2.PGs.imp{X:Cx}{e:List Expr}{t t':TGs}(h:PGs X e t)(f:∀v σ H Q,t' v σ H Q→t v σ H Q):PGs X e t':=fun pins s σ H v u Q I r q=>h pins s σ H v u Q I r (f v σ H Q q)
def Ga(i:Nat):DTG:=fun d σ G Q=>Q (σ.set i (some d)) G
theorem Lk{i:Nat}{x:Str}(hN:X.N.Nodup)(hi:X.N[i]? = some x:=by rfl)(hx:Loc X.env.scope x:=by first|exact Or.inl rfl|exact Or.inr rfl)(hf:X.fn x=true∨X.env.scope.names.lookup x=some .local:=by first|exact .inl rfl|exact .inr rfl|assumption):QG X (.Name x pos) (Ga i):=
 (Zi hN hi hx hf).imp fun v σ H Q ⟨d,σD,G,Q',dv,rs,rg,h,cl⟩=>cl _ G h H (Ext.refl H) rg _ (rs.set dv i)
def mNil:Mi:=fun ds σ G Q=>ds=[]∧Q σ G
def Abj(t:DTG)(u:Mi):Mi:=fun ds σ G Q=>∃v r,ds=v::r∧t v σ G fun σ' G'=>u r σ' G' Q
theorem Y1:QGs X [] mNil:=pgs_nil.imp fun v σ H Q zz=>by
 obtain⟨d,σD,G,Q',dv,rs,rg,⟨e,h⟩,cl⟩:=zz;subst e;cases dv;exact⟨rfl,cl _ G h H (Ext.refl H) rg _ rs⟩
theorem M6{es:List Expr}{t:DTG}{u:Mi}(h1:QG X e t)(h2:QGs X es u)(hs:(assignEach (e::es) X.env).map (·.2)=assign e X.env::(assignEach es X.env).map (·.2):=by rfl):QGs X (e::es) (Abj t u):=(Wc h1 h2 hs).imp fun v σ H Q zz=>by
 obtain⟨d,σD,G,Q',dv,rs,rg,⟨d1,r,e,h⟩,cl⟩:=zz;subst e;cases dv with
 |@cons _ v1 _ vs h1 t1=>
  refine⟨v1,vs,rfl,d1,σD,G,_,h1,rs,rg,h,fun σ1 G1 q1 H1 x1 rg1 σ' rs1=>?_⟩;exact⟨r,σ1,G1,Q',t1.ext x1,rs1,rg1,q1,fun σ2 G2 q=>(cl σ2 G2 q).go x1⟩
def mTup(n:Nat)(t:Mi):DTG:=fun d σ G Q=>∃ds,d=.tup ds∧ds.length=n∧t ds σ G Q
theorem Acm{es:List Expr}{k:Nat}{t:Mi}{n:Nat}(hc:X.calm=true)(h:QGs X es t)(hn:(assignEach es X.env).length=n:=by rfl)(hst:(assignEach es X.env).findIdx? (·.1)=none:=by rfl):QG X (.Tuple es k pos) (mTup n t):=(Ac8 hc h hn hst).imp fun v σ H Q zz=>by
 obtain⟨d,σD,G,Q',dv,rs,rg,⟨ds,e,hl,h⟩,cl⟩:=zz;subst e;cases dv with
 |@tup _ a xs e r=>exact⟨a,xs,rfl,.inl (.inl e),by rw[←r.length];exact hl,ds,σD,G,Q',r,rs,rg,h,cl⟩
abbrev J2:=D→D→D→Gp→(Gp→Prop)→Prop
def Aac(K:W.Frag)(t:J2):Tl:=fun o i v H Q=>∃d1 d2 d3 G Q',DV K H d1 o∧DV K H d2 i∧DV K H d3 v∧RelG K H G∧t d1 d2 d3 G Q'∧∀G',Q' G'→Fwd K H G' Q
def QSet(X:Cx)(t:J2):Prop:=PSet X (Aac X.K t)
theorem _root_.L2.PSet.imp{X:Cx}{t t':Tl}(h:PSet X t)(f:∀o i v H Q,t' o i v H Q→t o i v H Q):PSet X t':=fun pins s σ H o i v ov iv u Q I r1 r2 r3 q=>h pins s σ H o i v ov iv u Q I r1 r2 r3 (f o i v H Q q)
def Abo:J2:=fun o i v G Q=>∃p,o=.ref p∧∃k,i=.int k∧∃ds,G p=some (.lst ds)∧∃j,ixN ds.length k=some j∧Q (Ab G p (.lst (ds.set j v)))
theorem s_list:QSet X Abo:=set_list.imp fun o i v H Q zz=>by
 obtain⟨d1,d2,d3,G,Q',h1,h2,h3,rg,⟨p,e1,k,e2,ds,eg,j,ej,q⟩,cl⟩:=zz;subst e1 e2;cases h1;cases h2;obtain⟨xs,ex,r⟩:=rg p _ eg;exact⟨p,xs,k,j,rfl,rfl,ex,by rw[←r.length];exact ej,cl _ q _ (C3 ex) (rg.lstw ex (r.set h3 j))⟩
def mSub(to ti:DTE)(t:J2):DTG:=fun v σ G Q=>to σ G fun o G1=>ti σ G1 fun i G2=>t o i v G2 fun G3=>Q σ G3
theorem Acn{o i:Expr}{to ti:DTE}{t:J2}(ho:QE X o to)(hi:QE X i ti)(hs:QSet X t)(ha:∀v,assign (.Subscript o i pos) X.env v=(do
   let ov ←holding [v] (eval o X.env)
   let iv ←holding [v,ov] (eval i X.env)
   standAt pos
   holding [v,ov,iv] (setItem ov iv v)
   release [v,ov,iv] []):=by intro _;rfl):QG X (.Subscript o i pos) (mSub to ti t):=(Ac9 ho hi hs ha).imp fun v σ H Q zz=>by
 obtain⟨d,σD,G,Q',dv,rs,rg,h,cl⟩:=zz;refine⟨σD,G,_,rs,rg,h,fun x G1 h1 H1 x1 rg1 v1 d1=>?_⟩;refine⟨σD,G1,_,rs.ext x1,rg1,h1,fun y G2 h2 H2 x2 rg2 v2 d2=>?_⟩;exact⟨x,y,d,G2,_,d1.ext x2,d2,dv.ext (x1.trans x2),rg2,h2,fun G3 q H3 x3 rg3=>cl σD G3 q H3 (x1.trans (x2.trans x3)) rg3 σ (rs.ext (x1.trans (x2.trans x3)))⟩
def Rc(te:DTE)(g:DTG):DTS:=fun D σ G=>te σ G fun x G1=>g x σ G1 D.nx
theorem W9{K:W.Frag}{g:DTG}{E:Ends}{σ:St}{H:Hp}(h:Dn K (Rc te g) E σ H):X8 (Ba K te) (Cn K g) E σ H:=by
 obtain⟨σD,G,D,rs,rg,h,cl⟩:=h;refine⟨σD,G,_,rs,rg,h,fun d G1 h1 H1 x1 rg1 v dv=>?_⟩;exact⟨d,σD,G1,_,dv,rs.ext x1,rg1,h1,fun σ2 G2 q=>(cl.go x1).nx σ2 G2 q⟩
theorem Acl{tg:Expr}{g:DTG}(he:QE X e te)(hg:QG X tg g)(hs:swapsWithSole [tg] e pos.line X.env=pure false:=by rfl)(hw:swappedStores [tg] e X.env=pure none:=by rfl)(h1:(assignEach [tg] X.env).map (·.2)=[assign tg X.env]:=by rfl):QS X (.Assign [tg] e pos) (Rc te g):=(Ac5 he hg hs hw h1).imp fun _ _ _ h=>W9 h
theorem Do{i:Nat}{x:Str}{pos':Pos}(hN:X.N.Nodup)(he:QE X e te)(hi:X.N[i]? = some x:=by rfl)(hx:Loc X.env.scope x:=by first|exact Or.inl rfl|exact Or.inr rfl)(hs:swapsWith e (some (.Name x pos')) pos.line X.env=pure false:=by rfl)(hf:X.fn x=true∨X.env.scope.names.lookup x=some .local:=by first|exact .inl rfl|exact .inr rfl|assumption) :
  QS X (.Assign [.Name x pos'] e pos) (Rc te (Ga i)):=(Ac3 hN hi hx he hs hf).imp fun E σ H ⟨σD,G,D,rs,rg,h,cl⟩=>
 ⟨σD,G,_,rs,rg,h,fun d G1 h1 H1 x1 rg1 v dv=>cl.nx _ G1 h1 H1 x1 rg1 _ ((rs.ext x1).set dv i)⟩
def nAug(i:Nat)(te:DTE)(r:DR2):DTS:=fun D σ G=>∃x,σ[i]? = some (some x)∧te σ G fun y G1=>r x y G1 fun z G2=>D.nx (σ.set i (some z)) G2
def QIp(X:Cx)(op:Operator)(r:DR2):Prop:=PIp X op (Jv X.K r)
theorem U5{op:Operator}{f:Int→Int→Int}(h:PIp X op (ipI f)):QIp X op (dI0 fun i j=>.int (f i j)):=fun pins s σ H x y v u Q I rx ry zz=>by
 obtain⟨dx,dy,G,Q',hx,hy,rg,⟨i,ei,j,ej,q⟩,cl⟩:=zz;subst ei ej;cases hx;cases hy;exact h pins s σ H _ _ v u Q I rx ry ⟨i,j,rfl,rfl,cl _ G q H (Ext.refl H) rg _ (.int _)⟩
theorem Aef:QIp X .Add (dI0 fun i j=>.int (i+j)):=U5 Aed
theorem ia_sub:QIp X .Sub (dI0 fun i j=>.int (i-j)):=U5 Aec
theorem Uk{i:Nat}{x:Str}{op:Operator}{r:DR2}{pos':Pos}(hN:X.N.Nodup)(ho:QIp X op r)(he:QE X e te)(hi:X.N[i]? = some x:=by rfl)(hx:Loc X.env.scope x:=by first|exact Or.inl rfl|exact Or.inr rfl)(hf:X.fn x=true∨X.env.scope.names.lookup x=some .local:=by first|exact .inl rfl|exact .inr rfl|assumption) :
  QS X (.AugAssign (.Name x pos') op e pos) (nAug i te r):=(Ac4 hN hi hx he ho hf).imp fun E σ H zz=>by
 obtain⟨σD,G,D,rs,rg,⟨d,ed,h⟩,cl⟩:=zz;obtain⟨v,ev,dv⟩:=rs.2 i d ed;refine⟨v,ev,σD,G,_,rs,rg,h,fun y G1 h1 H1 x1 rg1 v1 d1=>?_⟩;exact⟨d,y,G1,_,dv.ext x1,d1,rg1,h1,fun z G2 q H2 x2 rg2 v2 d2=>cl.nx _ G2 q H2 (x1.trans x2) rg2 _ ((rs.ext (x1.trans x2)).set d2 i)⟩

def Sub(G G':Gp):Prop:=∀a o,G a=some o→G' a=some o
theorem Sub.refl(G:Gp):Sub G G:=fun _ _ h=>h
theorem Sub.trans{G G1 G2:Gp}(a:Sub G G1)(b:Sub G1 G2):Sub G G2:=fun c o h=>b c o (a c o h)
theorem Sub.new{G:Gp}{p:Addr}{o:GO}(h:G p=none):Sub G (Ab G p o):=fun a u e=>by rw[Ag (gne e h)];exact e
theorem Sub.upd{G G':Gp}(s:Sub G G')(a:Addr)(o:GO):Sub (Ab G a o) (Ab G' a o):=fun b u e=>by
 by_cases h:b=a
 ·subst h;rw[Aa] at e ⊢;exact e
 ·rw[Ag h] at e ⊢;exact s b u e
theorem Sub.none{G G':Gp}(s:Sub G G'){p:Addr}(h:G' p=Option.none):G p=Option.none:=by
 cases e:G p with
 |none=>rfl
 |some o=>rw[s p o e] at h;cases h
theorem Sub.skip{G G':Gp}(s:Sub G G'){p:Addr}{o:GO}(h:G' p=Option.none):Sub G (Ab G' p o):=s.trans (Sub.new h)
def Fs(P:DSt→Gp→Prop)(σ:DSt)(G:Gp):Prop:=∃G',Sub G' G∧P σ G'
theorem Fs.of{P:DSt→Gp→Prop}{σ:DSt}{G:Gp}(h:P σ G):Fs P σ G:=⟨G,Sub.refl G,h⟩
def Ady(c:DTT)(tb:DTS):DTS:=fun D σ G=>∃W:Nat→DSt→Gp→Prop,(∃m,W m σ G)∧∀m σ G,W m σ G→
 c σ G fun b G1=>if b=true then ∃N:DSt→Gp→Prop,(∀σ' G',N σ' G'→∃m',m'<m∧W m' σ' G')∧tb { D with nx:=Fs N,ct:=Fs N,bk:=D.nx } σ G1 else D.nx σ G1
theorem qs_while{tc:DTT}{tb:DTS}(hp:PassesOwn (model X.prog X.w) X.A X.env X.xe)(hc:QT X c tc)(hb:QSs X body tb):QS X (.While c body [] pos) (Ady tc tb):=(V8 hp hc hb).imp fun E σ H zz=>by
 obtain⟨σD,G,D,rs,rg,⟨W,⟨m0,w0⟩,turn⟩,cl⟩:=zz;refine⟨fun m σ' H'=>∃σD' G',RelS X.K H' σD' σ'∧RelG X.K H' G'∧Ext H H'∧W m σD' G',⟨m0,σD,G,rs,rg,Ext.refl H,w0⟩,?_⟩;rintro m σ1 H1 ⟨σD1,G1,rs1,rg1,x1,w1⟩;refine⟨σD1,G1,_,rs1,rg1,turn m σD1 G1 w1,fun k G2 h2 H2 x2 rg2=>?_⟩;cases k with
 |true=>
  rw[if_pos rfl] at h2 ⊢;obtain⟨N,hN,h2⟩:=h2;refine⟨fun σ' H'=>∃σD' G',RelS X.K H' σD' σ'∧RelG X.K H' G'∧Ext H H'∧N σD' G',fun σ' H' ⟨σD',G',r1,r2,r3,n⟩=>?_,?_⟩
  ·obtain⟨m',hm,w'⟩:=hN σD' G' n;exact⟨m',hm,σD',G',r1,r2,r3,w'⟩
  ·have xx:=x1.trans x2;exact⟨σD1,G2,_,rs1.ext x2,rg2,h2,⟨fun s3 G3 ⟨G4,sb,n⟩ H3 x3 rg3 σ3 rs3=>⟨s3,G4,rs3,rg3.ext' sb,xx.trans x3,n⟩,(cl.go xx).rt,(cl.go xx).nx,fun s3 G3 ⟨G4,sb,n⟩ H3 x3 rg3 σ3 rs3=>⟨s3,G4,rs3,rg3.ext' sb,xx.trans x3,n⟩⟩⟩
 |false=>
  rw[if_neg Bool.false_ne_true] at h2 ⊢;exact cl.nx _ G2 h2 H2 (x1.trans x2) rg2 _ (rs1.ext x2)

def Ar(G:Gp):D→Option (List D)
 |.tup ds=>some ds
 |.lint ns=>some (ns.map .int)
 |.ref a=>match G a with
  |some (.lst ds)=>some ds
  |_=>none
 |_=>none
def iSeq(K:W.Frag)(tl:TE):TI:=fun σ H R=>tl σ H fun x H1=>∃a,x=.ref a∧(((∃xs,SqL K H1 a xs)∧R (Itl K a) H1)∨((∃xs,SqT K H1 a xs)∧R (Itt K a) H1))
theorem K4{tg l:Expr}{tl:TE}(hl:PE X l tl):PI X tg l (iSeq X.K tl):=by
 intro pins s σ H R I h;refine thn (hl pins s σ H _ I h) fun v s1 zz=>?_;obtain⟨x,H1,I1,r1,q1⟩:=zz;obtain⟨a,e,q1⟩:=q1;subst e;cases r1;have fin:∀(b:Addr),b∈[s1.heap.objs.size]→Dl X pins H1 b:=fun b hb=>by
  have e:b=s1.heap.objs.size:=by simpa using hb
  subst e;exact I1.fpOk (Nat.le_refl _) (I1.hok.fresh (Nat.le_refl _))
 rcases q1 with ⟨⟨xs,hq⟩,q⟩|⟨⟨xs,hq⟩,q⟩
 ·obtain⟨its,rv,p,hz⟩:=I1.list hq;refine wpAny_pyIter_list p.isList ?_;exact⟨s1.heap.objs.size,[s1.heap.objs.size],_,_,H1,rfl,I1.kept (t':=s1.toks) fun b o e=>Heap.get?_push_of_some _ e,Rg a _,⟨_,Heap.get?_push_size _ rfl,rfl,rfl⟩,fin,q⟩
 ·obtain⟨its,rv,p,hz⟩:=I1.tuple hq;refine wpAny_pyIter_tuple (show s1.heap.IsTuple a its.toArray from p) ?_;exact⟨s1.heap.objs.size,[s1.heap.objs.size],_,_,H1,rfl,I1.kept (t':=s1.toks) fun b o e=>Heap.get?_push_of_some _ e,O2 a _,⟨_,Heap.get?_push_size _ rfl,rfl,rfl⟩,fin,q⟩
structure Items(K:W.Frag)(J:It)(G:Gp)(H:Hp)(ds:List D):Prop where
 go:∀i,i<ds.length→J.go i H
 yl:∀i x H',i<ds.length→J.yld i H x H'→H'=H∧∃d,ds[i]? = some d∧DV K H d x
 st:J.stop ds.length H
theorem Ke{K:W.Frag}{H:Hp}{G:Gp}{a:Addr}{ds:List D}{xs:List V}(e:SqL K H a xs)(r:DVs K H ds xs):Items K (Itl K a) G H ds:=by
 refine⟨fun i hi=>?_,fun i x H' hi y=>?_,⟨xs,e,by rw[←r.length];exact Nat.le_refl _⟩⟩
 ·rw[r.length] at hi;exact⟨xs,xs[i],e,by simp[hi]⟩
 ·obtain⟨e1,e2⟩:=y;exact⟨e1,r.get' (e2 xs e)⟩
theorem Sg{K:W.Frag}{H:Hp}{G:Gp}{a:Addr}{ds:List D}{xs:List V}(e:H a=some (.tup xs))(r:DVs K H ds xs):Items K (Itt K a) G H ds:=by
 refine⟨fun i hi=>?_,fun i x H' hi y=>?_,⟨xs,.inl (.inl e),by rw[←r.length];exact Nat.le_refl _⟩⟩
 ·rw[r.length] at hi;exact⟨xs,xs[i],.inl (.inl e),by simp[hi]⟩
 ·obtain⟨e1,e2⟩:=y;exact⟨e1,r.get' (e2 xs (.inl (.inl e)))⟩
def jOf(K:W.Frag)(d:D)(a:Addr):It:=match d with
 |.tup _=>Itt K a
 |_=>Itl K a
theorem Dr{K:W.Frag}{H:Hp}{G:Gp}{d:D}{ds:List D}{a:Addr}(rg:RelG K H G)(h:Ar G d=some ds)(dv:DV K H d (.ref a)):Items K (jOf K d a) G H ds:=by
 cases dv with
 |tup e r=>cases h;exact Sg e r
 |lint e=>cases h;exact Ke e.sq DVs.ints
 |ref=>
  simp only[Ar] at h
  split at h
  ·rename_i ds' q;cases h;obtain⟨xs,e,r⟩:=rg a _ q;exact Ke (.inl (.inl e)) r
  ·cases h
theorem E9{K:W.Frag}{H:Hp}{G:Gp}{d:D}{ds:List D}{v:V}(h:Ar G d=some ds)(dv:DV K H d v):∃a,v=.ref a:=by
 cases dv<;>first|exact⟨_,rfl⟩|cases h
def Ku(ds:List D)(same:Gp→Prop)(g:DTG)(tb:DTS)(D:DEnds)(σ:DSt)(G:Gp):Prop:=∃P:Nat→DSt→Gp→Prop,P 0 σ G∧(∀i σ G,i≤ds.length→P i σ G→same G)∧
 (∀i x σ G,ds[i]? = some x→P i σ G→g x σ G fun σ2 G2=>tb { D with nx:=Fs (P (i+1)),ct:=Fs (P (i+1)),bk:=D.nx } σ2 G2)∧∀σ G,P ds.length σ G→D.nx σ G
theorem Fw{K:W.Frag}{J:It}{ds:List D}{same:Gp→Prop}{g:DTG}{tb:DTS}{D:DEnds}{E:Ends}{σD:DSt}{σ:St}{G:Gp}{H:Hp}(rs:RelS K H σD σ)(rg:RelG K H G)(cl:D.Reach K H E)(hJ:∀H' G',Ext H H'→RelG K H' G'→same G'→Items K J G' H' ds)(h:Ku ds same g tb D σD G) :
  ∃W:Nat→Nat→St→Hp→Prop,(∃m,W 0 m σ H)∧∀i m σ H,W i m σ H→
   (J.stop i H∧E.nx σ H)∨(J.go i H∧∃N:St→Hp→Prop,(∀σ' H',N σ' H'→∃m',m'<m∧W (i+1) m' σ' H')∧∀x H',J.yld i H x H'→Cn K g x σ H' fun σ2 H2=>Dn K tb { E with nx:=N,ct:=N,bk:=E.nx } σ2 H2):=by
 obtain⟨P,p0,keep,step,fin⟩:=h;refine⟨fun i m σ' H'=>m=ds.length-i∧i≤ds.length∧∃σD' G',RelS K H' σD' σ'∧RelG K H' G'∧Ext H H'∧P i σD' G',⟨ds.length,rfl,Nat.zero_le _,σD,G,rs,rg,Ext.refl H,p0⟩,?_⟩;rintro i m σ1 H1 ⟨rfl,hi,σD1,G1,rs1,rg1,x1,p1⟩;have I:=hJ H1 G1 x1 rg1 (keep i σD1 G1 hi p1)
 by_cases hlt:i<ds.length
 ·refine .inr ⟨I.go i hlt,fun σ' H'=>∃σD' G',RelS K H' σD' σ'∧RelG K H' G'∧Ext H H'∧P (i+1) σD' G',fun σ' H' ⟨s2,G2,r1,r2,r3,p⟩=>⟨ds.length-(i+1),by omega,rfl,hlt,s2,G2,r1,r2,r3,p⟩,fun x H' y=>?_⟩
  obtain⟨e,d,ed,dv⟩:=I.yl i x H' hlt y;subst e;refine⟨d,σD1,G1,_,dv,rs1,rg1,step i d σD1 G1 ed p1,fun σ2 G2 h2 H2 x2 rg2 σ' rs2=>?_⟩;have xx:=x1.trans x2;exact⟨σ2,G2,_,rs2,rg2,h2,⟨fun s3 G3 ⟨G4,sb,n⟩ H3 x3 rg3 σ3 rs3=>⟨s3,G4,rs3,rg3.ext' sb,xx.trans x3,n⟩,(cl.go xx).rt,(cl.go xx).nx,fun s3 G3 ⟨G4,sb,n⟩ H3 x3 rg3 σ3 rs3=>⟨s3,G4,rs3,rg3.ext' sb,xx.trans x3,n⟩⟩⟩
 ·have e:i=ds.length:=by omega
  subst e;exact .inl ⟨I.st,cl.nx _ G1 (fin σD1 G1 p1) H1 x1 rg1 _ rs1⟩
def nFor(te:DTE)(g:DTG)(tb:DTS):DTS:=fun D σ G=>te σ G fun d G1=>∃ds,Ar G1 d=some ds∧Ku ds (fun G'=>Ar G' d=some ds) g tb D σ G1
theorem Ack{tg iter:Expr}{g:DTG}{tb:DTS}(hp:PassesOwn (model X.prog X.w) X.A X.env X.xe)(hc:X.calm=true)(hi:QE X iter te)(hg:QG X tg g)(hb:QSs X body tb)(hs:∀x,foldedSetIterable iter X.env x=pure x:=by intro _;rfl):QS X (.For tg iter body [] pos) (nFor te g tb):=(K3 hp hc (K4 hi) hg hb hs).imp fun E σ H zz=>by
 obtain⟨σD,G,D,rs,rg,h,cl⟩:=zz;refine⟨σD,G,_,rs,rg,h,fun d G1 zz H1 x1 rg1 v dv=>?_⟩;obtain⟨ds,ei,L⟩:=zz;obtain⟨a,rfl⟩:=E9 ei dv;refine⟨a,rfl,?_⟩;have lp:=Fw (J:=jOf X.K d a) (rs.ext x1) rg1 (cl.go x1) (fun H' G' x' rg' s'=>Dr rg' s' (dv.ext x')) L;have I0:=Dr rg1 ei dv;cases dv with
 |tup e r=>exact .inr ⟨⟨_,.inl (.inl e)⟩,lp⟩
 |lint e=>exact .inl ⟨⟨_,e.sq⟩,lp⟩
 |ref=>
  simp only[Ar] at ei
  split at ei
  ·rename_i ds' q;obtain⟨xs,e,r⟩:=rg1 a _ q;exact .inl ⟨⟨_,.inl (.inl e)⟩,lp⟩
  ·cases ei
def Mg(n:Nat):List D:=(List.range n).map fun i=>D.int (i:Nat)
theorem Bq(n:Nat):(Mg n).length=n:=by simp[Mg]
theorem E3{n i:Nat}(h:i<n):(Mg n)[i]? = some (.int (i:Nat)):=by simp[Mg,h]
def Abf(tA:DTA)(g:DTG)(tb:DTS):DTS:=fun D σ G=>tA σ G fun ds G1=>∃j,ds=[.int j]∧(-(2 ^ 62)≤j∧j<2 ^ 62)∧Ku (Mg j.toNat) (fun _=>True) g tb D σ G1
theorem Qf{tg:Expr}{g:DTG}{tb:DTS}{tA:DTA}{p p2:Pos}(hp:PassesOwn (model X.prog X.w) X.A X.env X.xe)(hc:X.calm=true)(hm:X.mg "range" = none)(ha:QA X [a] tA)(hg:QG X tg g)(hb:QSs X body tb)(hgl:Gl X "range":=by rfl)(hst:starEach [a] X.env=[(false,eval a X.env)]:=by rfl)(hs:∀x,foldedSetIterable (.Call (.Name "range" p) [a] [] p2) X.env x=pure x:=by intro _;rfl) :
  QS X (.For tg (.Call (.Name "range" p) [a] [] p2) body [] pos) (Abf tA g tb):=(K3 hp hc (J7 hgl hm ha hst) hg hb hs).imp fun E σ H zz=>by
 obtain⟨σD,G,D,rs,rg,h,cl⟩:=zz;refine⟨σD,G,_,rs,rg,h,fun ds G1 zz H1 x1 rg1 vs dv=>?_⟩;obtain⟨j,ej,⟨j1,j2⟩,L⟩:=zz;subst ej;obtain⟨v,rfl,r⟩:=dv.one;cases r;refine⟨j,rfl,j1,j2,Fw (J:=Itr 0 j.toNat) (rs.ext x1) rg1 (cl.go x1) (fun H' G' x' rg' _=>?_) L⟩;refine⟨fun i hi=>by rw[Bq] at hi;exact hi,fun i x H2 hi y=>?_,by show j.toNat≤_;rw[Bq];exact Nat.le_refl _⟩
 rw[Bq] at hi;obtain⟨e1,e2⟩:=y;refine⟨e1,_,E3 hi,?_⟩;rw[e2,Int.zero_add];exact .int _

abbrev DX:=Value→Gp→Prop
abbrev DSp:=List D→Gp→DK→DX→Prop
def Gb(K:W.Frag)(E:DX):XK:=fun c _ H'=>∃G',RelG K H' G'∧E c G'
def Ak(K:W.Frag)(sp:DSp):Sp:=fun vs H Q E=>∃ds G Q' E',DVs K H ds vs∧RelG K H G∧sp ds G Q' E'∧(∀d G',Q' d G'→Fwd K H G' fun H'=>∀v,DV K H' d v→Q v H')∧∀c G',E' c G'→Fwd K H G' fun H'=>∀ad,E c ad H'
structure Def(P:Program)(w:World)(K:W.Frag)(mg:Str→Option Value)(base:Heap)(CX:CXT)(k:Nat)(x:Str)(ps:List Str)(sp:DSp):Prop where
 ex:∃f fd,FnOk P w K mg base CX k f fd ps (Ak K sp)∧mg x=some (.ref f)∧W.keepIn K (.ref f)=true∧Binds K fd ps []
def T1(sp:DSp)(E:DX)(t:DTA):DTE:=fun σ G Q=>t σ G fun ds G1=>sp ds G1 Q E
abbrev noX:DX:=fun _ _=>False
theorem q_call{CX:CXT}{k:Nat}{x:Str}{ps:List Str}{sp:DSp}{E:DX}{es:List Expr}{p:Pos}{tA:DTA}(F:Def X.prog X.w X.K X.mg X.base CX k x ps sp)(hr:Room k X.A)(hx:Cq CX X (Gb X.K E))(ha:QA X (e::es) tA)(hg:Gl X x:=by rfl)(hdb:(x == ("__debug__" : Str))=false:=by decide)(he:starEach (e::es) X.env=(false,eval e X.env)::starEach es X.env:=by rfl)(hpl:(backTo pos (starEach es X.env)).any (·.1)=false:=by rfl) :
  QE X (.Call (.Name x p) (e::es) [] pos) (T1 sp E tA):=by
 obtain⟨f,fd,F,hm,hk,hb⟩:=F.ex;refine(Zm (ds:=[]) (dvs:=[]) F hr hg hm hk hb .nil hx ha hdb he hpl).imp fun σ H Q zz=>?_;obtain⟨σD,G,Q',rs,rg,h,cl⟩:=zz;refine⟨σD,G,_,rs,rg,h,fun ds G1 h1 H1 x1 rg1 vs dv=>?_⟩;show Ak X.K sp (vs++[]) H1 Q (Gb X.K E);rw[List.append_nil];exact⟨ds,G1,Q',E,dv,rg1,h1,fun d G' q=>(cl d G' q).go x1,fun c G' q H2 x2 rg2 ad=>⟨G',rg2,q⟩⟩
theorem Tv{E:DX}:Cq CX0 X (Gb X.K E):=fun _ _ _ _ _ _ _ h=>h.elim

def Cd(N:List Str)(ds:List D):DSt:=ds.map some++List.replicate (N.length-ds.length) none
def Fq(Q:DK)(d:D)(G:Gp):Prop:=∃G',Sub G' G∧Q d G'
theorem Fq.of{Q:DK}{d:D}{G:Gp}(h:Q d G):Fq Q d G:=⟨G,Sub.refl G,h⟩
theorem Ea{K:W.Frag}{H:Hp}{N:List Str}{ds:List D}{vs:List V}(r:DVs K H ds vs):RelS K H (Cd N ds) (L2.start N vs):=by
 have hl:=r.length;refine⟨by simp[Cd,L2.start,hl],fun i d e=>?_⟩
 unfold Cd at e;unfold L2.start
 by_cases hi:i<ds.length
 ·rw[List.getElem?_append_left (by simpa using hi),List.getElem?_map] at e
  rw[List.getElem?_append_left (by simpa[←hl] using hi),List.getElem?_map]
  cases q:ds[i]? with
  |none=>rw[q] at e;cases e
  |some d'=>
   rw[q] at e;cases e;obtain⟨v,ev,dv⟩:=r.get q;exact⟨v,by rw[ev];rfl,dv⟩
 ·rw[List.getElem?_append_right (by simpa using hi),List.getElem?_replicate] at e
  split at e<;>cases e
section
variable{P:Program}{w:World}{K:W.Frag}{mg:Str→Option Value}{base:Heap}
theorem okD{x qual:Str}{st:Stmt}{f:Addr}{fd:FuncData}{N ps:List Str}{k:Nat}{sp:DSp}(F:Fun K x qual st f fd)(S:FnScope N ps (Ad st))(len:∀ds G Q E,sp ds G Q E→ds.length=ps.length)(hbody:∀(cdv:Value) (A:Around) (outer:List Env) (s:Shared) (H:Hp) (XE:XK) (ds:List D) (G:Gp) (Q:DK) (E:DX),Room k (A.deeper (envOfC qual (Ad st) s.heap.objs.size f cdv))→sp ds G Q E→
   ∃t,QSs (C6 CX0 P w K mg base N qual (Ad st) f cdv A outer s H XE).nox (Bv st) t∧t { nx:=fun _ G'=>Fq Q .non G',rt:=Fq Q } (Cd N ds) G):FnOk P w K mg base CX0 (k+1) f fd ps (Ak K sp):=by
 refine F.ok S (fun vs H Q E ⟨ds,G,Q',E',dv,rg,h,_⟩=>by rw[←dv.length];exact len ds G Q' E' h) fun cdv A outer s H vs Q E hr ⟨ds,G,Q',E',dv,rg,h,cl,_⟩=>?_
 obtain⟨t,ht,hq⟩:=hbody cdv A outer s H E ds G Q' E' hr h;refine⟨_,ht,Cd N ds,G,_,Ea dv,rg,hq,⟨fun σD G1 ⟨G2,sb,q⟩ H1 x1 rg1 σ rs=>cl _ G2 q H1 x1 (rg1.ext' sb) _ .non,fun d G1 ⟨G2,sb,q⟩ H1 x1 rg1 v dv=>cl _ G2 q H1 x1 (rg1.ext' sb) _ dv,fun _ _ z=>z.elim,fun _ _ z=>z.elim⟩⟩
end
abbrev DRC:=List D→Gp→DK→Prop
def Abk(K:W.Frag)(r:DRC):List V→Hp→VK→Prop:=fun xs H Q=>∃ds G Q',DVs K H ds xs∧RelG K H G∧r ds G Q'∧∀d G',Q' d G'→Fwd K H G' fun H'=>∀v,DV K H' d v→Q v H'
def QC(X:Cx)(f:Value)(r:DRC):Prop:=CallR X f (Abk X.K r)
theorem _root_.L2.CallR.imp{f:Value}{r r':List V→Hp→VK→Prop}(h:CallR X f r)(g:∀xs H Q,r' xs H Q→r xs H Q):CallR X f r':=fun pins s σ H xs us Q I rx q=>h pins s σ H xs us Q I rx (g xs H Q q)
def nCB(r:DRC)(t:DTA):DTE:=fun σ G Q=>t σ G fun vs G1=>r vs G1 Q
theorem Qq{K:W.Frag}{r:DRC}{tA:DTA}{σ:St}{H:Hp}{Q:VK}(h:Ba K (nCB r tA) σ H Q):tCB (Abk K r) (T2 K tA) σ H Q:=by
 obtain⟨σD,G,Q',rs,rg,h,cl⟩:=h;exact⟨σD,G,_,rs,rg,h,fun ds G1 h1 H1 x1 rg1 vs dv=>⟨ds,G1,Q',dv,rg1,h1,fun d G' q=>(cl d G' q).go x1⟩⟩
theorem q_callB{x:Str}{id:String}{r:DRC}{es:List Expr}{p:Pos}{tA:DTA}(hc:QC X (.builtin id) r)(hm:X.mg x=none)(hv:bootBuiltins x=some (.builtin id))(ha:QA X (e::es) tA)(hg:Gl X x:=by rfl)(hn:x≠"__name__":=by decide)(hdb:(x == ("__debug__" : Str))=false:=by decide)(he:starEach (e::es) X.env=(false,eval e X.env)::starEach es X.env:=by rfl)(hpl:(backTo pos (starEach es X.env)).any (·.1)=false:=by rfl):QE X (.Call (.Name x p) (e::es) [] pos) (nCB r tA):=(M8 hc hg hm hv ha hn hdb he hpl).imp fun _ _ _ h=>Qq h
theorem E6{x:Str}{T:String}{r:DRC}{es:List Expr}{p:Pos}{tA:DTA}(hc:QC X (.type T) r)(hm:X.mg x=none)(hv:bootBuiltins x=some (.type T))(ha:QA X (e::es) tA)(hg:Gl X x:=by rfl)(hn:x≠"__name__":=by decide)(hdb:(x == ("__debug__" : Str))=false:=by decide)(he:starEach (e::es) X.env=(false,eval e X.env)::starEach es X.env:=by rfl)(hpl:(backTo pos (starEach es X.env)).any (·.1)=false:=by rfl):QE X (.Call (.Name x p) (e::es) [] pos) (nCB r tA):=(J8 hc hg hm hv ha hn hdb he hpl).imp fun _ _ _ h=>Qq h
theorem c_abs:QC X (.builtin "abs") (fun ds G Q=>∃i,ds=[.int i]∧Q (.int (if i<0 then -i else i)) G):=call_abs.imp fun xs H Q zz=>by
 obtain⟨ds,G,Q',dv,rg,⟨i,e,q⟩,cl⟩:=zz;subst e;obtain⟨v,rfl,r⟩:=dv.one;cases r;exact⟨i,rfl,cl _ G q H (Ext.refl H) rg _ (.int _)⟩
theorem Aet(hc:X.calm=true):QC X (.builtin "max") (fun ds G Q=>∃i j,ds=[.int i,.int j]∧Q (.int (if j>i then j else i)) G):=(S1 hc).imp fun xs H Q zz=>by
 obtain⟨ds,G,Q',dv,rg,⟨i,j,e,q⟩,cl⟩:=zz;subst e;obtain⟨v,w,rfl,r,r'⟩:=dv.two;cases r;cases r';exact⟨i,j,rfl,cl _ G q H (Ext.refl H) rg _ (.int _)⟩
theorem Aer(hc:X.calm=true):QC X (.builtin "min") (fun ds G Q=>∃i j,ds=[.int i,.int j]∧Q (.int (if j<i then j else i)) G):=(Sz hc).imp fun xs H Q zz=>by
 obtain⟨ds,G,Q',dv,rg,⟨i,j,e,q⟩,cl⟩:=zz;subst e;obtain⟨v,w,rfl,r,r'⟩:=dv.two;cases r;cases r';exact⟨i,j,rfl,cl _ G q H (Ext.refl H) rg _ (.int _)⟩
theorem Xt:QC X (.builtin "divmod") (fun ds G Q=>∃i j,ds=[.int i,.int j]∧Tp i j∧Q (.tup [.int (i / j),.int (i % j)]) G):=call_divmod.imp fun xs H Q zz=>by
 obtain⟨ds,G,Q',dv,rg,⟨i,j,e,hc,q⟩,cl⟩:=zz;subst e;obtain⟨v,w,rfl,r,r'⟩:=dv.two;cases r;cases r';refine⟨i,j,rfl,hc,fun p hp=>?_⟩;exact cl _ G q _ (Ext.fresh hp) (rg.tup hp) _ (.tup Af (.cons (.int _) (.cons (.int _) .nil)))
def Ob(G:Gp):D→Option Nat
 |.tup ds=>some ds.length
 |.lint ns=>some ns.length
 |.str y=>if y.length≤sizeLine then some y.length else none
 |.ref a=>match G a with
  |some (.lst ds)=>some ds.length
  |_=>none
 |_=>none
theorem c_len:QC X (.builtin "len") (fun ds G Q=>∃d,ds=[d]∧∃n,Ob G d=some n∧Q (.int (n:Nat)) G):=call_len.imp fun xs H Q zz=>by
 obtain⟨ds,G,Q',dv,rg,⟨d,e,n,en,q⟩,cl⟩:=zz;subst e;obtain⟨v,rfl,r⟩:=dv.one;refine⟨v,n,rfl,?_,cl _ G q H (Ext.refl H) rg _ (.int _)⟩;cases r with
 |tup e r=>cases en;exact .inr ⟨_,.inl (.inl e),r.length⟩
 |@lint ns a e=>cases en;exact .inl ⟨_,e.sq,by simp⟩
 |str y=>
  simp only[Ob] at en
  split at en
  ·rename_i hy;cases en;exact⟨hy,rfl⟩
  ·cases en
 |ref a=>
  simp only[Ob] at en
  split at en
  ·rename_i ds g;cases en;obtain⟨xs,e,r⟩:=rg a _ g;exact .inl ⟨xs,.inl (.inl e),r.length⟩
  ·cases en
 |_=>cases en
theorem Aas:QC X (.type "tuple") (fun ds G Q=>∃d,ds=[d]∧∃es,Ar G d=some es∧Q (.tup es) G):=call_tuple_of.imp fun xs H Q zz=>by
 obtain⟨ds,G,Q',dv,rg,⟨d,e,es,en,q⟩,cl⟩:=zz;subst e;obtain⟨v,rfl,r⟩:=dv.one;cases r with
 |tup e r=>cases en;exact⟨_,_,rfl,.inr ⟨.inl (.inl e),cl _ G q H (Ext.refl H) rg _ (.tup e r)⟩⟩
 |@lint ns a e=>cases en;exact⟨_,_,rfl,.inl ⟨e.sq,fun p hp=>cl _ G q _ (Ext.fresh hp) (rg.tup hp) _ (.tup Af DVs.ints)⟩⟩
 |ref a=>
  simp only[Ar] at en
  split at en
  ·rename_i ds g;cases en;obtain⟨xs,e,r⟩:=rg a _ g;exact⟨a,xs,rfl,.inl ⟨.inl (.inl e),fun p hp=>cl _ G q _ (Ext.fresh hp) (rg.tup hp) _ (.tup Af (r.ext (Ext.fresh hp)))⟩⟩
  ·cases en
 |_=>cases en
def nApp(to:DTE)(ta:DTE):DTE:=fun σ G Q=>to σ G fun x G1=>∃p,x=.ref p∧(∃ds,G1 p=some (.lst ds))∧ta σ G1 fun y G2=>∃ds,G2 p=some (.lst ds)∧ds.length<sizeLine∧Q .non (Ab G2 p (.lst (ds++[y])))
theorem q_app{o:Expr}{to:DTE}{apos cpos:Pos}(ho:QE X o to)(ha:QE X e ta)(hbase:attributeBase o "append" X.env (eval o X.env)=eval o X.env:=by rfl)(hfew:((backTo cpos (starEach [e] X.env)).all (fun x=>!x.1)&&(backToKw cpos (keywordEach [] X.env)).all (fun x=>x.1.isSome)
   && decide (([e]:List Expr).length+([]:List Keyword).length+(if ([]:List Keyword).isEmpty then 0 else 1)<30))=true:=by rfl)(hline:(apos.endLine == cpos.line)=true:=by rfl)(hs:starEach [e] X.env=(false,eval e X.env)::starEach [] X.env:=by rfl)(hplain:(backTo cpos (starEach [] X.env)).any (·.1)=false:=by rfl) :
  QE X (.Call (.Attribute o "append" apos) [e] [] cpos) (nApp to ta):=
 (P0 PySem.F.plainAttrs_list PySem.F.slot_list_append PySem.F.type_list_append Fv ho (Ev ha qa_nil hs) hbase hfew hline hs hplain).imp fun σ H Q zz=>by
 obtain⟨σD,G,Q',rs,rg,h,cl⟩:=zz;refine⟨σD,G,_,rs,rg,h,fun d G1 zz H1 x1 rg1 v dv=>?_⟩;obtain⟨p,ep,⟨ds,eg⟩,h1⟩:=zz;subst ep;cases dv;obtain⟨xs,ex,r⟩:=rg1 p _ eg;refine⟨.inl ⟨rfl,xs,.inl (.inl ex)⟩,σD,G1,fun ds' G2=>∃y,ds'=[y]∧∃ds,G2 p=some (.lst ds)∧ds.length<sizeLine∧Q' .non (Ab G2 p (.lst (ds++[y]))),rs.ext x1,rg1,?_,?_⟩
 ·show ta σD G1 fun x G1=>Ji σD G1 fun xs G2=>_;exact cast (by congr 1;funext y G2;simp[Ji]) h1
 ·rintro ds' G2 ⟨y,rfl,ds2,eg2,hl,q⟩ H2 x2 rg2 vs dvs;obtain⟨v,rfl,dv⟩:=dvs.one;obtain⟨xs2,ex2,r2⟩:=rg2 p _ eg2;exact⟨p,xs2,v,rfl,rfl,ex2,by rw[←r2.length];exact hl,cl _ _ q _ ((x1.trans x2).trans (C3 ex2)) (rg2.lstw ex2 (r2.append (.cons dv .nil))) _ .non⟩
end
theorem Bm{n:Nat}{g:DTG}{tb:DTS}{D:DEnds}{σ:DSt}{G:Gp}(P:Nat→DSt→Gp→Prop)(h0:P 0 σ G)(hs:∀i σ G,i<n→P i σ G→g (.int (i:Nat)) σ G fun σ2 G2=>tb { D with nx:=Fs (P (i+1)),ct:=Fs (P (i+1)),bk:=D.nx } σ2 G2)(hd:∀σ G,P n σ G→D.nx σ G):Ku (Mg n) (fun _=>True) g tb D σ G:=by
 refine⟨P,h0,fun _ _ _ _ _=>trivial,fun i x σ G hx p=>?_,fun σ G p=>hd σ G (by rw[Bq] at p;exact p)⟩
 have hi:i<n:=by
  have:=(List.getElem?_eq_some_iff.mp hx).1
  rw[Bq] at this;exact this
 rw[E3 hi] at hx;cases hx;exact hs i σ G hi p
theorem Y6{X:Cx}{x:Str}{i:Int}{pos:Pos}(hm:∃t,X.mg x=some (.int i t))(hg:Gl X x:=by rfl)(hd:(x == ("__debug__" : Str))=false:=by decide):QE X (.Name x pos) (nC (.int i)):=
 let ⟨_,h⟩:=hm;Acv h hg hd
theorem it0{P:Prop}[Decidable P]{A B:Prop}(h:P)(a:A):if P then A else B:=by rw[if_pos h];exact a
theorem it1{P:Prop}[Decidable P]{A B:Prop}(h:¬P)(b:B):if P then A else B:=by rw[if_neg h];exact b
theorem exI{p:Int→Prop}{j:Int}:(∃i,D.int j=D.int i∧p i)↔p j:=⟨fun⟨i,e,h⟩=>by cases e;exact h,fun h=>⟨j,rfl,h⟩⟩
theorem exB{p:Bool→Prop}{j:Bool}:(∃i,D.bl j=D.bl i∧p i)↔p j:=⟨fun⟨i,e,h⟩=>by cases e;exact h,fun h=>⟨j,rfl,h⟩⟩
theorem exR{p:Addr→Prop}{j:Addr}:(∃i,D.ref j=D.ref i∧p i)↔p j:=⟨fun⟨i,e,h⟩=>by cases e;exact h,fun h=>⟨j,rfl,h⟩⟩
theorem exT{p:List D→Prop}{j:List D}:(∃i,D.tup j=D.tup i∧p i)↔p j:=⟨fun⟨i,e,h⟩=>by cases e;exact h,fun h=>⟨j,rfl,h⟩⟩
theorem exS{α:Type}{p:α→Prop}{j:α}:(∃i,some j=some i∧p i)↔p j:=⟨fun⟨i,e,h⟩=>by cases e;exact h,fun h=>⟨j,rfl,h⟩⟩
theorem exSS{α:Type}{p:α→Prop}{j:α}:(∃i,some (some j)=some (some i)∧p i)↔p j:=⟨fun⟨i,e,h⟩=>by cases e;exact h,fun h=>⟨j,rfl,h⟩⟩
theorem ex1{p:D→Prop}{j:D}:(∃i,[j]=[i]∧p i)↔p j:=⟨fun⟨i,e,h⟩=>by cases e;exact h,fun h=>⟨j,rfl,h⟩⟩
theorem ex1I{p:Int→Prop}{j:Int}:(∃i,[D.int j]=[D.int i]∧p i)↔p j:=⟨fun⟨i,e,h⟩=>by cases e;exact h,fun h=>⟨j,rfl,h⟩⟩
theorem ex2{p:D→D→Prop}{j k:D}:(∃x y,[j,k]=[x,y]∧p x y)↔p j k:=⟨fun⟨_,_,e,h⟩=>by cases e;exact h,fun h=>⟨j,k,rfl,h⟩⟩
theorem ex2I{p:Int→Int→Prop}{j k:Int}:(∃x y,[D.int j,D.int k]=[D.int x,D.int y]∧p x y)↔p j k:=⟨fun⟨_,_,e,h⟩=>by cases e;exact h,fun h=>⟨j,k,rfl,h⟩⟩
theorem A4{ds:List D}{same:Gp→Prop}{g:DTG}{tb:DTS}{D:DEnds}{σ:DSt}{G:Gp}(P:Nat→DSt→Gp→Prop)(h0:P 0 σ G)(hk:∀i σ G,i≤ds.length→P i σ G→same G)(hs:∀i x σ G,ds[i]? = some x→P i σ G→g x σ G fun σ2 G2=>tb { D with nx:=Fs (P (i+1)),ct:=Fs (P (i+1)),bk:=D.nx } σ2 G2)(hd:∀σ G,P ds.length σ G→D.nx σ G):Ku ds same g tb D σ G:=⟨P,h0,hk,hs,hd⟩
theorem exCons{p:D→List D→Prop}{j:D}{r:List D}:(∃x y,j::r=x::y∧p x y)↔p j r:=⟨fun⟨_,_,e,h⟩=>by cases e;exact h,fun h=>⟨j,r,rfl,h⟩⟩
theorem Od{α:Type}{x:α}{r:List α}:atI (x::r) 0=some x:=B4 (j:=0) rfl
theorem Xg{G:Gp}{ds:List D}{i:Int}:Bb G (.tup ds) i=atI ds i:=rfl
theorem Kg{G:Gp}{ns:List Int}{i:Int}:Bb G (.lint ns) i=atI (ns.map D.int) i:=rfl
theorem As{G:Gp}{a:Addr}{ds:List D}{i:Int}(h:G a=some (.lst ds)):Bb G (.ref a) i=atI ds i:=by simp only[Bb,h]
theorem Aae{G:Gp}{ds:List D}:Ob G (.tup ds)=some ds.length:=rfl
theorem Ng{G:Gp}{ns:List Int}:Ob G (.lint ns)=some ns.length:=rfl
theorem Ex{G:Gp}{a:Addr}{ds:List D}(h:G a=some (.lst ds)):Ob G (.ref a)=some ds.length:=by simp only[Ob,h]
theorem Am{G:Gp}{a:Addr}{ds:List D}(h:G a=some (.lst ds)):Ar G (.ref a)=some ds:=by simp only[Ar,h]
theorem Xd{G:Gp}{ds:List D}:Ar G (.tup ds)=some ds:=rfl
theorem ix0{n:Nat}:ixN (n+1) 0=some 0:=by unfold ixN;rw[if_pos (by omega),if_pos (by omega)];rfl
def nIfM(c:DTT)(t u:DTS):DTS:=fun D σ G=>∃M:DSt→Gp→Prop,(c σ G fun b G1=>if b=true then t { D with nx:=Fs M } σ G1 else u { D with nx:=Fs M } σ G1)∧∀σ' G',M σ' G'→D.nx σ' G'
theorem qs_ifM{X:Cx}{c:Expr}{body orelse:List Stmt}{pos:Pos}{tc:DTT}{t u:DTS}(hc:QT X c tc)(ha:QSs X body t)(hb:QSs X orelse u):QS X (.If c body orelse pos) (nIfM tc t u):=(Aa4 hc ha hb).imp fun E σ H zz=>by
 obtain⟨σD,G,D,rs,rg,⟨M,h,hM⟩,cl⟩:=zz;refine⟨σD,G,_,rs,rg,h,fun k G1 h1 H1 x1 rg1=>?_⟩;have cl':DEnds.Reach X.K H1 { D with nx:=Fs M } E:=⟨fun s2 G2 ⟨G3,sb,m⟩ H2 x2 rg2=>(cl.go x1).nx s2 G3 (hM s2 G3 m) H2 x2 (rg2.ext' sb),(cl.go x1).rt,(cl.go x1).bk,(cl.go x1).ct⟩;dsimp only at h1 ⊢;cases k with
 |true=>rw[if_pos rfl] at h1 ⊢;exact⟨σD,G1,_,rs.ext x1,rg1,h1,cl'⟩
 |false=>rw[if_neg Bool.false_ne_true] at h1 ⊢;exact⟨σD,G1,_,rs.ext x1,rg1,h1,cl'⟩
theorem Vd{α:Type}{xs:List α}{k:Nat}{x:α}(h:xs[k]? = some x):atI xs (k:Int)=some x:=B4 h
theorem szl{n:Nat}(h:n≤1000):n≤sizeLine:=Nat.le_of_lt (Bo h)
theorem sz2:2≤sizeLine:=szl (by decide)
theorem Yg{G:Gp}{a p:Addr}{u v:GO}(h:a≠p):Ab (Ab G p u) a v=Ab (Ab G a v) p u:=Rf (Ne.symm h)
theorem Z4{G:Gp}{a p:Addr}{o:GO}(h:Ab G a o p=none):a≠p∧G p=none:=by
 by_cases e:p=a
 ·subst e;rw[Aa] at h;cases h
 ·exact⟨Ne.symm e,by rw[Ag e] at h;exact h⟩
def Oa(T:List Str)(σ:St):St:=List.replicate T.length none++σ

def Hg(ifs:List Expr)(env:Env):Sem Bool:=forIn ifs true fun c r=>if r=true then do let ok ←isTrue c env (eval c env);pure (ForInStep.yield ok) else pure (ForInStep.yield r)
def PF(X:Cx)(ifs:List Expr)(t:TT):Prop:=
 ∀(pins:List (Addr×Obj)) (s:Shared) (σ:St) (H:Hp) (Q:Bool→Hp→Prop),Inv X pins σ H s→t σ H Q→wpAny (model X.prog X.w) X.A (Hg ifs X.env) (TP X pins σ Q) X.xe s
theorem Adb{X:Cx}:PF X [] (fun _ H Q=>Q true H):=fun pins s σ H Q I h=>by
 unfold Hg;rw[List.forIn_nil];exact wpAny_pure ⟨H,I,h⟩
theorem Ada{X:Cx}{c:Expr}{t:TT}(h:PT X c t):PF X [c] t:=fun pins s σ H Q I q=>by
 unfold Hg;rw[List.forIn_cons];refine wpAny_bind ?_;rw[if_pos rfl];refine wpAny_bind (thn (h pins s σ H Q I q) fun b s1 hb=>wpAny_pure ?_);show wpAny _ _ (forIn [] b _) _ _ s1;rw[List.forIn_nil];exact wpAny_pure hb

def Bi(cells:List (Str×Addr)):List (Str×NameKind)→List (Str×Addr)→List (Str×Addr)
 |[],cs=>cs
 |(n,k)::r,cs=>if (k == .free)=true then match cells.lookup n with
   |some c=>Bi cells r ((n,c)::cs)
   |none=>Bi cells r cs
  else Bi cells r cs
theorem Aaq{env:Env}:∀(names:List (Str×NameKind)) (cs:List (Str×Addr)),(names.all fun y=>!(y.2 == .free)||(env.cells.lookup y.1).isSome)=true→
  (forIn names cs fun(x:Str×NameKind) (r:List (Str×Addr))=>(if (x.2 == NameKind.free)=true then do let __do_lift ←cellOf env x.1;pure (ForInStep.yield ((x.1,__do_lift)::r)) else pure (ForInStep.yield r):Sem (ForInStep (List (Str×Addr)))))=pure (Bi env.cells names cs):=by
 intro names
 induction names with
 |nil=>intro cs _;rw[List.forIn_nil];rfl
 |cons y r ih=>
  intro cs h;obtain⟨n,k⟩:=y;rw[List.all_cons,Bool.and_eq_true] at h;rw[List.forIn_cons]
  by_cases hk:(k == NameKind.free)=true
  ·have hs:(env.cells.lookup n).isSome=true:=by
    have h1:=h.1;simp only[hk,Bool.not_true,Bool.false_or] at h1;exact h1
   obtain⟨c,hc⟩:=Option.isSome_iff_exists.mp hs;simp only[hk,if_true,Bi,hc,cellOf];exact ih _ h.2
  ·simp only[hk,Bi];exact ih _ h.2
theorem Ec{cells:List (Str×Addr)}:∀(names:List (Str×NameKind)) (cs:List (Str×Addr)),(∀x c,cs.lookup x=some c→cells.lookup x=some c)→∀x c,(Bi cells names cs).lookup x=some c→cells.lookup x=some c
 |[],cs,h,x,c,e=>h x c e
 |(n,k)::r,cs,h,x,c,e=>by
  unfold Bi at e
  split at e
  ·split at e
   ·rename_i c' hc;refine Ec r _ (fun y d z=>?_) x c e
    by_cases hy:y=n
    ·subst hy;rw[List.lookup_cons_self] at z;cases z;exact hc
    ·rw[List.lookup_cons,beq_false_of_ne hy] at z;exact h y d z
   ·exact Ec r _ h x c e
  ·exact Ec r _ h x c e
theorem F2{cells:List (Str×Addr)}:∀(names:List (Str×NameKind)) (cs:List (Str×Addr)) (x:Str),(names.all fun y=>!(y.2 == .free)||(cells.lookup y.1).isSome)=true→((x,NameKind.free)∈names∨∃c,cs.lookup x=some c)→∃c,(Bi cells names cs).lookup x=some c
 |[],cs,x,_,h=>h.elim (fun z=>nomatch z) id
 |(n,k)::r,cs,x,ha,h=>by
  rw[List.all_cons,Bool.and_eq_true] at ha;unfold Bi
  by_cases hk:(k == NameKind.free)=true
  ·have hs:(cells.lookup n).isSome=true:=by
    have h1:=ha.1;simp only[hk,Bool.not_true,Bool.false_or] at h1;exact h1
   obtain⟨c,hc⟩:=Option.isSome_iff_exists.mp hs;rw[if_pos hk,hc];refine F2 r _ x ha.2 ?_
   by_cases hx:x=n
   ·subst hx;exact .inr ⟨c,List.lookup_cons_self⟩
   ·rcases h with h|⟨d,h⟩
    ·rcases List.mem_cons.mp h with z|z
     ·cases z;exact absurd rfl hx
     ·exact .inl z
    ·exact .inr ⟨d,by rw[List.lookup_cons,beq_false_of_ne hx];exact h⟩
  ·rw[if_neg hk];refine F2 r _ x ha.2 (h.imp (fun z=>?_) id);rcases List.mem_cons.mp z with z|z
   ·cases z;exact absurd rfl hk
   ·exact z
def Fg(P:Gp→Prop)(G:Gp):Prop:=∃G',Sub G' G∧P G'
theorem Fg.of{P:Gp→Prop}{G:Gp}(h:P G):Fg P G:=⟨G,Sub.refl G,h⟩
def P5(n:Nat)(σ σ2:DSt):Prop:=∃pre,pre.length=n∧σ2=pre++σ
def Ef(n:Nat)(p:Addr)(ds:List D)(same:Gp→Prop)(g:DTG)(tf:DTT)(te:DTE)(σ:DSt)(G:Gp)(Q:DK):Prop:=∃P:Nat→List D→Gp→Prop,P 0 [] G∧(∀i ys G,i≤ds.length→P i ys G→same G∧G p=some (.lst ys))∧
 (∀i x ys G,ds[i]? = some x→P i ys G→g x (List.replicate n none++σ) G fun σ2 G2=>P5 n σ σ2∧tf σ2 G2 fun b G3=>if b=true then te σ2 G3 fun y G4=>G4 p=some (.lst ys)∧ys.length<sizeLine∧Fg (P (i+1) (ys++[y])) (Ab G4 p (.lst (ys++[y]))) else Fg (P (i+1) ys) G3)∧
 ∀ys G,P ds.length ys G→Q (.ref p) G
theorem Qj{K:W.Frag}{H:Hp}{σD:DSt}{σ:St}(n:Nat)(r:RelS K H σD σ):RelS K H (List.replicate n none++σD) (List.replicate n none++σ):=by
 refine⟨by simp[r.1],fun i d e=>?_⟩
 by_cases hi:i<n
 ·rw[List.getElem?_append_left (by simpa using hi),List.getElem?_replicate,if_pos hi] at e
  cases e
 ·rw[List.getElem?_append_right (by simpa using hi)] at e ⊢
  simp only[List.length_replicate] at e ⊢;exact r.2 _ d e
section
variable{X:Cx}{elt iter:Expr}{x:Str}{px:Pos}{ifs:List Expr}{scope:Scope}{pos:Pos}{ti te:DTE}{tf:DTT}{T:List Str}
def QF(X:Cx)(ifs:List Expr)(t:DTT):Prop:=PF X ifs (Cw X.K t)
def P1:DTT:=fun _ G Q=>Q true G
theorem Dp:QF X [] P1:=fun pins s σ H Q I ⟨σD,G,Q',rs,rg,h,cl⟩=>Adb pins s σ H Q I (cl _ G h H (Ext.refl H) rg)
theorem Aco{c:Expr}{t:DTT}(h:QT X c t):QF X [c] t:=Ada h
end
def Co(G:Gp):D→Option String
 |.non=>some "NoneType"
 |.bl _=>some "bool"
 |.int _=>some "int"
 |.str _=>some "str"
 |.tup _=>some "tuple"
 |.ref a=>match G a with
  |some (.lst _)=>some "list"
  |some (.dct _)=>some "dict"
  |some (.dkk _)=>some "dict"
  |_=>none
 |_=>none
def pyIs(t c:String):Bool:=t == c||(t == "bool" && c == "int")
def Abm(t c:String):Option Bool:=if (Value.type t == Value.type c)=true then some true else if W.kitMeta c=true then (fastBuiltinMro t).map (·.contains (.type c)) else none
theorem Ad5(K:W.Frag)(t c:String):W.kitOne K (.type t) (.type c)=Abm t c:=rfl
abbrev tNames:List String:=["NoneType", "bool", "int", "str", "tuple", "list", "dict"]
abbrev cNames:List String:=["int", "bool", "tuple", "list", "str", "dict"]
theorem Xh:(tNames.all fun t=>cNames.all fun c=>Abm t c == some (pyIs t c))=true:=by decide +kernel
theorem Ij{G:Gp}{d:D}{t:String}(h:Co G d=some t):t∈tNames:=by
 cases d<;>simp only[Co] at h<;>first
  |(cases h;decide)
  |(split at h<;>first|(cases h;decide)|cases h)
  |cases h
theorem Yj{K:W.Frag}{H:Hp}{G:Gp}{d:D}{v:V}{t:String}(rg:RelG K H G)(h:Co G d=some t)(dv:DV K H d v):TyOf K H v (.type t):=by
 cases dv with
 |non=>cases h;exact .non
 |bl b=>cases h;exact .bl b
 |int i=>cases h;exact .int i
 |str x=>cases h;exact .str x
 |tup e r=>cases h;exact .tup e
 |ty n=>cases h
 |lint e=>cases h
 |ref a=>
  simp only[Co] at h
  split at h
  ·rename_i ds q;cases h;obtain⟨xs,e,_⟩:=rg a _ q;exact .lst e
  ·rename_i ds q;cases h;obtain⟨xs,e,_⟩:=rg a _ q;exact .dT e
  ·rename_i ds q;cases h;obtain⟨xs,e,_⟩:=rg a _ q;exact .dK e
  ·cases h
theorem Aen:("int"∈cNames)=True:=by decide
theorem Aap:("bool"∈cNames)=True:=by decide
theorem Xo:("tuple"∈cNames)=True:=by decide
def Kn(G:Gp)(d:D):Prop:=∃t,Co G d=some t
def KnT(G:Gp):Nat→D→Prop
 |0,d=>Kn G d
 |n+1,d=>Kn G d∧∀ds,d=.tup ds→∀x∈ds,KnT G n x
theorem KnT.kn{G:Gp}:∀{n:Nat} {d:D},KnT G n d→Kn G d
 |0,_,h=>h
 |_+1,_,h=>h.1
theorem Kn.new{G:Gp}{d:D}(h:Kn G d){p:Addr}{o:GO}(hp:G p=none):Kn (Ab G p o) d:=by
 obtain⟨t,h⟩:=h;refine⟨t,?_⟩;cases d<;>first|exact h|skip
 rename_i a;simp only[Co] at h ⊢
 by_cases e:a=p
 ·subst e;rw[hp] at h;cases h
 ·rw[Ag e];exact h
theorem KnT.new{G:Gp}{p:Addr}{o:GO}(hp:G p=none):∀{n:Nat} {d:D},KnT G n d→KnT (Ab G p o) n d
 |0,_,h=>Kn.new h hp
 |_+1,_,h=>⟨Kn.new h.1 hp,fun ds e x hx=>KnT.new hp (h.2 ds e x hx)⟩
theorem Ug{G:Gp}{d:D}(h:Co G d=some "tuple"):∃ds,d=.tup ds:=by
 cases d<;>simp only[Co] at h<;>first|exact⟨_,rfl⟩|(exact absurd (Option.some.inj h) (by decide))|(split at h<;>first|(exact absurd (Option.some.inj h) (by decide))|cases h)|cases h
section
variable{X:Cx}
theorem Xr:QC X (.builtin "isinstance") (fun ds G Q=>∃x c,ds=[x,.ty c]∧c∈cNames∧∃t,Co G x=some t∧Q (.bl (pyIs t c)) G):=by
 rintro pins s σ H xs us Q I r ⟨ds,G,Q',dv,rg,⟨x,c,e,hc,t,ht,q⟩,cl⟩;subst e;obtain⟨v,w,rfl,d1,d2⟩:=dv.two;cases d2;obtain⟨u1,u2,rfl,r1,r2⟩:=Es r;cases r2;have hk:W.kitOne X.K (.type t) (.type c)=some (pyIs t c):=by
  rw[Ad5];have h1:=List.all_eq_true.mp Xh t (Ij ht);have h2:=List.all_eq_true.mp h1 c hc;exact beq_iff_eq.mp h2
 refine Si I r1 (Yj rg ht d1) hk fun tk=>?_;exact⟨.bl (pyIs t c),H,I.tok _,rfl,cl _ G q H (Ext.refl H) rg _ (.bl _)⟩

theorem S2(hc:X.calm=true):CallR X (.builtin "all") (fun xs H Q=>∃(a:Addr) (bs:List Bool),xs=[.ref a]∧SqL X.K H a (bs.map V.bl)∧Q (.bl (bs.all id)) H):=by
 intro pins s σ H xs us Q I r h;obtain⟨a,bs,rfl,hq,q⟩:=h;obtain⟨u,rfl,ru⟩:=By r;cases ru;obtain⟨its,rv,p,hz⟩:=I.list hq;refine call_all_walk ?_;refine wpAny_pyIter_list p.isList ?_;have hlt:a<s.heap.objs.size:=by obtain⟨_,_,e,_⟩:=p;exact Heap.lt_size e
 refine⟨s.heap.objs.size,_,_,_,_,_,fun i=>(bs[i]?).getD true,rfl,Walks.list (A:=X.A.in1) (I.ok.hd hc) _ _ (Nat.ne_of_lt hlt) its.toArray,⟨⟨_,Heap.get?_push_size _ rfl,rfl,rfl⟩,p.isList.push _⟩,?_,?_⟩
 ·intro i v s' Q' E' hP hQ;have hv:its[i]? = some v:=by simpa using hP
  have hb:∃b,bs[i]? = some b∧v=Value.bool b:=by
   have key:∀(bs:List Bool) (its:List Value),Vals (bs.map V.bl) its→∀(i:Nat) (v:Value),its[i]? = some v→∃b,bs[i]? = some b∧v=Value.bool b:=by
    intro bs
    induction bs with
    |nil=>intro its r i v e;cases r;simp at e
    |cons b bs ih=>
     intro its r i v e;rw[List.map_cons] at r;cases r with
     |cons r1 r2=>
      cases i with
      |zero=>simp at e;subst e;cases r1;exact⟨b,rfl,rfl⟩
      |succ i=>simpa using ih _ r2 i v (by simpa using e)
   exact key bs its rv i v hv
  obtain⟨b,eb,rfl⟩:=hb;refine wpAny_truthy_bool ?_
  have:(bs[i]?).getD true=b:=by rw[eb];rfl
  dsimp only at hQ;rw[this] at hQ;exact hQ
 ·intro h' tk hk;have hl:=rv.length;rw[List.length_map] at hl;have e:((List.range its.toArray.size).all fun i=>(bs[i]?).getD true)=bs.all id:=by
   rw[List.size_toArray,←hl,Bool.eq_iff_iff,List.all_eq_true,List.all_eq_true];constructor
   ·intro h b hb;obtain⟨i,hi,e⟩:=List.getElem_of_mem hb
    have:=h i (List.mem_range.mpr hi)
    rw[List.getElem?_eq_getElem hi,e] at this;exact this
   ·intro h i hi;have hi:=List.mem_range.mp hi;rw[List.getElem?_eq_getElem hi];exact h _ (List.getElem_mem hi)
  refine⟨.bl (bs.all id),H,I.kept (t':=tk) fun b o eb=>hk b o (fun z=>?_) (Heap.get?_push_of_some _ eb),by rw[e];rfl,q⟩
  have:b=s.heap.objs.size:=by simpa using z
  subst this;exact absurd (Heap.lt_size eb) (Nat.lt_irrefl _)
theorem Vb{K:W.Frag}{H:Hp}:∀{bs:List Bool} {vs:List V},DVs K H (bs.map D.bl) vs→vs=bs.map V.bl
 |[],_,r=>by cases r;rfl
 |b::bs,_,r=>by
  cases r with
  |cons h t=>cases h;rw[Vb t];rfl
theorem c_all(hc:X.calm=true):QC X (.builtin "all") (fun ds G Q=>∃a,ds=[.ref a]∧∃bs:List Bool,G a=some (.lst (bs.map D.bl))∧Q (.bl (bs.all id)) G):=(S2 hc).imp fun xs H Q zz=>by
 obtain⟨ds,G,Q',dv,rg,⟨a,e,bs,eg,q⟩,cl⟩:=zz;subst e;obtain⟨v,rfl,r⟩:=dv.one;cases r;obtain⟨ys,ey,ry⟩:=rg a _ eg
 have:=Vb ry
 subst this;exact⟨a,bs,rfl,.inl (.inl ey),cl _ G q H (Ext.refl H) rg _ (.bl _)⟩
theorem Ay{n i0:Nat}{p:Addr}{ds:List D}{same:Gp→Prop}{tf:DTT}{te:DTE}{σ:DSt}{G:Gp}{Q:DK}(f:D→D)(c:D→Bool)(hz:ds.length<sizeLine)(hsm:∀ys,same (Ab G p (.lst ys)))(h0:i0<n)(hs:∀x ys,x∈ds→ys.length<sizeLine→∀(R1:D→Gp→Prop) (R2:Gp→Prop),(c x=true→R1 (f x) (Ab G p (.lst (ys++[f x]))))→(c x=false→R2 (Ab G p (.lst ys)))→
   tf ((List.replicate n none++σ).set i0 (some x)) (Ab G p (.lst ys)) fun b G3=>if b=true then te ((List.replicate n none++σ).set i0 (some x)) G3 fun y G4=>G4 p=some (.lst ys)∧ys.length<sizeLine∧Fg (R1 y) (Ab G4 p (.lst (ys++[y]))) else Fg R2 G3)(hq:Q (.ref p) (Ab G p (.lst ((ds.filter c).map f)))):Ef n p ds same (Ga i0) tf te σ (Ab G p (.lst [])) Q:=by
 refine⟨fun i ys G'=>ys=((ds.take i).filter c).map f∧Ab G p (.lst ys)=G',⟨rfl,rfl⟩,?_,?_,?_⟩
 ·rintro i ys _ _ ⟨_,rfl⟩;exact⟨hsm ys,Aa⟩
 ·rintro i x ys _ hx ⟨e,rfl⟩;have hi:=(List.getElem?_eq_some_iff.mp hx).1;have hl:ys.length<sizeLine:=by
   rw[e,List.length_map];refine Nat.lt_of_le_of_lt (List.length_filter_le _ _) ?_;rw[List.length_take];omega
  have tk:ds.take (i+1)=ds.take i++[x]:=by rw[List.take_add_one,hx];rfl
  refine⟨⟨(List.replicate n none).set i0 (some x),by simp,by rw[List.set_append_left _ _ (by simpa using h0)]⟩,?_⟩
  refine hs x ys (List.mem_of_getElem? hx) hl (fun y G'=>ys++[y]=((ds.take (i+1)).filter c).map f∧Ab G p (.lst (ys++[y]))=G') (fun G'=>ys=((ds.take (i+1)).filter c).map f∧Ab G p (.lst ys)=G') (fun hc=>⟨?_,rfl⟩) (fun hc=>⟨?_,rfl⟩)
  ·rw[tk,List.filter_append,List.map_append,←e];simp[hc]
  ·rw[tk,List.filter_append,List.map_append,←e];simp[hc]
 ·rintro ys _ ⟨e,rfl⟩;rw[List.take_length] at e;rw[e];exact hq
end
mutual
inductive RepD (G:Gp):D→PyData→Prop where
 |non:RepD G .non .none
 |bl (b:Bool):RepD G (.bl b) (.bool b)
 |int (i:Int):RepD G (.int i) (.int i)
 |str (x:Str):RepD G (.str x) (.str x)
 |tup {ds:List D} {ps:List PyData} (r:RepDs G ds ps):RepD G (.tup ds) (.tuple ps)
 |lst {a:Addr} {ds:List D} {ps:List PyData} (e:G a=some (.lst ds)) (r:RepDs G ds ps):RepD G (.ref a) (.list ps)
 |dct0 {a:Addr} (e:G a=some (.dkk [])):RepD G (.ref a) (.dict [])
inductive RepDs (G:Gp):List D→List PyData→Prop where
 |nil:RepDs G [] []
 |cons {d:D} {p:PyData} {ds:List D} {ps:List PyData} (h:RepD G d p) (t:RepDs G ds ps):RepDs G (d::ds) (p::ps)
end
section
variable{P:Program}{w:World}{K:W.Frag}{H:Hp}{G:Gp}{h:Heap}
mutual
theorem C7(rg:RelG K H G)(ok:HOk P w H h):∀{d:D} {p:PyData} {v:V} {u:Value},RepD G d p→DV K H d v→RelV v u→∃as,Reads h u p as∧∀b∈as,H b≠none
 |_,_,_,_,.non,dv,r=>by cases dv;cases r;exact⟨_,.none,by simp⟩
 |_,_,_,_,.bl b,dv,r=>by cases dv;cases r;exact⟨_,.bool b,by simp⟩
 |_,_,_,_,.int i,dv,r=>by cases dv;obtain⟨t,rfl⟩:=r;exact⟨_,.int i t,by simp⟩
 |_,_,_,_,.str x,dv,r=>by cases dv;obtain⟨t,rfl⟩:=r;exact⟨_,.str x t,by simp⟩
 |_,_,_,_,.tup rs,dv,r=>by
  cases dv with
  |@tup _ a xs e ds=>
   cases r;obtain⟨_,its,rv,o,h1,h2,n,h3⟩:=(show ObjOk P w H h a (.tup xs) from ok a _ e);obtain⟨as,ra,hb⟩:=Dt rg ok rs ds rv;exact⟨_,.tuple h1 h2 h3 (by simpa using ra),hb⟩
 |_,_,_,_,@RepD.lst _ a _ _ e rs,dv,r=>by
  cases dv with
  |ref=>
   cases r;obtain⟨xs,ex,ds⟩:=rg _ _ e;obtain⟨_,its,n,rv,h1⟩:=(show ObjOk P w H h a (.lst xs) from ok a _ ex);obtain⟨as,ra,hb⟩:=Dt rg ok rs ds rv;refine⟨_,.list h1 rfl rfl (by simpa using ra),fun b hm=>?_⟩
   rcases List.mem_cons.mp hm with z|z
   ·subst z;rw[ex];simp
   ·exact hb b z
 |_,_,_,_,@RepD.dct0 _ a e,dv,r=>by
  cases dv with
  |ref=>
   cases r;obtain⟨ks,ex,ds⟩:=rg _ _ e;cases ds;obtain⟨_,_,vs,rv,o,es,ep,h1,h2,h3,_,h4,_⟩:=(show ObjOk P w H h a (.dK []) from ok a _ ex);cases rv;have he:es.toList=[]:=by
    revert h4
    cases es.toList with
    |nil=>intro _;rfl
    |cons x r=>intro h4;exact absurd h4 (by intro z;cases z)
   refine⟨_,.dict (kvs:=[]) h1 h2.1 h3 (by rw[he];exact .nil) (by rw[he];exact .nil),fun b hm=>?_⟩
   have:b=a:=by simpa using hm
   subst this;rw[ex];simp
theorem Dt(rg:RelG K H G)(ok:HOk P w H h):∀{ds:List D} {ps:List PyData} {vs:List V} {us:List Value},RepDs G ds ps→DVs K H ds vs→Vals vs us→∃as,ReadsAll h us ps as∧∀b∈as,H b≠none
 |_,_,_,_,.nil,dv,r=>by cases dv;cases r;exact⟨_,.nil,by simp⟩
 |_,_,_,_,.cons hd tl,dv,r=>by
  cases dv with
  |cons d1 d2=>
   cases r with
   |cons r1 r2=>
    obtain⟨as,a,ha⟩:=C7 rg ok hd d1 r1;obtain⟨bs,b,hb⟩:=Dt rg ok tl d2 r2;exact⟨_,.cons a b,fun x hx=>(List.mem_append.mp hx).elim (ha x) (hb x)⟩
end
end
theorem Ld{X:Cx}{pins:List (Addr×Obj)}{σ:St}{H:Hp}{s:Shared}(I:Inv X pins σ H s):H sysModules=none:=by
 obtain⟨mm,o,es,ep,e,_⟩:=I.mod.sm;exact(I.bs _ _ e).2
section
variable{X:Cx}{k:Nat}
def dEqD:DR2:=fun x y G Q=>∃p q,RepD G x p∧RepD G y q∧p.canLay0=true∧q.canLay0=true∧min p.depth q.depth≤100∧Q (.bl (PyData.eqv p q)) G
def dNeD:DR2:=fun x y G Q=>∃p q,RepD G x p∧RepD G y q∧p.canLay0=true∧q.canLay0=true∧min p.depth q.depth≤100∧Q (.bl (!PyData.eqv p q)) G
theorem Gq{A:Around}(hr:Room k A){n:Nat}(h:n≤100):A.units+n<cLine:=by have:=hr.un;omega
theorem o_eqD(hr:Room k X.A):QOp X (compareOp .Eq) dEqD:=by
 rintro pins s σ H x y v u Q I rx ry ⟨dx,dy,G,Q',hx,hy,rg,⟨p,q,rp,rq,c1,c2,hd,h⟩,cl⟩;obtain⟨as,ra,hfa⟩:=C7 rg I.hok rp hx rx;obtain⟨bs,rb,hfb⟩:=C7 rg I.hok rq hy ry;exact SeqAt.compareEq_reads ra rb c1 c2 (Gq hr hd) ⟨.bl _,H,I,rfl,cl _ G h H (Ext.refl H) rg _ (.bl _)⟩
theorem o_neD(hr:Room k X.A):QOp X (compareOp .NotEq) dNeD:=by
 rintro pins s σ H x y v u Q I rx ry ⟨dx,dy,G,Q',hx,hy,rg,⟨p,q,rp,rq,c1,c2,hd,h⟩,cl⟩;obtain⟨as,ra,hfa⟩:=C7 rg I.hok rp hx rx;obtain⟨bs,rb,hfb⟩:=C7 rg I.hok rq hy ry;exact SeqAt.compareNe_reads ra rb c1 c2 (Gq hr hd) ⟨.bl _,H,I,rfl,cl _ G h H (Ext.refl H) rg _ (.bl _)⟩
theorem c_repr(hr:Room k X.A):QC X (.builtin "repr") (fun ds G Q=>∃d,ds=[d]∧∃p,RepD G d p∧p.showable=true∧p.shown.length≤sizeLine∧p.depth≤99∧Q (.str p.shown) G):=by
 rintro pins s σ H xs us Q I r ⟨ds,G,Q',dv,rg,⟨d,e,p,rp,h1,h2,h3,q⟩,cl⟩;subst e;obtain⟨v,rfl,d1⟩:=dv.one;obtain⟨u,rfl,r1⟩:=By r;have fin:∀(h':Heap) (tk:Nat) (t:Tok),(∀b o,s.heap.get? b=some o→h'.get? b=some o)→EP X pins σ Q (.str p.shown t) { s with heap:=h',toks:=tk }:=fun h' tk t kp=>
  ⟨.str p.shown,H,I.kept kp,⟨t,rfl⟩,cl _ G q H (Ext.refl H) rg _ (.str _)⟩
 obtain⟨as,ra,hfa⟩:=C7 rg I.hok rp d1 r1;cases ra with
 |none=>exact PySem.P.repr_of_none (fin s.heap _ _ fun _ _ e=>e)
 |bool b=>exact PySem.P.repr_of_bool (fin s.heap _ _ fun _ _ e=>e)
 |int i t=>exact PySem.P.repr_of_int (of_decide_eq_true h1) (fin s.heap _ _ fun _ _ e=>e)
 |str x t=>exact PySem.P.repr_of_str (fin s.heap _ _ fun _ _ e=>e) h2
 |list a1 a2 a3 a4=>exact repr_of_reads' (.list a1 a2 a3 a4) h1 (fun _ z=>hfa _ z (Ld I)) hr.gd (by have:=hr.un;omega) (fun _ _ e=>e) (fun h' u tk kp=>fin h' tk u kp) h2
 |tuple a1 a2 a3 a4=>exact repr_of_reads' (.tuple a1 a2 a3 a4) h1 (fun _ z=>hfa _ z (Ld I)) hr.gd (by have:=hr.un;omega) (fun _ _ e=>e) (fun h' u tk kp=>fin h' tk u kp) h2
 |dict a1 a2 a3 a4 a5=>exact repr_of_reads' (.dict a1 a2 a3 a4 a5) h1 (fun _ z=>hfa _ z (Ld I)) hr.gd (by have:=hr.un;omega) (fun _ _ e=>e) (fun h' u tk kp=>fin h' tk u kp) h2

end
section
variable{prog:Program}{w:World}{A:Around}{E:Value→Shared→Prop}{s:Shared}
theorem Ff{t sl:Addr}{items:Array Value}{vl vu:Value}{lo hi:Option Int}{Q:Value→Shared→Prop}(ht:IsTup s.heap t items)(hs:s.heap.IsSliceOf sl vl vu .none)(pl:IsPart vl lo)(pu:IsPart vu hi)(hw:HT.sIx items.size 0 lo=0∧HT.sIx items.size items.size hi=items.size)(h:Q (.ref t) s):wpAny (model prog w) A (getItem (.ref t) (.ref sl)) Q E s:=by
 obtain⟨os,hos,hcs,hds⟩:=id hs;have hTs:s.TypeIs (.ref sl) "slice":=⟨os,hos,hcs⟩;unfold getItem
 try with_reducible refine wpAny_holding ?_
 first|refine wpAny_bind (wpAny_pure ?_)|skip
 refine wpAny_bind (wpAny_sequenceKey ht.typeIs (by decide) ?_)
 refine wpAny_bind (wpAny_callSpecial?_slot (name:=Str.ofString "__getitem__") ht.typeIs PyProof.Rows.slot_tuple_getitem
  (wpAny_call_entry PyProof.Rows.slot_tuple_getitem ht.typeIs entry_tuple_getitem ?_ (args_tuple_getitem _ _)))
 show wpAny _ _ (Builtin.Tuple.tupleItemsOf (.ref t) >>= _) _ _ s;refine wpAny_bind (tupleItemsOf_ ht ?_);refine wpAny_bind (wpAny_typeOf hTs ?_);rw[if_pos (by decide)]
 refine wpAny_bind (HT.sliceApplied_gen hs pl pu ?_);show wpAny _ _ (if (((HT.sIx items.size 0 lo:Nat):Int) == 0&&(1:Int) == 1&&(HT.sIx items.size items.size hi-HT.sIx items.size 0 lo) == items.size)=true then _ else _) _ _ s;rw[if_pos (by rw[hw.1,hw.2];simp)]
 refine wpAny_bind ?_;unfold Builtin.Tuple.tupleIsExact;refine wpAny_bind (wpAny_typeOf ht.typeIs (wpAny_pure ?_));rw[if_pos (by decide)]
 refine wpAny_bind (wpAny_rule ?_);exact wpAny_pure ⟨_,rfl,wpAny_pure h⟩
end
section
variable{X:Cx}{a b c e:Expr}{ta tb tc te:DTE}{pos p2:Pos}{lo hi:Option Expr}
def Cc(xs:List D)(lo hi:Option Int):List D:=(xs.drop (HT.sIx xs.length 0 lo)).take (HT.sIx xs.length xs.length hi-HT.sIx xs.length 0 lo)
theorem Va{K:W.Frag}{H:Hp}{ds:List D}{vs:List V}(r:DVs K H ds vs)(lo hi:Option Int):DVs K H (Cc ds lo hi) (Mh vs lo hi):=by
 unfold Cc Mh;rw[r.length];exact(r.drop _).take _
theorem Sn{ds:List D}{lo hi:Option Int}(h:HT.sIx ds.length 0 lo=0∧HT.sIx ds.length ds.length hi=ds.length):Cc ds lo hi=ds:=by
 unfold Cc;rw[h.1,h.2];simp
abbrev DTO:=DSt→Gp→(Option Int→Gp→Prop)→Prop
def liftO(K:W.Frag)(t:DTO):TO:=fun σ H Q=>∃σD G Q',RelS K H σD σ∧RelG K H G∧t σD G Q'∧∀o G',Q' o G'→Fwd K H G' fun H'=>Q o H'
def QO(X:Cx)(e:Option Expr)(t:DTO):Prop:=PO X e (liftO X.K t)
def Ql:DTO:=fun _ G Q=>Q none G
def Aa8(t:DTE):DTO:=fun σ G Q=>t σ G fun x G1=>∃i,x=.int i∧Q (some i) G1
theorem _root_.L2.PO.imp{X:Cx}{e:Option Expr}{t t':TO}(h:PO X e t)(f:∀σ H Q,t' σ H Q→t σ H Q):PO X e t':=fun pins s σ H Q I q=>h pins s σ H Q I (f σ H Q q)
theorem qo_none:QO X none Ql:=po_none.imp fun σ H Q ⟨σD,G,Q',rs,rg,h,cl⟩=>cl _ G h H (Ext.refl H) rg
theorem qo_some(h:QE X e te):QO X (some e) (Aa8 te):=(Zf h).imp fun σ H Q zz=>by
 obtain⟨σD,G,Q',rs,rg,h,cl⟩:=zz;refine⟨σD,G,_,rs,rg,h,fun d G1 zz H1 x1 rg1 v dv=>?_⟩;obtain⟨i,ei,h1⟩:=zz;subst ei;cases dv;exact⟨i,rfl,cl _ G1 h1 H1 x1 rg1⟩
def Fl(G:Gp)(x:D)(lo hi:Option Int)(Q:DK):Prop:=match x with
 |.tup ds=>Q (.tup (Cc ds lo hi)) G
 |.ref a=>match G a with
  |some (.lst ds)=>∀p,G p=none→Q (.ref p) (Ab G p (.lst (Cc ds lo hi)))
  |_=>False
 |_=>False
def rSl(K:W.Frag):V→Option Int→Option Int→Hp→VK→Prop:=fun x lo hi H Q=>∃d G Q',DV K H d x∧RelG K H G∧Fl G d lo hi Q'∧∀d G',Q' d G'→Fwd K H G' fun H'=>∀v,DV K H' d v→Q v H'
theorem Ab7:SlR X (rSl X.K):=by
 rintro pins s σ H x v vl vu lo hi sl Q I rx hs pl pu ⟨d,G,Q',dv,rg,h,cl⟩;cases dv with
 |@tup ds a xs e r=>
  have h:Q' (.tup (Cc ds lo hi)) G:=h
  by_cases hw:HT.sIx xs.length 0 lo=0∧HT.sIx xs.length xs.length hi=xs.length
  ·cases rx;obtain⟨its,rv,ht,hz⟩:=I.tuple (.inl (.inl e));have hlen:its.toArray.size=xs.length:=by rw[List.size_toArray];exact rv.length.symm
   refine⟨"tuple",_,PyProof.Rows.slot_tuple_getitem.lookup,ht.typeIs,Ff ht hs pl pu (by rw[hlen];exact hw) ⟨.ref a,H,I,rfl,?_⟩⟩
   rw[Sn (by rw[r.length];exact hw)] at h
   exact cl _ G h H (Ext.refl H) rg _ (.tup e r)
  ·exact Ab6 pins s σ H _ v vl vu lo hi sl Q I rx hs pl pu ⟨a,xs,rfl,.inl (.inl e),hw,fun p hp=>cl _ G h _ (Ext.fresh hp) (rg.tup hp) _ (.tup Af ((Va r lo hi).ext (Ext.fresh hp)))⟩
 |ref a=>
  simp only[Fl] at h
  split at h
  ·rename_i ds g;obtain⟨xs,e,r⟩:=rg a _ g;exact Yo pins s σ H _ v vl vu lo hi sl Q I rx hs pl pu ⟨a,xs,rfl,.inl (.inl e),fun p hp=>cl _ _ (h p (rg.free hp)) _ (Ext.fresh hp) (rg.lst hp (Va r lo hi)) _ (.ref p)⟩
  ·exact h.elim
 |_=>exact h.elim
def nSl(te:DTE)(tl th:DTO):DTE:=fun σ G Q=>te σ G fun x G1=>tl σ G1 fun l G2=>th σ G2 fun u G3=>Fl G3 x l u Q
theorem Ll{tl th:DTO}(he:QE X e te)(hl:QO X lo tl)(hu:QO X hi th):QE X (.Subscript e (.Slice lo hi none p2) pos) (nSl te tl th):=(Wd Ab7 he hl hu).imp fun σ H Q zz=>by
 obtain⟨σD,G,Q',rs,rg,h,cl⟩:=zz;refine⟨σD,G,_,rs,rg,h,fun x G1 h1 H1 x1 rg1 v1 d1=>?_⟩;refine⟨σD,G1,_,rs.ext x1,rg1,h1,fun l G2 h2 H2 x2 rg2=>?_⟩;refine⟨σD,G2,_,rs.ext (x1.trans x2),rg2,h2,fun u G3 h3 H3 x3 rg3=>?_⟩;exact⟨x,G3,Q',d1.ext (x2.trans x3),rg3,h3,fun d G' q=>(cl d G' q).go (x1.trans (x2.trans x3))⟩

theorem Xq{prog:Program}{w:World}{A:Around}{E:Value→Shared→Prop}{s:Shared}{t b:Addr}{ws:List Value}{Q:Value→Shared→Prop}(ht:IsTup s.heap t #[])(hb:IsTup s.heap b ws.toArray)(h1:Q (.ref b) s) :
  wpAny (model prog w) A (binaryOp .Add (.ref t) (.ref b)) Q E s:=by
 obtain⟨⟨cls,dd,data,sl⟩,ho,hc,n,hd⟩:=id ht;obtain⟨⟨cls2,dd2,data2,sl2⟩,ho2,hc2,n2,hd2⟩:=id hb;simp only at hc hd hc2 hd2;subst hc hd hc2 hd2;exact concat_meets ⟨_,ho,rfl⟩ ⟨_,ho2,rfl⟩ noFill_tuple_add seq_tuple_add PySem.F.slot_tuple_add PySem.F.entry_tuple_add (PySem.F.args_tuple_add_2 _ _)
   (tuple_addW0 t b #[] ws.toArray n n2 dd dd2 sl sl2 rfl) ⟨ho,ho2,h1⟩
def Oe:DR2:=fun x y G Q=>match x,y with
 |.int i,.int j=>Q (.int (i+j)) G
 |.tup xs,.tup ys=>xs.length+ys.length≤sizeLine∧Q (.tup (xs++ys)) G
 |.ref a,.ref b=>match G a,G b with
  |some (.lst xs),some (.lst ys)=>xs.length+ys.length≤sizeLine∧∀p,G p=none→Q (.ref p) (Ab G p (.lst (xs++ys)))
  |_,_=>False
 |_,_=>False
theorem K6:QOp X (binaryOp .Add) Oe:=by
 rintro pins s σ H x y v u Q I rx ry ⟨dx,dy,G,Q',hx,hy,rg,h,cl⟩;cases hx with
 |int i=>
  cases hy with
  |int j=>exact Adq pins s σ H _ _ v u Q I rx ry ⟨i,j,rfl,rfl,cl _ G h H (Ext.refl H) rg _ (.int _)⟩
  |_=>exact h.elim
 |@tup xs a vs ea ra=>
  cases hy with
  |@tup ys b ws eb rb=>
   obtain⟨hl,h⟩:=h
   by_cases hne:vs=[]
   ·subst hne;cases ra;cases rx;cases ry;obtain⟨its,r1,p1,_⟩:=I.tuple (.inl (.inl ea));obtain⟨its2,r2,p2,_⟩:=I.tuple (.inl (.inl eb));cases r1;exact Xq p1 p2 ⟨.ref b,H,I,rfl,cl _ G h H (Ext.refl H) rg _ (.tup eb rb)⟩
   ·refine Zq pins s σ H _ _ v u Q I rx ry ⟨a,b,vs,ws,rfl,rfl,.inl (.inl ea),.inl (.inl eb),hne,by rw[←ra.length,←rb.length];exact hl,?_,fun _ p hp=>cl _ G h _ (Ext.fresh hp) (rg.tup hp) _ (.tup Af ((ra.append rb).ext (Ext.fresh hp)))⟩
    intro z;subst z;cases rb;rw[List.append_nil] at h;exact cl _ G h H (Ext.refl H) rg _ (.tup ea ra)
  |_=>exact h.elim
 |ref a=>
  cases hy with
  |ref b=>
   simp only[Oe] at h
   split at h
   ·rename_i xs ys ga gb;obtain⟨hl,h⟩:=h;obtain⟨vs,ea,ra⟩:=rg a _ ga;obtain⟨ws,eb,rb⟩:=rg b _ gb;exact Adp pins s σ H _ _ v u Q I rx ry ⟨a,b,vs,ws,rfl,rfl,ea,eb,by rw[←ra.length,←rb.length];exact hl,fun p hp=>cl _ _ (h p (rg.free hp)) _ (Ext.fresh hp) (rg.lst hp (ra.append rb)) _ (.ref p)⟩
   ·exact h.elim
  |_=>exact h.elim
 |_=>exact h.elim
theorem Hj{i j:Int}{G:Gp}{Q:DK}:Oe (.int i) (.int j) G Q=Q (.int (i+j)) G:=rfl
theorem Aey{i j:List D}{G:Gp}{Q:DK}:Oe (.tup i) (.tup j) G Q=(i.length+j.length≤sizeLine∧Q (.tup (i++j)) G):=rfl
theorem Dy{G:Gp}{ds:List D}{lo hi:Option Int}{Q:DK}:Fl G (.tup ds) lo hi Q=Q (.tup (Cc ds lo hi)) G:=rfl
def Abh:DTE:=fun _ G Q=>∀p,G p=none→Q (.ref p) (Ab G p (.dkk []))
theorem RelG.new{K:W.Frag}{H:Hp}{G:Gp}(r:RelG K H G){p:Addr}{u:HO}{o:GO}(h:H p=none)(n:GOk K (upd H p u) p o):RelG K (upd H p u) (Ab G p o):=fun a q e=>by
 by_cases z:a=p
 ·subst z;rw[Aa] at e;cases e;exact n
 ·rw[Ag z] at e;exact(r a q e).upd (Ext.fresh h) (.inr z)
theorem Acx:QE X (.Dict [] [] pos) Abh:=pe_dnewK.imp fun σ H Q ⟨σD,G,Q',rs,rg,h,cl⟩=>fun p hp=>
 cl _ _ (h p (rg.free hp)) _ (Ext.fresh hp) (rg.new hp ⟨[],Af,.nil⟩) _ (.ref p)
end
structure Src where
 it:Addr
 l:Addr
 tp:Bool
def Src.At(h:Heap)(c:Src)(i:Nat):Prop:=if c.tp=true then h.IsTupleIter c.it c.l i else h.IsListIter c.it c.l i
def Src.Sq(h:Heap)(c:Src)(xs:Array Value):Prop:=if c.tp=true then h.IsTuple c.l xs else h.IsList c.l xs
theorem Src.At.keep{h h':Heap}{c:Src}{i:Nat}(x:c.At h i)(k:∀o,h.get? c.it=some o→h'.get? c.it=some o):c.At h' i:=by
 unfold Src.At at x ⊢
 split at x
 ·rename_i e;rw[if_pos e];exact x.at k
 ·rename_i e;rw[if_neg e];exact x.at k
theorem Src.Sq.keep{h h':Heap}{c:Src}{xs:Array Value}(x:c.Sq h xs)(k:∀o,h.get? c.l=some o→h'.get? c.l=some o):c.Sq h' xs:=by
 unfold Src.Sq at x ⊢
 split at x
 ·rename_i e;rw[if_pos e];exact x.at k
 ·rename_i e;rw[if_neg e];exact x.at k
theorem Src.At.obj{h:Heap}{c:Src}{i:Nat}(x:c.At h i):∃o,h.get? c.it=some o∧∀v,o.data≠.cell v:=by
 unfold Src.At at x
 split at x
 ·obtain⟨o,e,_,d⟩:=x;exact⟨o,e,fun v z=>by rw[d] at z;cases z⟩
 ·obtain⟨o,e,_,d⟩:=x;exact⟨o,e,fun v z=>by rw[d] at z;cases z⟩
section
variable{prog:Program}{w:World}{A:Around}{E:Value→Shared→Prop}{s:Shared}
theorem Ip{p q:Addr}{n:Nat}{vals:Array Value}{R:Value→Shared→Prop}(calm:A.handled=none)(at_:s.heap.IsTupleIter p q n)(tp:s.heap.IsTuple q vals)(more:∀v,vals[n]? = some v→∀g,g.IsTupleIter p q (n+1)→Heap.SameBut p s.heap g→R v { s with heap:=g })(last:vals[n]? = none→∀g x,Heap.ExtBut p s.heap g→(∃ob,g.get? x=some ob∧ob.cls=.type "StopIteration")→E (.ref x) { s with heap:=g }):wpAny (model prog w) A (Builtin.SmallTypes.nextOf (.ref p)) R E s:=by
 obtain⟨ob,eo,co,fo⟩:=id at_;obtain⟨ot,et,_,m,ft⟩:=tp;unfold Builtin.SmallTypes.nextOf;refine wpAny_bind (wpAny_callSpecial?_slot (name:=Str.ofString "__next__") at_.typeIs F.slot_tuple_iterator_next (wpAny_call_entry F.slot_tuple_iterator_next at_.typeIs F.entry_tuple_iterator_next ?_ (F.args_tuple_iterator_next_1 _)));show wpAny _ _ (field (.ref p) 0 >>= _) _ _ s;refine wpAny_bind (wpAny_field eo fo (x:=.ref q) rfl ?_);show wpAny _ _ (if (Value.ref q == Value.none)=true then _ else _) _ _ s;rw[if_neg (by intro z;cases z)]
 show wpAny _ _ (field (.ref p) 1 >>= _) _ _ s;refine wpAny_bind (wpAny_field eo fo (x:=.int n 0) rfl ?_);show wpAny _ _ (seqItems? (.ref q) >>= _) _ _ s;refine wpAny_bind (wpAny_seqItems et ft ?_);simp only[Int.toNat_natCast];cases hv:vals[n]? with
 |some v=>
  refine wpAny_bind (wpAny_setField eo fo (by simp) (wpAny_pure ⟨v,rfl,wpAny_pure (more v hv _ ⟨_,Heap.get?_update_self _ eo (Obj.isFreed_of_fields (Obj.data_mapFields fo _)),(Obj.cls_mapFields ..).trans co,?_⟩ (Heap.SameBut.update ..))⟩))
  rw[Obj.data_mapFields fo];simp[rawInt]
 |none=>
  refine wpAny_bind (wpAny_rule (wpAny_bind (wpAny_setField eo fo (by simp) (show wpAny _ _ (newExc (.type "StopIteration") [] >>= _) _ _ _ from wpAny_bind ?_))))
  simp only[newExc,newTuple];refine wpAny_bind (wpAny_newObj_type (wpAny_bind (m:=firstArgMember _ _) (wpAny_of_eq (a:=Value.none) (by first|rfl|(simp only[firstArgMember];rfl)) (wpAny_newObj_type ?_ (by size_fits)))) (by size_fits))
  simp only[raiseNew];refine wpAny_bind (wpAny_handled ?_);first|rw[show A.in1.handled=none from calm]|rw[calm]
  exact wpAny_bind (wpAny_pure (wpAny_throw (last hv _ _ (((Heap.SameBut.update ..).extBut.push _).push _) ⟨_,Heap.get?_push_size _ rfl,rfl⟩)))
theorem Vo{c:Src}{i:Nat}{xs:Array Value}{x:Value}{Q:Value→Shared→Prop}(hh:A.handled=none)(hit:c.At s.heap i)(ht:c.Sq s.heap xs)(hx:xs[i]? = some x)(hQ:∀h',c.At h' (i+1)→Heap.SameBut c.it s.heap h'→Q x { s with heap:=h' }):wpAny (model prog w) A (Builtin.SmallTypes.nextOf (.ref c.it)) Q E s:=by
 unfold Src.At at hit hQ;unfold Src.Sq at ht
 by_cases e:c.tp=true
 ·rw[if_pos e] at hit ht;exact Ip hh hit ht (fun v ev h' a b=>by rw[hx] at ev;cases ev;exact hQ h' (by rw[if_pos e];exact a) b) (fun z=>by rw[hx] at z;cases z)
 ·rw[if_neg e] at hit ht;exact wpAny_nextOf_list_item hit ht hx fun h' a=>hQ h' (by rw[if_neg e];exact a)
theorem Yn{c:Src}{i:Nat}{xs:Array Value}{Q:Value→Shared→Prop}(hh:A.handled=none)(hit:c.At s.heap i)(ht:c.Sq s.heap xs)(hx:xs[i]? = none)(hE:∀h' e,Heap.ExtBut c.it s.heap h'→(∃o,h'.get? e=some o∧o.cls=.type "StopIteration")→E (.ref e) { s with heap:=h' }):wpAny (model prog w) A (Builtin.SmallTypes.nextOf (.ref c.it)) Q E s:=by
 unfold Src.At at hit;unfold Src.Sq at ht
 by_cases e:c.tp=true
 ·rw[if_pos e] at hit ht;exact Ip hh hit ht (fun v ev=>by rw[hx] at ev;cases ev) (fun _=>hE)
 ·rw[if_neg e] at hit ht;exact wpAny_nextOf_list_end hh hit ht hx hE
theorem Mt{M:Model}{α β:Type}{f:α→β→Sem (ForInStep β)}{Q:β→Shared→Prop}(I:List α→β→Shared→Prop)(step:∀x r b s,I (x::r) b s→wpAny M A (f x b) (fun y s'=>match y with|.yield b'=>I r b' s'|.done b'=>Q b' s') E s)(fin:∀b s,I [] b s→Q b s) :
  ∀(l:List α) (b:β) (s:Shared),I l b s→wpAny M A (forIn l b f) Q E s
 |[],b,s,h=>by rw[List.forIn_nil];exact wpAny_pure (fin b s h)
 |x::r,b,s,h=>by
  rw[List.forIn_cons];refine wpAny_bind (wpAny_mono (step x r b s h) (fun y s' h'=>?_) fun _ _ z=>z);cases y with
  |yield b'=>exact Mt I step fin r b' s' h'
  |done b'=>exact wpAny_pure h'
abbrev Dm(h:Heap)(T:Addr)(vs:List Value):Prop:=h.get? T=some { cls:=.type "tuple",data:=.seq vs.toArray }
abbrev zfp(z TO:Addr)(cs:List Src):List Addr:=z::TO::cs.map (·.it)
structure ZApart(z TI TO:Addr)(cs:List Src):Prop where
 nd:(z::TO::cs.map (·.it)).Nodup
 ti:TI ∉ zfp z TO cs
 ls:∀c∈cs,c.l ∉ zfp z TO cs
theorem Ve{z TI TO:Addr}{cs:List Src}{i:Nat}{old:List Value}{X:Src→Array Value}{Q:Value→Shared→Prop}(hh:A.handled=none)(hne:cs≠[])(hs16:cs.length≤16)(D:ZApart z TI TO cs)(hz:IsZip s.heap z TI TO .none)(hTI:Dm s.heap TI (cs.map fun c=>.ref c.it))(hTO:Dm s.heap TO old)(hol:old.length=cs.length)(hA:∀c∈cs,c.At s.heap i)(hX:∀c∈cs,c.Sq s.heap (X c))(hQ:(∀c∈cs,i<(X c).size)→∀h',IsZip h' z TI TO (rawInt s.heap.objs.size)→(∃vs,Dm h' TO vs∧vs.length=cs.length)→(∀c∈cs,c.At h' (i+1))→Dm h' s.heap.objs.size (cs.map fun c=>(X c).getD i .none)→
   (∀b o,b ∉ zfp z TO cs→s.heap.get? b=some o→h'.get? b=some o)→Q (.ref s.heap.objs.size) { s with heap:=h' })(hE:(∃c∈cs,(X c).size≤i)→∀h' e,(∀b o,b ∉ zfp z TO cs→s.heap.get? b=some o→h'.get? b=some o)→(∃o,h'.get? e=some o∧o.cls=.type "StopIteration")→E (.ref e) { s with heap:=h' }) :
  wpAny (model prog w) A (Builtin.«zip.__next__» ⟨[.ref z],[]⟩) (fun fin s'=>∃v,fin=.done (.ret v)∧Q v s') E s:=by
 show wpAny _ _ (field (.ref z) 2 >>= _) _ _ _;refine wpAny_bind (wpAny_field hz rfl (x:=.bool false) rfl ?_);show wpAny _ _ (field (.ref z) 3 >>= _) _ _ _;refine wpAny_bind (wpAny_field hz rfl (x:=.ref TI) rfl (wpAny_bind (wpAny_seqItems hTI rfl ?_)));have hemp:¬((cs.map fun c=>Value.ref c.it).toArray.isEmpty=true):=by
  cases cs with
  |nil=>exact absurd rfl hne
  |cons c r=>simp
 simp only[hemp];show wpAny _ _ (Builtin.SmallTypes.ownedTupleIsFree (.ref z) >>= _) _ _ _;refine wpAny_bind ?_;unfold Builtin.SmallTypes.ownedTupleIsFree;refine wpAny_bind (wpAny_field hz rfl (x:=.none) rfl (wpAny_pure ?_));simp only[if_true];refine wpAny_bind (wpAny_rule (wpAny_bind (wpAny_field hz rfl (x:=.ref TO) rfl (wpAny_bind (wpAny_setField_rec hz (by simp) fun h₁ hz₁ hs₁=>?_)))))
 have hz₁:IsZip h₁ z TI TO .ellipsis:=hz₁;refine wpAny_bind ?_;have ne:=D.nd;have TOz:TO≠z:=fun e=>(List.nodup_cons.mp ne).1 (by simp[e])
 have itz:∀c∈cs,c.it≠z:=fun c hc e=>(List.nodup_cons.mp ne).1 (by rw[←e];exact List.mem_cons_of_mem _ (List.mem_map_of_mem hc))
 have itT:∀c∈cs,c.it≠TO:=fun c hc e=>(List.nodup_cons.mp (List.nodup_cons.mp ne).2).1 (by rw[←e];exact List.mem_map_of_mem hc)
 have sq:∀{h':Heap},(∀b o,b ∉ zfp z TO cs→s.heap.get? b=some o→h'.get? b=some o)→∀c∈cs,c.Sq h' (X c):=fun k c hc=>(hX c hc).keep fun o e=>k _ o (D.ls c hc) e;have nfp:∀{b:Addr},b ∉ zfp z TO cs→b≠z∧b≠TO∧∀c∈cs,b≠c.it:=fun {b} hb=>⟨fun e=>hb (by simp[e]),fun e=>hb (by simp[e]),fun c hc e=>hb (by rw[e];exact List.mem_cons_of_mem _ (List.mem_cons_of_mem _ (List.mem_map_of_mem hc)))⟩
 have sz16:∀{n:Nat},n≤16→n≤sizeLine:=fun h=>szl (by omega)
 refine Mt (fun rest b s'=>b=(none,())∧∃pre post h',s'={ s with heap:=h' }∧cs=pre++post∧rest=(post.map fun c=>Value.ref c.it).zipIdx pre.length∧IsZip h' z TI TO .ellipsis∧Dm h' TO (pre.map (fun c=>(X c).getD i .none)++old.drop pre.length)∧
  (∀c∈pre,i<(X c).size∧c.At h' (i+1))∧(∀c∈post,c.At h' i)∧h'.objs.size=s.heap.objs.size∧∀b o,b ∉ zfp z TO cs→s.heap.get? b=some o→h'.get? b=some o) ?_ ?_ _ _ _
  ⟨rfl,[],cs,h₁,rfl,rfl,rfl,hz₁,hs₁.extBut _ _ TOz hTO,fun c hc=>absurd hc (by simp),fun c hc=>(hA c hc).keep fun o e=>hs₁.extBut _ _ (itz c hc) e,hs₁.1,fun b o hb e=>hs₁.extBut _ _ (nfp hb).1 e⟩
 ·rintro⟨itv,k⟩ r b s' ⟨rfl,pre,post,h',rfl,hcs,hr,hz',hTO',hpre,hpost,hsz,hk⟩;cases post with
  |nil=>simp at hr
  |cons c post=>
   rw[List.map_cons,List.zipIdx_cons] at hr;injection hr with hr1 hr2;cases hr1;have hc:c∈cs:=by rw[hcs];simp
   have nd2:((pre++c::post).map (·.it)).Nodup:=by rw[←hcs];exact(List.nodup_cons.mp (List.nodup_cons.mp ne).2).2
   rw[List.map_append,List.map_cons] at nd2;have npre:∀d∈pre,d.it≠c.it:=fun d hd e=>(List.nodup_append.mp nd2).2.2 d.it (List.mem_map_of_mem hd) c.it (by simp) e
   have npost:∀d∈post,d.it≠c.it:=fun d hd e=>(List.nodup_cons.mp (List.nodup_append.mp nd2).2.1).1 (by rw[←e];exact List.mem_map_of_mem hd)
   refine wpAny_bind (wpAny_onRaise ?_);show wpAny _ _ (Builtin.SmallTypes.nextOf (.ref c.it) >>= _) _ _ _
   by_cases hi:i<(X c).size
   ·refine wpAny_bind (Vo hh (hpost c (by simp)) (sq hk c hc) (Array.getElem?_eq_getElem hi) fun h2 at2 sb2=>wpAny_pure ?_)
    have hTO2:=sb2.extBut _ _ (itT c hc).symm hTO';refine wpAny_bind (wpAny_seqItems hTO2 rfl ?_);have hlt:pre.length<old.length:=by rw[hol,hcs];simp
    have hlen:(pre.map (fun c=>(X c).getD i .none)++old.drop pre.length).length=cs.length:=by
     rw[List.length_append,List.length_map,List.length_drop,hol,hcs];simp
    refine wpAny_bind (wpAny_updateSeq hTO2 rfl ?_ (by rw[List.size_toArray,hlen];exact sz16 hs16) (by rw[Array.size_setIfInBounds,List.size_toArray,hlen];exact Nat.le_succ_of_le (sz16 hs16)))
    refine wpAny_bind (wpAny_letGo (wpAny_pure ?_));have sb3:Heap.SameBut TO h2 (h2.update TO (Obj.mapSeq fun x_2=>x_2.setIfInBounds pre.length (X c)[i])):=Heap.SameBut.update ..;have hTO3:Dm (h2.update TO (Obj.mapSeq fun x_2=>x_2.setIfInBounds pre.length (X c)[i])) TO ((pre++[c]).map (fun c=>(X c).getD i .none)++old.drop (pre++[c]).length):=by
     show Heap.get? _ _=_;rw[Heap.get?_update_self _ hTO2 rfl];have e1:old.drop pre.length=old[pre.length]::old.drop (pre.length+1):=List.drop_eq_getElem_cons hlt;have e2:(X c).getD i Value.none=(X c)[i]:=by simp[Array.getD,hi]
     simp only[Obj.mapSeq];rw[e1];congr 2;simp only[List.map_append,List.map_cons,List.map_nil,e2,List.setIfInBounds_toArray,List.length_append,List.length_cons,List.length_nil];rw[List.set_append_right _ _ (by simp)]
     simp only[List.length_map,Nat.sub_self,List.set_cons_zero,List.append_assoc,List.cons_append,List.nil_append];rw[if_pos (by simp;omega)]
    refine⟨rfl,pre++[c],post,_,rfl,by rw[hcs];simp,by rw[hr2];simp,sb3.extBut _ _ TOz.symm (sb2.extBut _ _ (itz c hc).symm hz'),hTO3,fun d hd=>?_,fun d hd=>?_,by rw[sb3.1,sb2.1];exact hsz,fun b o hb e=>sb3.extBut _ _ (nfp hb).2.1 (sb2.extBut _ _ ((nfp hb).2.2 c hc) (hk b o hb e))⟩
    ·rcases List.mem_append.mp hd with hd|hd
     ·have hd2:d∈cs:=by rw[hcs];simp[hd]
      exact⟨(hpre d hd).1,(hpre d hd).2.keep fun o e=>sb3.extBut _ _ (itT d hd2) (sb2.extBut _ _ (npre d hd) e)⟩
     ·have:d=c:=by simpa using hd
      subst this;exact⟨hi,at2.keep fun o e=>sb3.extBut _ _ (itT d hc) e⟩
    ·have hd2:d∈cs:=by rw[hcs];simp[hd]
     exact(hpost d (by simp[hd])).keep fun o e=>sb3.extBut _ _ (itT d hd2) (sb2.extBut _ _ (npost d hd) e)
   ·refine wpAny_bind (Yn hh (hpost c (by simp)) (sq hk c hc) (Array.getElem?_eq_none (by omega)) fun h2 e eb st=>?_)
    obtain⟨oe,hoe,hce⟩:=st;have hz2:IsZip h2 z TI TO .ellipsis:=eb _ _ (itz c hc).symm hz';have hez:e≠z:=fun x=>by subst x;rw[hz2] at hoe;cases hoe;simp at hce
    exact wpAny_setField_rec hz2 (by simp) fun h3 _ hs3=>hE ⟨c,hc,by omega⟩ h3 e (fun b o hb x=>hs3.extBut _ _ (nfp hb).1 (eb _ _ ((nfp hb).2.2 c hc) (hk b o hb x))) ⟨oe,hs3.extBut _ _ hez hoe,hce⟩
 ·rintro b s' ⟨rfl,pre,post,h5,rfl,hcs,hr,hz5,hTO5,hpre,hpost,hsz,hk⟩;have hp:post=[]:=by
   cases post with
   |nil=>rfl
   |cons c r=>simp at hr
  subst hp;rw[List.append_nil] at hcs;subst hcs;rw[←hol,List.drop_length,List.append_nil] at hTO5;refine wpAny_bind (wpAny_seqItems hTO5 rfl ?_);refine wpAny_bind (wpAny_newTuple ?_);have hzlt:z<h5.objs.size:=Heap.lt_size hz5;show wpAny _ _ (Builtin.SmallTypes.ownedTupleHandOut (.ref z) (.ref h5.objs.size) >>= _) _ _ _;refine wpAny_bind ?_;unfold Builtin.SmallTypes.ownedTupleHandOut;have hz6:=Heap.get?_push_of_some { cls:=.type "tuple",data:=.seq (cs.map fun c=>(X c).getD i .none).toArray } hz5;refine wpAny_bind (wpAny_setField_rec hz6 (by simp) fun h7 hz7 hs7=>?_)
  replace hz7:IsZip h7 z TI TO (rawInt h5.objs.size):=hz7
  refine wpAny_setField_rec hz7 (by simp) fun h8 hz8 hs8=>?_
  replace hz8:IsZip h8 z TI TO (rawInt h5.objs.size):=hz8
  have up:∀c o,c≠z→h5.get? c=some o→h8.get? c=some o:=fun c o c1 e=>hs8.extBut _ _ c1 (hs7.extBut _ _ c1 (Heap.get?_push_of_some _ e));have hT8:Dm h8 h5.objs.size (cs.map fun c=>(X c).getD i .none):=hs8.extBut _ _ (Nat.ne_of_gt hzlt) (hs7.extBut _ _ (Nat.ne_of_gt hzlt) (Heap.get?_push_size _ rfl));rw[hsz] at hz8 hT8;refine wpAny_pure ⟨_,rfl,?_⟩;show Q (.ref h5.objs.size) _;rw[hsz];exact hQ (fun c hc=>(hpre c hc).1) h8 hz8 ⟨_,up _ _ TOz hTO5,by simp⟩ (fun c hc=>(hpre c hc).2.keep fun o e=>up _ o (itz c hc) e) hT8 fun b o hb e=>up b o (nfp hb).1 (hk b o hb e)

theorem Il{z TI TO:Addr}{cs:List Src}{i:Nat}{old:List Value}{X:Src→Array Value}{Q:Option Value→Shared→Prop}(hh:A.handled=none)(hne:cs≠[])(hs16:cs.length≤16)(D:ZApart z TI TO cs)(hz:IsZip s.heap z TI TO .none)(hTI:Dm s.heap TI (cs.map fun c=>.ref c.it))(hTO:Dm s.heap TO old)(hol:old.length=cs.length)(hA:∀c∈cs,c.At s.heap i)(hX:∀c∈cs,c.Sq s.heap (X c))(hQ:(∀c∈cs,i<(X c).size)→∀h',IsZip h' z TI TO (rawInt s.heap.objs.size)→(∃vs,Dm h' TO vs∧vs.length=cs.length)→(∀c∈cs,c.At h' (i+1))→Dm h' s.heap.objs.size (cs.map fun c=>(X c).getD i .none)→
   (∀b o,b ∉ zfp z TO cs→s.heap.get? b=some o→h'.get? b=some o)→Q (some (.ref s.heap.objs.size)) { s with heap:=h' })(hE:(∃c∈cs,(X c).size≤i)→∀h',(∀b o,b ∉ zfp z TO cs→s.heap.get? b=some o→h'.get? b=some o)→Q none { s with heap:=h' }) :
  wpAny (model prog w) A (pyNext (.ref z)) Q E s:=by
 have ty:s.TypeIs (.ref z) "zip":=⟨_,hz,rfl⟩;unfold pyNext;refine wpAny_bind (wpAny_attempt (wpAny_callSpecial?_slot (name:=Str.ofString "__next__") ty F.slot_zip_next (wpAny_call_entry F.slot_zip_next ty F.entry_zip_next (Ve hh hne hs16 D hz hTI hTO hol hA hX (fun a h' a1 a2 a3 a4 a5=>wpAny_pure (hQ a h' a1 a2 a3 a4 a5)) fun a h' e hk ⟨o,ho,co⟩=>?_) (F.args_zip_next_1 _))));exact wpAny_bind (wpAny_isInstance (T:="StopIteration") (b:=true) ⟨o,ho,co⟩ isSubtype_stop (wpAny_pure (hE a _ hk)))
abbrev P3(l:Addr)(tp:Bool):Obj:={ cls:=.type (if tp then "tuple_iterator" else "list_iterator"),data:=.fields #[.ref l,.int 0 0] }
theorem Im{l:Addr}{tp:Bool}{xs:Array Value}{Q:Value→Shared→Prop}(h:if tp=true then s.heap.IsTuple l xs else s.heap.IsList l xs)(hQ:Q (.ref s.heap.objs.size) { s with heap:=s.heap.push (P3 l tp) }) :
  wpAny (model prog w) A (pyIter (.ref l)) Q E s:=by
 cases tp with
 |true=>exact wpAny_pyIter_tuple h hQ
 |false=>exact wpAny_pyIter_list h hQ
end
abbrev SqOf(h:Heap)(l:Addr)(tp:Bool)(xs:Array Value):Prop:=if tp=true then h.IsTuple l xs else h.IsList l xs
theorem SqOf.push{h:Heap}{l:Addr}{tp:Bool}{xs:Array Value}(x:SqOf h l tp xs)(o:Obj):SqOf (h.push o) l tp xs:=by
 unfold SqOf at x ⊢
 split at x
 ·rename_i e;rw[if_pos e];exact x.push o
 ·rename_i e;rw[if_neg e];exact x.push o
abbrev zh1(h:Heap)(a:Addr×Bool):Heap:=h.push (P3 a.1 a.2)
abbrev Ko(h:Heap)(ts:List Value)(k:Nat):Heap:=((h.push { cls:=.type "tuple",data:=.seq ts.toArray }).push { cls:=.type "tuple",data:=.seq (List.replicate k Value.none).toArray }).push
 { cls:=.type "zip",data:=.fields #[.none,.bool false,.bool false,.ref h.objs.size,.ref (h.objs.size+1)] }
theorem Vf(a b:Addr×Bool)(xs ys:Array Value) :
  Meets (Builtin.«zip.__new__» ⟨[.type "zip",.ref a.1,.ref b.1],[]⟩) (fun _ R s=>SqOf s.heap a.1 a.2 xs∧SqOf s.heap b.1 b.2 ys∧
   R (.ok (.ret (.ref (s.heap.objs.size+4)))) { s with heap:=Ko (zh1 (zh1 s.heap a) b) [.ref s.heap.objs.size,.ref (s.heap.objs.size+1)] 2 }):=
 .of_wp fun prog w A R s h=>by
  obtain⟨hp,g,d,tk,os⟩:=s;obtain⟨hl1,hl2,h⟩:=h;have hsub:=sub_zip;have hL1:SqOf (Shared.heap ⟨hp,g,d,tk,os⟩) a.1 a.2 xs:=hl1;have hL2:SqOf (Shared.heap ⟨hp.push (P3 a.1 a.2),g,d,tk,os⟩) b.1 b.2 ys:=SqOf.push hl2 _
  wp_walk using Im hL1,Im hL2
  refine⟨_,rfl,?_⟩;simp only[Ko,zh1,Heap.size_push] at h ⊢;exact h
theorem Src.Sq.inj{h:Heap}{c:Src}{xs ys:Array Value}(x:c.Sq h xs)(y:c.Sq h ys):xs=ys:=by
 unfold Src.Sq at x y
 split at x
 ·rename_i e;rw[if_pos e] at y;obtain⟨o,h1,_,n,d⟩:=x;obtain⟨o',h1',_,n',d'⟩:=y;rw[h1] at h1';cases h1';rw[d] at d';cases d';rfl
 ·rename_i e;rw[if_neg e] at y;obtain⟨o,h1,_,n,d⟩:=x;obtain⟨o',h1',_,n',d'⟩:=y;rw[h1] at h1';cases h1';rw[d] at d';cases d';rfl
def SqC(K:W.Frag)(H:Hp)(c:Addr×Bool)(xs:List V):Prop:=if c.2=true then SqT K H c.1 xs else SqL K H c.1 xs
def Itz (K:W.Frag) (cs:List (Addr×Bool)):It:=
  ⟨fun i H=>∀c∈cs,∃xs,SqC K H c xs∧i<xs.length,
   fun i H x H'=>∃p vs,H p=none∧x=.ref p∧H'=upd H p (.tup vs)∧Paired (fun (c:Addr×Bool) v=>∀xs,SqC K H c xs→xs[i]? = some v) cs vs,
   fun i H=>(∀c∈cs,∃xs,SqC K H c xs)∧∃c∈cs,∃xs,SqC K H c xs∧xs.length≤i⟩
section
variable{X:Cx}{pins:List (Addr×Obj)}{σ:St}{H:Hp}{s:Shared}
theorem Oj(I:Inv X pins σ H s){c:Src}{xs:List V}(h:SqC X.K H (c.l,c.tp) xs):∃its:List Value,Vals xs its∧c.Sq s.heap its.toArray:=by
 unfold SqC at h;unfold Src.Sq
 by_cases e:c.tp=true
 ·rw[if_pos e] at h;obtain⟨its,r,p,_⟩:=I.tuple h;exact⟨its,r,by rw[if_pos e];exact p⟩
 ·rw[if_neg e] at h;obtain⟨its,r,p,_⟩:=I.list h;exact⟨its,r,by rw[if_neg e];exact p.isList⟩
theorem Qa(I:Inv X pins σ H s){c:Addr×Bool}{xs ys:List V}(h:SqC X.K H c xs)(h':SqC X.K H c ys):xs=ys:=by
 unfold SqC at h h'
 split at h
 ·rename_i e;rw[if_pos e] at h';exact I.tuple_inj h h'
 ·rename_i e;rw[if_neg e] at h';exact I.list_inj h h'
theorem P6{t':Nat}{h':Heap}{fp:List Addr}(I:Inv X pins σ H s)(k:∀b o,b ∉ fp→s.heap.get? b=some o→h'.get? b=some o)(hf:∀b∈fp,Dl X pins H b):Inv X pins σ H { s with heap:=h',toks:=t' }:=by
 have nit:∀b u,H b=some u→b ∉ fp:=fun b u e z=>by rw[(hf b z).1] at e;cases e
 refine I.step (g':=s.gens) (d':=s.drawn) (ch:=fp) (fun b hb=>⟨(hf b hb).2.2.2.1,(hf b hb).2.1,(hf b hb).2.2.2.2.1,(hf b hb).2.2.2.2.2⟩) (fun b o _ _ hc e _=>k b o hc e) (fun b o _ _ hc e _=>⟨o.slots,k b o hc e⟩) (fun _ _ _ _ n=>n)
  (fun b o hc e=>⟨o,k b o hc e⟩) (fun _ _ e=>e) (fun _ _ _ e=>e) (fun b ps e=>⟨#[],by rw[e];simp⟩) (fun m hm=>?_) (fun b u e=>?_) I.bare
 ·obtain⟨o,es,ep,ho,r⟩:=hm;exact⟨o,es,ep,k _ o (fun z=>(hf _ z).2.1 rfl) ho,r⟩
 ·refine(I.hok b u e).stay (fun c v hc q=>k c v ?_ q) (fun _ q=>q) fun _ _ q=>q;rcases hc with z|z
  ·rw[z];exact nit b u e
  ·exact nit c _ z
theorem Uc{K:W.Frag}{i:Nat}{Y:Src→Array Value}:∀(cs:List Src),(∀c∈cs,∃v,RelV v ((Y c).getD i .none)∧∀xs,SqC K H (c.l,c.tp) xs→xs[i]? = some v)→
  ∃vs,Vals vs (cs.map fun c=>(Y c).getD i .none)∧Paired (fun(c:Addr×Bool) v=>∀xs,SqC K H c xs→xs[i]? = some v) (cs.map fun c=>(c.l,c.tp)) vs
 |[],_=>⟨[],.nil,.nil⟩
 |c::cs,h=>by
  obtain⟨v,r,q⟩:=h c (by simp)
  obtain⟨vs,a,b⟩:=Uc cs fun d hd=>h d (by simp[hd])
  exact⟨v::vs,.cons r a,.cons q b⟩
end
theorem Vk{P:Program}{w:World}{K:W.Frag}{elts:List Expr}{kk:Nat}{pos:Pos}(z TI TO:Addr)(cs:List Src)(hne:cs≠[])(h16:cs.length≤16)(D:ZApart z TI TO cs) :
  Turn P w K (.Tuple elts kk pos) (Itz K (cs.map fun c=>(c.l,c.tp))) (TI::zfp z TO cs) z
   (fun i h=>IsZip h z TI TO .none∧Dm h TI (cs.map fun c=>.ref c.it)∧(∃vs,Dm h TO vs∧vs.length=cs.length)∧∀c∈cs,c.At h i) where
 mem:=by simp
 obj:=fun i h zz b hb=>by
  obtain⟨hz,hTI,⟨vs,hTO,_⟩,hA⟩:=zz;have hb':b=TI∨b=z∨b=TO∨∃c∈cs,c.it=b:=by simpa[zfp] using hb
  rcases hb' with rfl|rfl|rfl|⟨c,hc,rfl⟩
  ·exact⟨_,hTI,fun v e=>by cases(show Data.seq _ _=Data.cell v from e)⟩
  ·exact⟨_,hz,fun v e=>by cases(show Data.fields _=Data.cell v from e)⟩
  ·exact⟨_,hTO,fun v e=>by cases(show Data.seq _ _=Data.cell v from e)⟩
  ·exact(hA c hc).obj
 keep:=fun i h h' ⟨hz,hTI,⟨vs,hTO,hl⟩,hA⟩ k=>⟨k z (by simp) _ hz,k TI (by simp) _ hTI,⟨vs,k TO (by simp) _ hTO,hl⟩,fun c hc=>(hA c hc).keep fun o e=>k c.it (List.mem_cons_of_mem _ (List.mem_cons_of_mem _ (List.mem_cons_of_mem _ (List.mem_map_of_mem hc)))) o e⟩
 item:=by
  intro X hP hw hK hc i pins s σ H E I hf st hg;subst hP hw hK;obtain⟨hz,hTI,⟨old,hTO,hol⟩,hA⟩:=st;have hex:∀c∈cs,∃(xs:List V) (its:List Value),SqC X.K H (c.l,c.tp) xs∧i<xs.length∧Vals xs its∧c.Sq s.heap its.toArray:=fun c hc=>by
   obtain⟨xs,h1,h2⟩:=hg (c.l,c.tp) (List.mem_map_of_mem (f:=fun c:Src=>(c.l,c.tp)) hc);obtain⟨its,r,p⟩:=Oj I h1;exact⟨xs,its,h1,h2,r,p⟩
  open Classical in
  let Y:Src→Array Value:=fun c=>if h:∃ys,c.Sq s.heap ys then Classical.choose h else #[]
  have hY:∀c∈cs,c.Sq s.heap (Y c):=fun c hc=>by
   obtain⟨xs,its,_,_,_,p⟩:=hex c hc;have h:∃ys,c.Sq s.heap ys:=⟨_,p⟩;show c.Sq s.heap (if h:∃ys,c.Sq s.heap ys then Classical.choose h else #[]);rw[dif_pos h];exact Classical.choose_spec h
  obtain⟨vs,rv,pv⟩:=Uc (H:=H) (K:=X.K) (i:=i) (Y:=Y) cs fun c hc=>by
   obtain⟨xs,its,h1,h2,r,p⟩:=hex c hc;have e:=(hY c hc).inj p;have hx:xs[i]? = some xs[i]:=List.getElem?_eq_getElem h2;obtain⟨u,hu,ru⟩:=r.get hx;refine⟨xs[i],?_,fun ys hy=>by rw[Qa I hy h1];exact hx⟩
   rw[e]
   have:its.toArray.getD i Value.none=u:=by simp[Array.getD_eq_getD_getElem?,hu]
   rw[this];exact ru
  refine Il (X:=Y) (I.ok.hd hc) hne h16 D hz hTI hTO hol hA hY (fun _ h' a1 a2 a3 a4 a5=>?_) fun⟨c,hc,hl⟩=>?_
  ·refine⟨_,rfl,wpAny_letOwnedTupleGo_zip (s:={ s with heap:=h' }) a1 fun h2 hz2 sb2=>?_⟩;have TIne:TI≠z:=fun e=>D.ti (by simp[e])
   have TOz:TO≠z:=fun e=>(List.nodup_cons.mp D.nd).1 (by simp[e])
   have itz:∀c∈cs,c.it≠z:=fun c hc e=>(List.nodup_cons.mp D.nd).1 (by rw[←e];exact List.mem_cons_of_mem _ (List.mem_map_of_mem hc))
   have hTne:s.heap.objs.size≠z:=Nat.ne_of_gt (Heap.lt_size hz);have I1:Inv X pins σ (upd H s.heap.objs.size (.tup vs)) { s with heap:=s.heap.push { cls:=.type "tuple",data:=.seq (cs.map fun c=>(Y c).getD i .none).toArray } }:=
    I.laid (t':=s.toks) (fun b u e=>Heap.get?_push_of_some _ e) (Nat.le_refl _) ⟨by rw[rv.length,List.length_map];exact szl (by omega),_,rv,⟨_,Heap.get?_push_size _ rfl,rfl,_,rfl⟩⟩
   have hfl:∀b∈TI::zfp z TO cs,b<s.heap.objs.size:=fun b hb=>by
    have hb':b=TI∨b=z∨b=TO∨∃c∈cs,c.it=b:=by simpa[zfp] using hb
    rcases hb' with rfl|rfl|rfl|⟨c,hc,rfl⟩
    ·exact Heap.lt_size hTI
    ·exact Heap.lt_size hz
    ·exact Heap.lt_size hTO
    ·obtain⟨o,e,_⟩:=(hA c hc).obj;exact Heap.lt_size e
   have hf1:∀b∈TI::zfp z TO cs,Dl X pins (upd H s.heap.objs.size (.tup vs)) b:=fun b hb=>⟨by rw[Ae (Nat.ne_of_lt (hfl b hb))];exact(hf b hb).1,(hf b hb).2⟩
   have I2:=P6 (t':=s.toks) (h':=h2) I1 (fp:=TI::zfp z TO cs) (fun b o hb e=>?_) hf1
   ·refine⟨.ref s.heap.objs.size,_,I2,rfl,⟨s.heap.objs.size,vs,I.hok.fresh (Nat.le_refl _),rfl,rfl,pv⟩,⟨hz2,sb2.extBut _ _ TIne (a5 _ _ D.ti hTI),?_,fun c hc=>(a3 c hc).keep fun o e=>sb2.extBut _ _ (itz c hc) e⟩,fun b hb=>(hf1 b hb).1⟩;obtain⟨ws,b1,b2⟩:=a2;exact⟨ws,sb2.extBut _ _ TOz b1,b2⟩
   ·have hbz:b≠z:=fun e=>hb (by simp[e])
    refine sb2.extBut _ _ hbz ?_;rcases Heap.get?_push_cases e with ⟨rfl,rfl⟩|e
    ·exact a4
    ·exact a5 _ _ (fun q=>hb (List.mem_cons_of_mem _ q)) e
  ·intro h' hk;obtain⟨xs,its,h1,h2,r,p⟩:=hex c hc;have e:=(hY c hc).inj p;rw[e,List.size_toArray,←r.length] at hl;omega
 done:=by
  intro X hP hw hK hc i pins s σ H E I hf st hg;subst hP hw hK;obtain⟨hz,hTI,⟨old,hTO,hol⟩,hA⟩:=st;obtain⟨hall,c0,hc0,xs0,hx0,hl0⟩:=hg;obtain⟨c1,hc1,rfl⟩:=List.mem_map.mp hc0;have hex:∀c∈cs,∃(xs:List V) (its:List Value),SqC X.K H (c.l,c.tp) xs∧Vals xs its∧c.Sq s.heap its.toArray:=fun c hc=>by
   obtain⟨xs,h1⟩:=hall (c.l,c.tp) (List.mem_map_of_mem (f:=fun c:Src=>(c.l,c.tp)) hc);obtain⟨its,r,p⟩:=Oj I h1;exact⟨xs,its,h1,r,p⟩
  open Classical in
  let Y:Src→Array Value:=fun c=>if h:∃ys,c.Sq s.heap ys then Classical.choose h else #[]
  have hY:∀c∈cs,c.Sq s.heap (Y c):=fun c hc=>by
   obtain⟨xs,its,_,_,p⟩:=hex c hc;have h:∃ys,c.Sq s.heap ys:=⟨_,p⟩;show c.Sq s.heap (if h:∃ys,c.Sq s.heap ys then Classical.choose h else #[]);rw[dif_pos h];exact Classical.choose_spec h
  refine Il (X:=Y) (I.ok.hd hc) hne h16 D hz hTI hTO hol hA hY (fun hlt=>?_) fun _ h' hk=>⟨rfl,P6 (t':=s.toks) (h':=h') (fp:=TI::zfp z TO cs) I (fun b o hb e=>hk b o (fun q=>hb (List.mem_cons_of_mem _ q)) e) hf⟩;have h1:=hlt c1 hc1;obtain⟨xs,its,h2,r,p⟩:=hex c1 hc1;rw[(hY c1 hc1).inj p,List.size_toArray,←r.length,Qa I h2 hx0] at h1;omega
 self:=fun _ _ _ _ _ st h=>wpAny_pyIter_zip st.1 h
theorem zipTy:bootBuiltins "zip" = some (.type "zip"):=by decide +kernel
section
variable{X:Cx}{pins:List (Addr×Obj)}{σ:St}{H:Hp}{s:Shared}{E:Value→Shared→Prop}
theorem P9(I:Inv X pins σ H s){c:Addr×Bool}(h:∃xs,SqC X.K H c xs):∃xs,SqOf s.heap c.1 c.2 xs∧c.1<s.heap.objs.size:=by
 obtain⟨xs,h⟩:=h;obtain⟨its,_,p⟩:=Oj (c:=⟨0,c.1,c.2⟩) I h;refine⟨_,p,?_⟩;unfold Src.Sq at p
 split at p
 ·obtain⟨o,e,_⟩:=p;exact Heap.lt_size e
 ·obtain⟨o,e,_⟩:=p;exact Heap.lt_size e
theorem Vc{h h':Heap}{l:Addr}{tp:Bool}(e:h'.get? h.objs.size=some (P3 l tp)):Src.At h' ⟨h.objs.size,l,tp⟩ 0:=by
 unfold Src.At;cases tp with
 |true=>exact⟨_,e,rfl,rfl⟩
 |false=>exact⟨_,e,rfl,rfl⟩
theorem Nx{elts:List Expr}{kk:Nat}{tp:Pos}{R:It→Hp→Prop}(I:Inv X pins σ H s){z TI TO:Addr}{cs:List Src}{h':Heap}(hne:cs≠[])(h16:cs.length≤16)(hk:∀b o,s.heap.get? b=some o→h'.get? b=some o)(hz:IsZip h' z TI TO .none)(hTI:Dm h' TI (cs.map fun c=>.ref c.it))(hTO:Dm h' TO (List.replicate cs.length .none))(hA:∀c∈cs,c.At h' 0)(nd:(z::TO::cs.map (·.it)).Nodup)(ti:TI ∉ zfp z TO cs)(new:∀b∈TI::zfp z TO cs,s.heap.objs.size≤b)(old:∀c∈cs,c.l<s.heap.objs.size)(q:R (Itz X.K (cs.map fun c=>(c.l,c.tp))) H) :
  wpAny (model X.prog X.w) X.A (pyIter (.ref z)) (PIE X pins σ (.Tuple elts kk tp) R) E { s with heap:=h' }:=by
 refine wpAny_pyIter_zip (s:={ s with heap:=h' }) hz ?_;have D:ZApart z TI TO cs:=⟨nd,ti,fun c hc hb=>absurd (Nat.lt_of_lt_of_le (old c hc) (new _ (List.mem_cons_of_mem _ hb))) (Nat.lt_irrefl _)⟩;refine⟨z,TI::zfp z TO cs,_,_,H,rfl,I.kept (t':=s.toks) hk,Vk z TI TO cs hne h16 D,⟨hz,hTI,⟨_,hTO,by simp⟩,hA⟩,fun b hb=>I.fpOk (new b hb) (I.hok.fresh (new b hb)),q⟩
theorem Ye{elts:List Expr}{kk:Nat}{tp:Pos}{R:It→Hp→Prop}(I:Inv X pins σ H s){a b:Addr×Bool}(ha:∃xs,SqC X.K H a xs)(hb:∃xs,SqC X.K H b xs)(q:R (Itz X.K [a,b]) H) :
  wpAny (model X.prog X.w) X.A (call (.type "zip") [.ref a.1,.ref b.1]) (fun v s1=>wpAny (model X.prog X.w) X.A (pyIter v) (PIE X pins σ (.Tuple elts kk tp) R) E s1) E s:=by
 obtain⟨xs,sa,la⟩:=P9 I ha;obtain⟨ys,sb,lb⟩:=P9 I hb;refine callType_new F.called_zip (by decide) (F.typeCall_zip_2 _ _) (F.newCall_zip_2 _ _) (fun obj=>F.args_object_init_3 obj _ _) F.entry_zip_new (Vf a b xs ys) ⟨sa,sb,?_⟩
 generalize hh:s.heap=h at *;have z1:(zh1 h a).objs.size=h.objs.size+1:=Heap.size_push ..;have z2:(zh1 (zh1 h a) b).objs.size=h.objs.size+2:=by rw[Heap.size_push,z1]
 have g0:∀c o,(zh1 (zh1 h a) b).get? c=some o→(Ko (zh1 (zh1 h a) b) [.ref h.objs.size,.ref (h.objs.size+1)] 2).get? c=some o:=fun c o e=>Heap.get?_push_of_some _ (Heap.get?_push_of_some _ (Heap.get?_push_of_some _ e));have gz:(Ko (zh1 (zh1 h a) b) [.ref h.objs.size,.ref (h.objs.size+1)] 2).get? (h.objs.size+4)=some { cls:=.type "zip",data:=.fields #[.none,.bool false,.bool false,.ref (h.objs.size+2),.ref (h.objs.size+3)] }:=by
  have e:h.objs.size+4=(((zh1 (zh1 h a) b).push { cls:=.type "tuple",data:=.seq [Value.ref h.objs.size,.ref (h.objs.size+1)].toArray }).push { cls:=.type "tuple",data:=.seq (List.replicate 2 Value.none).toArray }).objs.size:=by rw[Heap.size_push,Heap.size_push,z2]
  rw[e];unfold Ko;rw[z2];exact Heap.get?_push_size _ rfl
 have gTI:Dm (Ko (zh1 (zh1 h a) b) [.ref h.objs.size,.ref (h.objs.size+1)] 2) (h.objs.size+2) [.ref h.objs.size,.ref (h.objs.size+1)]:=by
  rw[←z2];exact Heap.get?_push_of_some _ (Heap.get?_push_of_some _ (Heap.get?_push_size _ rfl))
 have gTO:Dm (Ko (zh1 (zh1 h a) b) [.ref h.objs.size,.ref (h.objs.size+1)] 2) (h.objs.size+3) (List.replicate 2 Value.none):=by
  have e:h.objs.size+3=((zh1 (zh1 h a) b).push { cls:=.type "tuple",data:=.seq [Value.ref h.objs.size,.ref (h.objs.size+1)].toArray }).objs.size:=by rw[Heap.size_push,z2]
  rw[e];exact Heap.get?_push_of_some _ (Heap.get?_push_size _ rfl)
 have A1:Src.At (Ko (zh1 (zh1 h a) b) [.ref h.objs.size,.ref (h.objs.size+1)] 2) ⟨h.objs.size,a.1,a.2⟩ 0:=Vc (g0 _ _ (Heap.get?_push_of_some _ (Heap.get?_push_size _ rfl)));have A2:Src.At (Ko (zh1 (zh1 h a) b) [.ref h.objs.size,.ref (h.objs.size+1)] 2) ⟨h.objs.size+1,b.1,b.2⟩ 0:=by
  have:=Vc (h:=zh1 h a) (l:=b.1) (tp:=b.2) (g0 _ _ (Heap.get?_push_size _ rfl))
  rw[z1] at this;exact this
 refine⟨⟨_,gz,rfl⟩,Nx (s:=s) (cs:=[⟨h.objs.size,a.1,a.2⟩,⟨h.objs.size+1,b.1,b.2⟩]) I (by simp) (by simp) (fun c o e=>?_) gz gTI gTO (fun c hc=>?_) (by simp) (by simp[zfp]) (fun c hc=>?_) (fun c hc=>?_) q⟩
 ·rw[hh] at e;exact g0 _ _ (Heap.get?_push_of_some _ (Heap.get?_push_of_some _ e))
 ·simp only[List.mem_cons,List.not_mem_nil,or_false] at hc;rcases hc with rfl|rfl
  ·exact A1
  ·exact A2
 ·rw[hh];simp only[zfp,List.map_cons,List.map_nil,List.mem_cons,List.not_mem_nil,or_false] at hc;rcases hc with rfl|rfl|rfl|rfl|rfl<;>first|exact Nat.le_refl _|exact Nat.le_add_right _ _
 ·rw[hh];simp only[List.mem_cons,List.not_mem_nil,or_false] at hc;rcases hc with rfl|rfl
  ·exact la
  ·exact lb
end
def X9(ls:List (List D))(i:Nat):List D:=ls.map fun l=>l.getD i .non
def Dj:List (List D)→Nat
 |[]=>0
 |[l]=>l.length
 |l::m::r=>min l.length (Dj (m::r))
def C5(ls:List (List D)):List D:=(List.range (Dj ls)).map fun i=>.tup (X9 ls i)
theorem Cr(ls:List (List D)):(C5 ls).length=Dj ls:=by simp[C5]
theorem Ms{ls:List (List D)}{i:Nat}(h:i<Dj ls):(C5 ls)[i]? = some (.tup (X9 ls i)):=by simp[C5,h]
theorem Ew:∀{ls:List (List D)} {i:Nat},i<Dj ls→∀l∈ls,i<l.length
 |[],_,h,_,_=>by simp[Dj] at h
 |[l],i,h,m,hm=>by
  have:m=l:=by simpa using hm
  subst this;exact h
 |l::k::r,i,h,m,hm=>by
  have h1:i<min l.length (Dj (k::r)):=h;rcases List.mem_cons.mp hm with e|e
  ·subst e;omega
  ·exact Ew (by omega) m e
theorem Qp:∀{ls:List (List D)},ls≠[]→∃l∈ls,l.length≤Dj ls
 |[],h=>absurd rfl h
 |[l],_=>⟨l,by simp,Nat.le_refl _⟩
 |l::k::r,_=>by
  obtain⟨m,hm,h1⟩:=Qp (ls:=k::r) (by simp)
  show ∃m∈l::k::r,m.length≤min l.length (Dj (k::r))
  by_cases h:l.length≤Dj (k::r)
  ·exact⟨l,by simp,by omega⟩
  ·exact⟨m,by simp[List.mem_cons.mp hm],by omega⟩
abbrev Hk(K:W.Frag)(H:Hp)(cs:List (Addr×Bool))(ls:List (List D)):Prop:=Paired (fun(c:Addr×Bool) l=>∃xs,SqC K H c xs∧DVs K H l xs) cs ls
structure ItemsX(K:W.Frag)(J:It)(H:Hp)(ds:List D):Prop where
 go:∀i,i<ds.length→J.go i H
 yl:∀i x H',i<ds.length→J.yld i H x H'→Ext H H'∧(∀G,RelG K H G→RelG K H' G)∧∃d,ds[i]? = some d∧DV K H' d x
 st:J.stop ds.length H
theorem Dq{K:W.Frag}{H:Hp}:∀{cs:List (Addr×Bool)} {ls:List (List D)},Hk K H cs ls→∀c∈cs,∃l∈ls,∃xs,SqC K H c xs∧DVs K H l xs
 |_,_,.cons h t,c,hc=>by
  rcases List.mem_cons.mp hc with e|e
  ·subst e;exact⟨_,by simp,h⟩
  ·obtain⟨l,hl,q⟩:=Dq t c e;exact⟨l,by simp[hl],q⟩
theorem J5{K:W.Frag}{H:Hp}:∀{cs:List (Addr×Bool)} {ls:List (List D)},Hk K H cs ls→∀l∈ls,∃c∈cs,∃xs,SqC K H c xs∧DVs K H l xs
 |_,_,.cons h t,c,hc=>by
  rcases List.mem_cons.mp hc with e|e
  ·subst e;exact⟨_,by simp,h⟩
  ·obtain⟨l,hl,q⟩:=J5 t c e;exact⟨l,by simp[hl],q⟩
theorem Ui{K:W.Frag}{H:Hp}{i:Nat}:∀{cs:List (Addr×Bool)} {ls:List (List D)} {vs:List V},Hk K H cs ls→(∀l∈ls,i<l.length)→Paired (fun(c:Addr×Bool) v=>∀xs,SqC K H c xs→xs[i]? = some v) cs vs→DVs K H (X9 ls i) vs
 |_,_,_,.nil,_,.nil=>.nil
 |_,_,_,.cons (b:=l) h t,hl,.cons q r=>by
  obtain⟨xs,h1,h2⟩:=h;have hi:i<l.length:=hl l (by simp)
  obtain⟨v,hv,dv⟩:=h2.get (List.getElem?_eq_getElem hi);rw[q xs h1] at hv;cases hv;show DVs K H (l.getD i .non::X9 _ i) _;have e:l.getD i .non=l[i]:=by simp[List.getD,hi]
  rw[e];exact .cons dv (Ui t (fun m hm=>hl m (by simp[hm])) r)
theorem Kd{K:W.Frag}{H:Hp}{cs:List (Addr×Bool)}{ls:List (List D)}(h:Hk K H cs ls)(hne:ls≠[]):ItemsX K (Itz K cs) H (C5 ls):=by
 refine⟨fun i hi c hc=>?_,fun i x H' hi y=>?_,⟨fun c hc=>?_,?_⟩⟩
 ·rw[Cr] at hi;obtain⟨l,hl,xs,h1,h2⟩:=Dq h c hc;exact⟨xs,h1,by rw[←h2.length];exact Ew hi l hl⟩
 ·rw[Cr] at hi;obtain⟨p,vs,hp,rfl,rfl,pv⟩:=y;refine⟨Ext.fresh hp,fun G r=>r.tup hp,_,Ms hi,.tup Af ((Ui h (Ew hi) pv).ext (Ext.fresh hp))⟩
 ·obtain⟨l,_,xs,h1,_⟩:=Dq h c hc;exact⟨xs,h1⟩
 ·obtain⟨l,hl,hle⟩:=Qp hne;obtain⟨c,hc,xs,h1,h2⟩:=J5 h l hl;exact⟨c,hc,xs,h1,by rw[Cr,←h2.length];exact hle⟩
def A7(G:Gp):List D→Option (List (List D))
 |[]=>some []
 |d::r=>match Ar G d,A7 G r with
  |some l,some ls=>some (l::ls)
  |_,_=>none
def Gz:D→V→Addr×Bool
 |.tup _,.ref a=>(a,true)
 |_,.ref a=>(a,false)
 |_,_=>(0,false)
theorem Ab5{K:W.Frag}{H:Hp}{G:Gp}{d:D}{v:V}{l:List D}(rg:RelG K H G)(h:Ar G d=some l)(dv:DV K H d v):v=.ref (Gz d v).1∧∃xs,SqC K H (Gz d v) xs∧DVs K H l xs:=by
 cases dv with
 |tup e r=>cases h;exact⟨rfl,_,.inl (.inl e),r⟩
 |lint e=>cases h;exact⟨rfl,_,e.sq,DVs.ints⟩
 |ref a=>
  simp only[Ar] at h
  split at h
  ·rename_i ds' q;cases h;obtain⟨xs,e,r⟩:=rg a _ q;exact⟨rfl,xs,.inl (.inl e),r⟩
  ·cases h
 |_=>cases h
theorem Eu{K:W.Frag}{H:Hp}{G:Gp}(rg:RelG K H G):∀{ds:List D} {vs:List V} {ls:List (List D)},A7 G ds=some ls→DVs K H ds vs→vs=(List.zipWith Gz ds vs).map (fun c=>V.ref c.1)∧Hk K H (List.zipWith Gz ds vs) ls
 |[],_,_,h,.nil=>by cases h;exact⟨rfl,.nil⟩
 |d::ds,_,_,h,.cons (v:=v) (vs:=vs) dv t=>by
  simp only[A7] at h
  split at h
  ·rename_i l ls e1 e2;cases h;obtain⟨a1,a2⟩:=Ab5 rg e1 dv;obtain⟨b1,b2⟩:=Eu rg e2 t;refine⟨?_,.cons a2 b2⟩;show v::vs=V.ref (Gz d v).1::_;rw[←a1,←b1]
  ·cases h
def iZip(K:W.Frag)(n:Nat)(ta:TA):TI:=fun σ H R=>ta σ H fun vs H1=>∃cs:List (Addr×Bool),vs=cs.map (fun c=>V.ref c.1)∧cs.length=n∧(∀c∈cs,∃xs,SqC K H1 c xs)∧R (Itz K cs) H1
section
variable{X:Cx}{a b c e:Expr}{elts:List Expr}{kk:Nat}{tp p pos:Pos}{body:List Stmt}
theorem Qh{ta:TA}(hg:Gl X "zip")(hm:X.mg "zip" = none)(ha:PA X [a,b] ta)(hs:starEach [a,b] X.env=(false,eval a X.env)::starEach [b] X.env:=by rfl)(hpl:(backTo pos (starEach [b] X.env)).any (·.1)=false:=by rfl) :
  PI X (.Tuple elts kk tp) (.Call (.Name "zip" p) [a,b] [] pos) (iZip X.K 2 ta):=by
 intro pins s σ H R I h;refine Call_ (Df I hg hm zipTy (PyProof.Rows.callWith_type1 (thn (ha pos pins s σ H _ I h) fun us s1 ⟨vs,H1,I1,r1,q1⟩=>?_) hs hpl));obtain⟨cs,e,hl,hq,q⟩:=q1
 match cs,hl with
 |[x,y],_=>
  subst e;obtain⟨u1,u2,rfl,r1,r2⟩:=Es r1;cases r1;cases r2;exact Ye I1 (hq x (by simp)) (hq y (by simp)) q
theorem vals3{x y z:V}{us:List Value}(r:Vals [x,y,z] us):∃u v w,us=[u,v,w]∧RelV x u∧RelV y v∧RelV z w:=by
 cases r with|cons a t=>cases t with|cons b t=>cases t with|cons c t=>cases t;exact⟨_,_,_,rfl,a,b,c⟩
theorem Pc{K:W.Frag}{J:It}{ds:List D}{same:Gp→Prop}{g:DTG}{tb:DTS}{D:DEnds}{E:Ends}{σD:DSt}{σ:St}{G:Gp}{H:Hp}(rs:RelS K H σD σ)(rg:RelG K H G)(cl:D.Reach K H E)(hJ:∀H' G',Ext H H'→RelG K H' G'→same G'→ItemsX K J H' ds)(h:Ku ds same g tb D σD G) :
  ∃W:Nat→Nat→St→Hp→Prop,(∃m,W 0 m σ H)∧∀i m σ H,W i m σ H→
   (J.stop i H∧E.nx σ H)∨(J.go i H∧∃N:St→Hp→Prop,(∀σ' H',N σ' H'→∃m',m'<m∧W (i+1) m' σ' H')∧∀x H',J.yld i H x H'→Cn K g x σ H' fun σ2 H2=>Dn K tb { E with nx:=N,ct:=N,bk:=E.nx } σ2 H2):=by
 obtain⟨P,p0,keep,step,fin⟩:=h;refine⟨fun i m σ' H'=>m=ds.length-i∧i≤ds.length∧∃σD' G',RelS K H' σD' σ'∧RelG K H' G'∧Ext H H'∧P i σD' G',⟨ds.length,rfl,Nat.zero_le _,σD,G,rs,rg,Ext.refl H,p0⟩,?_⟩;rintro i m σ1 H1 ⟨rfl,hi,σD1,G1,rs1,rg1,x1,p1⟩;have I:=hJ H1 G1 x1 rg1 (keep i σD1 G1 hi p1)
 by_cases hlt:i<ds.length
 ·refine .inr ⟨I.go i hlt,fun σ' H'=>∃σD' G',RelS K H' σD' σ'∧RelG K H' G'∧Ext H H'∧P (i+1) σD' G',fun σ' H' ⟨s2,G2,r1,r2,r3,p⟩=>⟨ds.length-(i+1),by omega,rfl,hlt,s2,G2,r1,r2,r3,p⟩,fun x H' y=>?_⟩
  obtain⟨xe,rge,d,ed,dv⟩:=I.yl i x H' hlt y;refine⟨d,σD1,G1,_,dv,rs1.ext xe,rge _ rg1,step i d σD1 G1 ed p1,fun σ2 G2 h2 H2 x2 rg2 σ' rs2=>?_⟩;have xx:=x1.trans (xe.trans x2);exact⟨σ2,G2,_,rs2,rg2,h2,⟨fun s3 G3 ⟨G4,sb,n⟩ H3 x3 rg3 σ3 rs3=>⟨s3,G4,rs3,rg3.ext' sb,xx.trans x3,n⟩,(cl.go xx).rt,(cl.go xx).nx,fun s3 G3 ⟨G4,sb,n⟩ H3 x3 rg3 σ3 rs3=>⟨s3,G4,rs3,rg3.ext' sb,xx.trans x3,n⟩⟩⟩
 ·have e:i=ds.length:=by omega
  subst e;exact .inl ⟨I.st,cl.nx _ G1 (fin σD1 G1 p1) H1 x1 rg1 _ rs1⟩
def Tx(n:Nat)(tA:DTA)(g:DTG)(tb:DTS):DTS:=fun D σ G=>tA σ G fun ds G1=>ds.length=n∧∃ls,A7 G1 ds=some ls∧Ku (C5 ls) (fun G'=>A7 G' ds=some ls) g tb D σ G1
theorem L1{G:Gp}:∀{ds:List D} {ls:List (List D)},A7 G ds=some ls→ls.length=ds.length
 |[],_,h=>by cases h;rfl
 |d::ds,_,h=>by
  simp only[A7] at h
  split at h
  ·rename_i l ls e1 e2;cases h;simp[L1 e2]
  ·cases h
theorem W7{n:Nat}(hn:n≠0){g:DTG}{tb:DTS}{tA:DTA}{E:Ends}{σ:St}{H:Hp}(h:Dn X.K (Tx n tA g tb) E σ H):tFor (iZip X.K n (T2 X.K tA)) (Cn X.K g) (Dn X.K tb) E σ H:=by
 obtain⟨σD,G,D,rs,rg,h,cl⟩:=h;refine⟨σD,G,_,rs,rg,h,fun ds G1 zz H1 x1 rg1 vs dv=>?_⟩;obtain⟨hn2,ls,ei,L⟩:=zz;obtain⟨e1,ok⟩:=Eu rg1 ei dv;refine⟨List.zipWith Gz ds vs,e1,by rw[List.length_zipWith,←dv.length,Nat.min_self];exact hn2,fun c hc=>?_,?_⟩
 ·obtain⟨l,_,xs,h1,_⟩:=Dq ok c hc;exact⟨xs,h1⟩
 ·refine Pc (rs.ext x1) rg1 (cl.go x1) (fun H' G' x' rg' s'=>?_) L;obtain⟨_,ok'⟩:=Eu rg' s' (dv.ext x');refine Kd ok' fun z=>?_
  have:=L1 ei
  rw[z] at this;simp at this;omega
theorem V1{g:DTG}{tb:DTS}{tA:DTA}(hp:PassesOwn (model X.prog X.w) X.A X.env X.xe)(hc:X.calm=true)(hm:X.mg "zip" = none)(ha:QA X [a,b] tA)(hg:QG X (.Tuple elts kk tp) g)(hb:QSs X body tb)(hgl:Gl X "zip":=by rfl)(hst:starEach [a,b] X.env=(false,eval a X.env)::starEach [b] X.env:=by rfl)(hpl:(backTo pos (starEach [b] X.env)).any (·.1)=false:=by rfl)(hs:∀x,foldedSetIterable (.Call (.Name "zip" p) [a,b] [] pos) X.env x=pure x:=by intro _;rfl){pos2:Pos} :
  QS X (.For (.Tuple elts kk tp) (.Call (.Name "zip" p) [a,b] [] pos) body [] pos2) (Tx 2 tA g tb):=(K3 hp hc (Qh hgl hm ha hst hpl) hg hb hs).imp fun E σ H h=>W7 (by decide) h
end
def A3(scope:Scope)(cl:List (Str×Addr))(C:Addr):List (Str×Addr):=cellsFrom (C+1) scope.names cl
def Al(X:Cx)(scope:Scope)(cl:List (Str×Addr))(T M:List Str)(s:Shared)(H:Hp)(fp:List Addr):Cx where
 prog:=X.prog
 w:=X.w
 K:=X.K
 mg:=X.mg
 base:=X.base
 A:=X.A
 N:=T++M
 s₀:=s
 H₀:=H
 env:=compEnvC scope (A3 scope cl s.heap.objs.size) s.heap.objs.size X.env
 outer:=X.stack
 stack:=X.stack
 ex:=fp
 fn:=fun x=>scope.names.lookup x == some .cell
 calm:=X.calm
 pn:=[]
 xe:=fun _ _=>False
structure CompOz(X:Cx)(scope:Scope)(cl:List (Str×Addr))(T M:List Str):Prop where
 clos:closureFor scope X.env=pure cl
 kind:scope.kind=.function
 names:∀y∈scope.names,y.2=.local→scope.names.lookup y.1=some .local
 nocl:∀y∈scope.names,y.2=.cell→scope.names.lookup y.1=some .cell
 sub:∀x c,cl.lookup x=some c→X.env.cells.lookup x=some c∧scope.names.lookup x=some .free
 has:∀x,scope.names.lookup x=some .free→∃c,cl.lookup x=some c
 len:M.length=X.N.length
 vis:∀(i:Nat) (x:Str),M[i]? = some x→∀k,scope.names.lookup x=some k→k≠.local∧k≠.cell∧(k=.free→X.N[i]? = some x∧(X.env.kindOf x=some .cell∨X.env.kindOf x=some .free))
theorem Bx{scope:Scope}{env:Env}{x:Str}:(relabel scope env).names.lookup x=(scope.names.lookup x).map fun k=>if (k == NameKind.free&&env.scope.kind == .function&&env.kindOf x == some .cell)=true then NameKind.cell else k:=by
 show(scope.names.map fun(n,k)=>if (k == NameKind.free&&env.scope.kind == .function&&env.kindOf n == some .cell) then (n,NameKind.cell) else (n,k)).lookup x=_;generalize scope.names=names
 induction names with
 |nil=>rfl
 |cons y r ih=>
  obtain⟨n,k⟩:=y;rw[List.map_cons]
  by_cases hx:x=n
  ·subst hx
   by_cases hc:(k == NameKind.free&&env.scope.kind == .function&&env.kindOf x == some .cell)=true
   ·simp only[hc,if_true,List.lookup_cons_self,Option.map_some]
   ·simp only[hc,Bool.false_eq_true,if_false,List.lookup_cons_self,Option.map_some]
  ·have e:∀k',List.lookup x ((n,k')::r)=List.lookup x r:=fun k'=>by rw[List.lookup_cons,beq_false_of_ne hx]
   rw[e,←ih]
   by_cases hc:(k == NameKind.free&&env.scope.kind == .function&&env.kindOf n == some .cell)=true
   ·simp only[hc,if_true];rw[List.lookup_cons,beq_false_of_ne hx]
   ·simp only[hc];rw[show(if false=true then (n,NameKind.cell) else (n,k))=(n,k) from rfl,List.lookup_cons,beq_false_of_ne hx]
theorem Be:∀(names:List (Str×NameKind)) (n:Nat) (acc:List (Str×Addr)),∃own,cellsFrom n names acc=own++acc∧(∀p∈own,(p.1,NameKind.cell)∈names∧n≤p.2)∧∀x,(x,NameKind.cell)∈names→∃c,own.lookup x=some c
 |[],n,acc=>⟨[],rfl,by simp,by simp⟩
 |(y,k)::r,n,acc=>by
  unfold cellsFrom
  by_cases hk:(k == NameKind.cell)=true
  ·rw[if_pos hk];obtain⟨own,e,h1,h2⟩:=Be r (n+1) ((y,n)::acc);have hk':k=.cell:=by simpa using hk
   subst hk';refine⟨own++[(y,n)],by rw[e];simp,fun p hp=>?_,fun x hx=>?_⟩
   ·rcases List.mem_append.mp hp with hp|hp
    ·exact⟨List.mem_cons_of_mem _ (h1 p hp).1,by have:=(h1 p hp).2;omega⟩
    ·have:p=(y,n):=by simpa using hp
     subst this;exact⟨by simp,Nat.le_refl _⟩
   ·rcases List.mem_cons.mp hx with z|z
    ·cases z;rw[List.lookup_append];cases q:own.lookup y with
     |some c=>exact⟨c,rfl⟩
     |none=>exact⟨n,by simp⟩
    ·obtain⟨c,hc⟩:=h2 x z;exact⟨c,by rw[List.lookup_append,hc];rfl⟩
  ·rw[if_neg hk];obtain⟨own,e,h1,h2⟩:=Be r n acc;refine⟨own,e,fun p hp=>⟨List.mem_cons_of_mem _ (h1 p hp).1,(h1 p hp).2⟩,fun x hx=>?_⟩;rcases List.mem_cons.mp hx with z|z
   ·cases z;exact absurd rfl hk
   ·exact h2 x z
theorem B2{X:Cx}{scope:Scope}{cl:List (Str×Addr)}{T M:List Str}(ok:CompOz X scope cl T M)(C:Addr):∀x c,(A3 scope cl C).lookup x=some c→(scope.names.lookup x=some .cell∧C+1≤c)∨(cl.lookup x=some c∧scope.names.lookup x=some .free):=by
 intro x c h;obtain⟨own,e,h1,h2⟩:=Be scope.names (C+1) cl;unfold A3 at h;rw[e,List.lookup_append] at h;cases q:own.lookup x with
 |some c'=>
  rw[q] at h;have h:some c'=some c:=h;cases h
  have:=h1 _ (PySem.mem_of_lookup q)
  exact .inl ⟨ok.nocl _ this.1 rfl,this.2⟩
 |none=>
  rw[q] at h;have h:cl.lookup x=some c:=h;exact .inr ⟨h,(ok.sub x c h).2⟩
theorem Ei{X:Cx}{scope:Scope}{cl:List (Str×Addr)}{T M:List Str}(ok:CompOz X scope cl T M)(C:Addr){x:Str}(hx:scope.names.lookup x=some .free):(A3 scope cl C).lookup x=cl.lookup x:=by
 obtain⟨own,e,h1,h2⟩:=Be scope.names (C+1) cl;unfold A3;rw[e,List.lookup_append];cases q:own.lookup x with
 |some c'=>
  have:=ok.nocl _ (h1 _ (PySem.mem_of_lookup q)).1 rfl
  rw[hx] at this;cases this
 |none=>rfl
theorem F1{X:Cx}{scope:Scope}{cl:List (Str×Addr)}{T M:List Str}{pins:List (Addr×Obj)}{σ:St}{H:Hp}{s s4:Shared}{fp:List Addr}{m:Str→Option Value}(ok:CompOz X scope cl T M)(I:Inv X pins σ H s)(hfp:∀b∈fp,Dl X pins H b∧b<s.heap.objs.size)(hn:s4.heap.Ns s.heap.objs.size m)(hk:∀b o,s.heap.get? b=some o→s4.heap.get? b=some o)(hos:s4.os=s.os)(hg:s4.gens=s.gens)(hc1:∀x c,(A3 scope cl s.heap.objs.size).lookup x=some c→scope.names.lookup x=some .cell→∃v,s4.heap.IsCell c v)(hc2:∀x y c,(A3 scope cl s.heap.objs.size).lookup x=some c→(A3 scope cl s.heap.objs.size).lookup y=some c→scope.names.lookup x=some .cell→x=y) :
  Inv (Al X scope cl T M s H fp) [] (Oa T σ) H s4:=by
 have fr:∀{b:Addr},s.heap.objs.size≤b→H b=none:=fun h=>I.hok.fresh h;have old:∀x c,cl.lookup x=some c→c<s.heap.objs.size:=fun x c e=>by
  obtain⟨v,o,ho,_⟩:=I.cell x c (ok.sub x c e).1;exact Heap.lt_size ho
 have lk:=B2 ok s.heap.objs.size;have inj:∀x y c,(A3 scope cl s.heap.objs.size).lookup x=some c→(A3 scope cl s.heap.objs.size).lookup y=some c→x=y:=fun x y c h1 h2=>by
  rcases lk x c h1 with ⟨a1,a2⟩|⟨a1,a2⟩
  ·exact hc2 x y c h1 h2 a1
  ·rcases lk y c h2 with ⟨b1,b2⟩|⟨b1,b2⟩
   ·exact absurd (Nat.lt_of_lt_of_le (old x c a1) (Nat.le_of_succ_le b2)) (Nat.lt_irrefl _)
   ·exact I.ok.inj x y c (ok.sub x c a1).1 (ok.sub y c b1).1
 have has:∀x,((relabel scope X.env).names.lookup x=some .cell∨(relabel scope X.env).names.lookup x=some .free)→∃c,(A3 scope cl s.heap.objs.size).lookup x=some c:=fun x hx=>by
  rw[Bx] at hx;cases q:scope.names.lookup x with
  |none=>rw[q] at hx;simp at hx
  |some k=>
   rw[q] at hx;simp only[Option.map_some] at hx
   by_cases hkf:k=.free
   ·subst hkf;obtain⟨c,hc⟩:=ok.has x q;exact⟨c,by rw[Ei ok _ q];exact hc⟩
   ·have:k=.cell:=by
     have hb:(k == NameKind.free)=false:=by simpa using hkf
     simp only[hb,Bool.false_and,Bool.false_eq_true,if_false,Option.some.injEq] at hx;exact hx.elim id fun z=>absurd z hkf
    subst this;obtain⟨own,e,h1,h2⟩:=Be scope.names (s.heap.objs.size+1) cl;obtain⟨c,hc⟩:=h2 x (PySem.mem_of_lookup q);exact⟨c,by unfold A3;rw[e,List.lookup_append,hc];rfl⟩
 refine⟨⟨I.ok.mod,ok.kind,I.ok.glob,I.ok.blt,Nat.le_refl _,inj,has,fun x c h h1=>?_,I.ok.hd,I.ok.frames,.inl rfl,fun b hb=>⟨Nat.ne_of_lt (hfp b hb).2,fun x c e=>?_⟩,I.bs,Nat.le_trans I.ok.bsz I.sz,fun b o e hb=>?_,fun b hb z=>?_,I.stack,I.stkFree⟩,
  hos,by rw[hg];exact I.bare,Un.kept hk,⟨m,hn,fun i x v e1 e2 e3=>?_⟩,fun x c e=>?_,fr (Nat.le_refl _),fun x c e=>?_,fun p hp=>absurd (show p∈([]:List (Addr×Obj)) from hp) (by simp),I.hok.kept hk,?_⟩
 ·have h:(scope.names.lookup x == some .cell)=true:=h;have h:scope.names.lookup x=some .cell:=by simpa using h
  rcases lk x c h1 with ⟨_,a2⟩|⟨_,a2⟩
  ·exact Nat.le_of_succ_le a2
  ·rw[h] at a2;cases a2
 ·rcases lk x c e with ⟨_,a2⟩|⟨a1,a2⟩
  ·exact Nat.ne_of_gt (Nat.lt_of_lt_of_le (hfp b hb).2 (Nat.le_of_succ_le a2))
  ·exact(hfp b hb).1.2.2.2.2.1 x c (ok.sub x c a1).1
 ·rcases(hfp b hb).1.2.2.2.1 with z|z
  ·exact I.ok.noex b o e z
  ·exact absurd (Nat.lt_of_lt_of_le (Heap.lt_size e) (Nat.le_trans I.ok.bsz z)) (Nat.lt_irrefl _)
 ·rcases List.mem_cons.mp (I.stkSub b z) with e|e
  ·exact(hfp b hb).1.2.1 e
  ·exact(hfp b hb).1.2.2.1 e
 ·have e1:(T++M)[i]? = some x:=e1;have e2:(List.replicate T.length none++σ)[i]? = some (some v):=e2
  by_cases hi:i<T.length
  ·rw[List.getElem?_append_left (by simpa using hi),List.getElem?_replicate,if_pos hi] at e2
   cases e2
  ·rw[List.getElem?_append_right (by omega)] at e1
   rw[List.getElem?_append_right (by simpa using hi),List.length_replicate] at e2
   have e3:Vis (relabel scope X.env) x:=e3;have hq:∃k,scope.names.lookup x=some k∧k=.free:=by
    cases q:scope.names.lookup x with
    |none=>unfold Vis at e3;rw[Bx,q] at e3;simp at e3
    |some k=>
     obtain⟨v1,v2,_⟩:=ok.vis _ x e1 k q;refine⟨k,rfl,?_⟩;unfold Vis at e3;rw[Bx,q] at e3
     by_cases hkf:k=.free
     ·exact hkf
     ·have hb:(k == NameKind.free)=false:=by simpa using hkf
      simp only[Option.map_some,hb,Bool.false_and,Bool.false_eq_true,if_false,Option.some.injEq] at e3;rcases e3 with z|z|z
      ·exact absurd z v1
      ·exact absurd z v2
      ·exact z
   obtain⟨k,hq,rfl⟩:=hq;obtain⟨e1,k2⟩:=(ok.vis _ x e1 _ hq).2.2 rfl;obtain⟨m0,hn0,hl0⟩:=I.loc;have v0:Vis X.env.scope x:=k2.elim (fun z=>.inr (.inl z)) fun z=>.inr (.inr z);obtain⟨u,r,l⟩:=hl0 _ x v e1 e2 v0;have k1:(relabel scope X.env).names.lookup x=some .cell∨(relabel scope X.env).names.lookup x=some .free:=by
    rw[Bx,hq];simp only[Option.map_some]
    split
    ·exact .inl rfl
    ·exact .inr rfl
   refine⟨u,r,.inr ⟨k1,?_⟩⟩;obtain⟨c,hc⟩:=ok.has x hq;refine⟨c,(Ei ok _ hq).trans hc,?_⟩;rcases l with ⟨l,_⟩|⟨_,c',hc',hv'⟩
   ·rcases k2 with z|z
    ·rw[l] at z;cases z
    ·rw[l] at z;cases z
   ·rw[(ok.sub x c hc).1] at hc';cases hc';obtain⟨o,ho,hd⟩:=hv';exact⟨o,hk _ _ ho,hd⟩
 ·rcases lk x c e with ⟨a1,a2⟩|⟨a1,a2⟩
  ·exact hc1 x c e a1
  ·obtain⟨v,o,ho,hd⟩:=I.cell x c (ok.sub x c a1).1;exact⟨v,o,hk _ _ ho,hd⟩
 ·rcases lk x c e with ⟨a1,a2⟩|⟨a1,a2⟩
  ·exact fr (Nat.le_of_succ_le a2)
  ·exact I.freeC x c (ok.sub x c a1).1
 ·show(List.replicate T.length none++σ).length=(T++M).length;rw[List.length_append,List.length_append,List.length_replicate,I.len,ok.len]

def Mr(P:Program)(w:World)(A:Around)(env:Env)(tg elt:Expr)(ifs:List Expr)(it acc:Value)(X:Value→Shared→Prop)(nxt:Shared→Prop)(v:Value)(t:Shared):Prop:=
 wpAny (model P w) A (letOwnedTupleGo tg it v) (fun _ a=>wpAny (model P w) A (assign tg env v) (fun _ b=>wpAny (model P w) A (Hg ifs env) (fun y c=>
  if y=true then wpAny (model P w) A (eval elt env) (fun e d=>wpAny (model P w) A (call (.builtin "list.append") [acc,e]) (fun _ f=>nxt f) X d) X c else nxt c) X b) X a) X t
theorem Gi{P:Program}{w:World}{A:Around}{R:Result→Shared→Prop}{s:Shared}{elt tg src:Expr}{ifs:List Expr}{sc:Scope}{pl:Pos}{it acc:Value}{env:Env}(V:Nat→Shared→Prop)(go:∀k t,V k t→wpAny (model P w) A (pyNext it) (fun r u=>match r with
   |none=>R (.ok .next) u
   |some v=>Mr P w A env tg elt ifs it acc (notedBy (model P w) A env fun e z=>R (.error e) z) (fun z=>∃m,m<k∧V m z) v u) (notedBy (model P w) A env fun e z=>R (.error e) z) t)(k:Nat)(h0:V k s):codeAny (model P w) A (.compLoop (.ListComp elt [⟨tg,src,ifs,0⟩] sc pl) 0 it acc env) R s:=by
 refine codeAny_loop rfl V (fun k t hv=>(show wpAny _ A ((compTurn (.ListComp elt [⟨tg,src,ifs,0⟩] sc pl) 0 it acc env).onRaise (fun x=>do noteFrame x env;theTreesLotGoes x)) _ _ t from wpAny_noted ?_)) k h0
 rw[compTurn_list];refine wpAny_bind (wpAny_standAt (wpAny_bind (wpAny_mono (go k t hv) (fun r u hr=>?_) fun _ _ z=>z)));cases r with
 |none=>exact wpAny_pure hr
 |some v=>
  refine wpAny_bind (wpAny_mono hr (fun _ a ha=>wpAny_bind (wpAny_mono ha (fun _ b hb=>wpAny_bind (wpAny_mono hb (fun y c hc=>?_) fun _ _ z=>z)) fun _ _ z=>z)) fun _ _ z=>z);cases y with
  |true=>exact wpAny_bind (wpAny_bind (wpAny_mono hc (fun e d hd=>wpAny_bind (wpAny_mono hd (fun _ f hf=>wpAny_pure (wpAny_pure ⟨rfl,hf⟩)) fun _ _ z=>z)) fun _ _ z=>z))
  |false=>refine wpAny_pure ⟨rfl,?_⟩;exact hc
theorem Hs{M:Model}{A:Around}{E:Value→Shared→Prop}{s:Shared}{scope:Scope}{env:Env}{cl:List (Str×Addr)}{Q:Env→Shared→Prop}(hk:scope.kind=.function)(h:∀h':Heap,h'.Ns s.heap.objs.size (fun _=>none)→(∀b o,s.heap.get? b=some o→h'.get? b=some o)→CellsOk h' (s.heap.objs.size+1) (cellsFrom (s.heap.objs.size+1) scope.names [])→
   Q (newEnv scope s.heap.objs.size env.globals (A3 scope cl s.heap.objs.size) env.qual none .none (some env) builtinsNs) { s with heap:=h' }) :
  wpAny M A (newFunctionEnv scope env.globals cl [] env.qual none .none (some env)) Q E s:=by
 simp only[newFunctionEnv,Option.isSome_some,if_true];refine wpAny_bind (wpAny_alloc ?_);refine wpAny_bind (wpAny_layCells _ (fun name kind cells=>by cases hkc:kind == NameKind.cell<;>simp) _ _ _ _ ?_)
 have okc:=cellsFrom_ok scope.names (s.heap.push { cls:=.type "dict",data:=.dict #[] }) (s.heap.objs.size+1) [] ⟨fun _ _ hm=>(nomatch hm),List.Pairwise.nil⟩ (by rw[Heap.size_push];exact Nat.le_refl _)
 rw[Heap.size_push] at okc;rw[show({ s with heap:=s.heap.push { cls:=.type "dict",data:=.dict #[] } }:Shared).heap.objs.size=s.heap.objs.size+1 from Heap.size_push ..];refine wpAny_bind ?_;rw[List.forIn_nil];refine wpAny_pure (wpAny_pure ?_);exact h _ ((Heap.Ns.new s.heap (.type "dict")).keeps (pushCells_keeps _ _)) (fun b o e=>pushCells_keeps _ _ b o (Heap.get?_push_of_some _ e)) okc

theorem B6:∀(names:List (Str×NameKind)) (n:Nat) (acc:List (Str×Addr)),cellsFrom n names acc=cellsFrom n names []++acc
 |[],n,acc=>rfl
 |(y,k)::r,n,acc=>by
  unfold cellsFrom
  split
  ·rw[B6 r (n+1) ((y,n)::acc),B6 r (n+1) [(y,n)]];simp
  ·exact B6 r n acc
theorem Ou{scope:Scope}{cl:List (Str×Addr)}{C:Addr}{x:Str}{c:Addr}(h:(A3 scope cl C).lookup x=some c)(hn:cl.lookup x=none∨C+1≤c)(old:∀x c,cl.lookup x=some c→c<C):(x,c)∈cellsFrom (C+1) scope.names []:=by
 unfold A3 at h;rw[B6,List.lookup_append] at h;cases q:(cellsFrom (C+1) scope.names []).lookup x with
 |some c'=>
  rw[q] at h;have h:some c'=some c:=h;cases h;exact PySem.mem_of_lookup q
 |none=>
  rw[q] at h;have h:cl.lookup x=some c:=h;rcases hn with z|z
  ·rw[z] at h;cases h
  ·exact absurd (Nat.lt_of_lt_of_le (old x c h) (Nat.le_of_succ_le z)) (Nat.lt_irrefl _)
theorem Lw{X:Cx}{scope:Scope}{cl:List (Str×Addr)}{T M:List Str}{C:Addr}{h':Heap}(ok:CompOz X scope cl T M)(okc:CellsOk h' (C+1) (cellsFrom (C+1) scope.names []))(old:∀x c,cl.lookup x=some c→c<C) :
  ∀x c,(A3 scope cl C).lookup x=some c→scope.names.lookup x=some .cell→∃v,h'.IsCell c v:=fun x c h hx=>by
 rcases B2 ok C x c h with ⟨_,a2⟩|⟨_,a2⟩
 ·exact⟨_,(okc.empty x c (Ou h (.inr a2) old)).1⟩
 ·rw[hx] at a2;cases a2
theorem Lv{X:Cx}{scope:Scope}{cl:List (Str×Addr)}{T M:List Str}{C:Addr}{h':Heap}(ok:CompOz X scope cl T M)(okc:CellsOk h' (C+1) (cellsFrom (C+1) scope.names []))(old:∀x c,cl.lookup x=some c→c<C) :
  ∀x y c,(A3 scope cl C).lookup x=some c→(A3 scope cl C).lookup y=some c→scope.names.lookup x=some .cell→x=y:=fun x y c h1 h2 hx=>by
 rcases B2 ok C x c h1 with ⟨_,a2⟩|⟨_,a2⟩
 ·exact name_of_addr okc.apart (Ou h1 (.inr a2) old) (Ou h2 (.inr a2) old)
 ·rw[hx] at a2;cases a2
def Og(n:Nat)(wi:TI)(g:TG)(tf:TT)(te:TE):TE:=fun σ H Q=>wi σ H fun J H1=>∀p,H1 p=none→∃W:Nat→Nat→St→Hp→Prop,(∃m,W 0 m (List.replicate n none++σ) (upd H1 p (.lst [])))∧∀i m σ1 H,W i m σ1 H→
 ((J.stop i H∧Q (.ref p) H)∨(J.go i H∧∃N:St→Hp→Prop,(∀σ' H',N σ' H'→∃m',m'<m∧W (i+1) m' σ' H')∧
  ∀x H',J.yld i H x H'→g x σ1 H' fun σ2 H2=>tf σ2 H2 fun b H3=>if b=true then te σ2 H3 fun y H4=>∃ys,H4 p=some (.lst ys)∧ys.length<sizeLine∧N σ2 (upd H4 p (.lst (ys++[y]))) else N σ2 H3))
theorem C8{X:Cx}{elt iter tg:Expr}{ifs:List Expr}{scope:Scope}{cl:List (Str×Addr)}{pos:Pos}{wi:TI}{g:TG}{tf:TT}{te:TE}{T M:List Str}(hc:X.calm=true)(ok:CompOz X scope cl T M)(hi:PI X tg iter wi)(hg:∀s H fp,PG (Al X scope cl T M s H fp) tg g)(hf:∀s H fp,PF (Al X scope cl T M s H fp) ifs tf)(he:∀s H fp,PE (Al X scope cl T M s H fp) elt te)(hs:∀x,foldedSetIterable iter X.env x=pure x:=by intro _;rfl):PE X (.ListComp elt [⟨tg,iter,ifs,0⟩] scope pos) (Og T.length wi g tf te):=by
 intro pins s σ H Q I h;rw[eval_ListComp];refine wpAny_comprehension_free (use:=none) (cl:=cl) rfl hs ok.clos ok.kind ok.names (thn (hi pins s σ H _ I h) fun v s1 h1=>thn h1 fun itv s2 h2=>?_);obtain⟨it,fp,tn,J,H2,e,I2,Tn,st2,f2,q⟩:=h2;subst e;have q:=q s2.heap.objs.size (I2.hok.fresh (Nat.le_refl _));refine wpAny_newObj_type ?_
 -- the new list,tracked
 have I3:Inv X pins σ (upd H2 s2.heap.objs.size (.lst [])) { s2 with heap:=s2.heap.push { cls:=.type "list",dict:=none,data:=.seq ([]:List Value).toArray } }:=
  I2.laid (t':=s2.toks) (fun b u e=>Heap.get?_push_of_some _ e) (Nat.le_refl _) ⟨Nat.zero_le _,[],0,.nil,Heap.get?_push_size _ rfl⟩
 generalize hH3:upd H2 s2.heap.objs.size (.lst [])=H3 at I3 q;generalize hs3:({ s2 with heap:=s2.heap.push { cls:=.type "list",dict:=none,data:=.seq ([]:List Value).toArray } }:Shared)=s3 at I3;have fpl:∀b∈fp,b<s2.heap.objs.size:=fun b hb=>let ⟨o,e,_⟩:=Tn.obj 0 _ st2 b hb;Heap.lt_size e;have sz3:s2.heap.objs.size≤s3.heap.objs.size:=by rw[←hs3];show _≤(s2.heap.push _).objs.size;rw[Heap.size_push];exact Nat.le_succ _
 have fok:∀b∈fp,Dl X pins H3 b:=fun b hb=>⟨by rw[←hH3,Ae (Nat.ne_of_lt (fpl b hb))];exact(f2 b hb).1,(f2 b hb).2⟩
 have k23:∀b o,s2.heap.get? b=some o→s3.heap.get? b=some o:=fun b o e=>by rw[←hs3];exact Heap.get?_push_of_some _ e
 have st3:tn 0 s3.heap:=Tn.keep _ _ _ st2 fun b _ o e=>k23 b o e;refine Hs ok.kind (fun h4 hns4 k34 okc=>?_);have oldc:∀x c,cl.lookup x=some c→c<s3.heap.objs.size:=fun x c e=>by
  obtain⟨v,o,ho,_⟩:=I3.cell x c (ok.sub x c e).1;exact Heap.lt_size ho
 have hc1:=Lw (h':=h4) ok okc oldc;have hc2:=Lv (h':=h4) ok okc oldc;have I4:Inv (Al X scope cl T M s3 H3 fp) [] (Oa T σ) H3 { s3 with heap:=h4 }:=
  F1 ok I3 (fun b hb=>⟨fok b hb,Nat.lt_of_lt_of_le (fpl b hb) sz3⟩) hns4 k34 rfl rfl hc1 hc2
 have st4:tn 0 h4:=Tn.keep _ _ _ st3 fun b _ o e=>k34 b o e;obtain⟨W,⟨m0,w0⟩,turn⟩:=q;have cfpc:∀b∈fp,∀x c,(A3 scope cl s3.heap.objs.size).lookup x=some c→c≠b:=fun b hb x c e=>by
  rcases B2 ok s3.heap.objs.size x c e with ⟨_,a2⟩|⟨a1,_⟩
  ·exact Nat.ne_of_gt (Nat.lt_of_lt_of_le (Nat.lt_of_lt_of_le (fpl b hb) sz3) (Nat.le_of_succ_le a2))
  ·exact(fok b hb).2.2.2.2.1 x c (ok.sub x c a1).1
 have cfp:∀{H':Hp},(∀b∈fp,H' b=none)→∀b∈fp,Dl (Al X scope cl T M s3 H3 fp) [] H' b:=fun hn b hb=>by
  refine⟨hn b hb,Nat.ne_of_lt (Nat.lt_of_lt_of_le (fpl b hb) sz3),fun z=>?_,.inl hb,fun x c e=>cfpc b hb x c e,fun p hp=>absurd (show p∈([]:List (Addr×Obj)) from hp) (by simp)⟩
  rcases List.mem_cons.mp (I3.stkSub b z) with e|e
  ·exact(fok b hb).2.1 e
  ·exact(fok b hb).2.2.1 e
 have fin:∀(σ':St) (H':Hp) (s':Shared),Inv (Al X scope cl T M s3 H3 fp) [] σ' H' s'→Q (.ref s2.heap.objs.size) H'→compPost (model X.prog X.w) X.A X.xe none (EP X pins σ Q) (.ref s2.heap.objs.size) s3.heap.objs.size (.ok .next) s':=fun σ' H' s' J q=>by
  obtain⟨m',hm',_⟩:=J.loc;refine⟨m',hm',fun h' hs'=>?_⟩;have J0:Inv X pins σ H' s':=I3.call' (ch:=fp) J.os J.base J.hok J.bare fun b hb=>⟨(fok b hb).2.2.2.1,(fok b hb).2.1,(fok b hb).2.2.2.2.1,(fok b hb).2.2.2.2.2⟩;have nC:=I3.fpOk (H':=H') (Nat.le_refl s3.heap.objs.size) J.free;exact⟨.ref s2.heap.objs.size,H',J0.turned (t':=s'.toks) (fun b o hb e=>(hs'.2 b hb).trans e) nC.1 nC.2.1 nC.2.2.2.1 nC.2.2.2.2.1 nC.2.2.2.2.2,rfl,q⟩
 have loop:∀s5:Shared,s5={ s3 with heap:=h4 }→
   codeAny (model X.prog X.w) X.A (.compLoop (.ListComp elt [⟨tg,iter,ifs,0⟩] scope pos) 0 (.ref it) (.ref s2.heap.objs.size) (compEnvC scope (A3 scope cl s3.heap.objs.size) s3.heap.objs.size X.env))
    (compPost (model X.prog X.w) X.A X.xe none (EP X pins σ Q) (.ref s2.heap.objs.size) s3.heap.objs.size) s5:=by
  rintro s5 rfl;refine Gi (fun k s'=>∃i σ' H',Inv (Al X scope cl T M s3 H3 fp) [] σ' H' s'∧tn i s'.heap∧(∀b∈fp,H' b=none)∧W i k σ' H') ?_ m0 ⟨0,Oa T σ,H3,I4,st4,fun b hb=>(fok b hb).1,w0⟩;rintro k s6 ⟨i,σ6,H6,I6,st6,fr6,w6⟩;rcases turn i k σ6 H6 w6 with ⟨stop,qn⟩|⟨go,N,hN,step⟩
  ·refine wpAny_mono (Tn.done (Al X scope cl T M s3 H3 fp) rfl rfl rfl hc i [] s6 _ H6 (fun _ _=>False) I6 (cfp fr6) st6 stop) (fun r s7 ⟨hr,I7⟩=>?_) fun _ _ z=>z.elim;subst hr;exact fin _ H6 s7 I7 qn
  ·refine wpAny_mono (Tn.item (Al X scope cl T M s3 H3 fp) rfl rfl rfl hc i [] s6 _ H6 (fun _ _=>False) I6 (cfp fr6) st6 go) (fun r s7 ⟨u,hr,h7⟩=>?_) fun _ _ z=>z.elim;subst hr;show Mr _ _ _ _ _ _ _ _ _ _ _ _ _;unfold Mr;refine wpAny_mono h7 (fun _ s8 h8=>?_) fun _ _ z=>z.elim;obtain⟨x7,H7,I7,r7,y7,st7,fr7⟩:=h8;have I7':=I7.pinned (cfp fr7) (Tn.obj _ _ st7);have back:∀{σ8:St} {H8:Hp} {s9:Shared},Inv (Al X scope cl T M s3 H3 fp) ([]++C4 fp s8.heap) σ8 H8 s9→tn (i+1) s9.heap∧∀b∈fp,H8 b=none:=fun {σ8 H8 s9} I8=>by
    refine⟨Tn.keep _ _ _ st7 fun b hb o e=>(I8.pin (b,o) (List.mem_append_right _ (List.mem_append_right _ (Bl hb e)))).1,fun b hb=>?_⟩;obtain⟨o,e,d⟩:=Tn.obj _ _ st7 b hb;exact(I8.pin (b,o) (List.mem_append_right _ (List.mem_append_right _ (Bl hb e)))).2.1
   have again:∀{σ9:St} {H9:Hp} {s9:Shared},Inv (Al X scope cl T M s3 H3 fp) ([]++C4 fp s8.heap) σ9 H9 s9→N σ9 H9→
     ∃m,m<k∧∃i σ' H',Inv (Al X scope cl T M s3 H3 fp) [] σ' H' s9∧tn i s9.heap∧(∀b∈fp,H' b=none)∧W i m σ' H':=fun {σ9 H9 s9} I9 n9=>by
    obtain⟨m',hm,w9⟩:=hN σ9 H9 n9;obtain⟨b1,b2⟩:=back I9;exact⟨m',hm,i+1,σ9,H9,I9.unpinned,b1,b2,w9⟩
   refine wpAny_mono (hg s3 H3 fp _ s8 σ6 H7 x7 u _ I7' r7 (step x7 H7 y7)) (fun _ s9 ⟨σ9,H9,I9,q9⟩=>?_) fun _ _ z=>z.elim;refine wpAny_mono (hf s3 H3 fp _ s9 σ9 H9 _ I9 q9) (fun okb s10 ⟨H10,I10,q10⟩=>?_) fun _ _ z=>z.elim;cases okb with
   |false=>
    rw[if_neg Bool.false_ne_true] at q10 ⊢;exact again I10 q10
   |true=>
    rw[if_pos rfl] at q10 ⊢;refine wpAny_mono (he s3 H3 fp _ s10 σ9 H10 _ I10 q10) (fun y s11 ⟨yv,H11,I11,ry,ys,e11,l11,n11⟩=>?_) fun _ _ z=>z.elim;refine wpAny_mono (Fv (X:=Al X scope cl T M s3 H3 fp) _ s11 σ9 H11 (.ref s2.heap.objs.size) [yv] (.ref s2.heap.objs.size) [y] (fun _ H12=>N σ9 H12) I11 rfl (.cons ry .nil) ⟨_,ys,yv,rfl,rfl,e11,l11,n11⟩) (fun _ s12 ⟨_,H12,I12,_,n12⟩=>?_) fun _ _ z=>z.elim;exact again I12 n12
 exact codeAny_compStart_list (loop _ rfl) (Tn.self _ 0 _ _ _ st4 (loop _ rfl))


theorem Cf{X:Cx}{scope:Scope}{T M:List Str}(h1:(scope.names.all fun y=>!(y.2 == .free)||(X.env.cells.lookup y.1).isSome)=true:=by rfl)(h3:scope.kind=.function:=by rfl)(h4:(scope.names.all fun y=>scope.names.lookup y.1 == some y.2)=true:=by rfl)(h6:M.length=X.N.length:=by rfl)(h5:((M.zip X.N).all fun z=>match scope.names.lookup z.1 with|some .local=>false|some .cell=>false|some .free=>z.1 == z.2&&(X.env.kindOf z.1 == some .cell||X.env.kindOf z.1 == some .free)|_=>true)=true:=by rfl) :
  CompOz X scope (Bi X.env.cells scope.names []) T M:=by
 have hl:∀y∈scope.names,scope.names.lookup y.1=some y.2:=fun y hy=>by simpa using List.all_eq_true.mp h4 y hy
 have only:∀(names:List (Str×NameKind)) (cs:List (Str×Addr)) (x:Str) (c:Addr),(Bi X.env.cells names cs).lookup x=some c→(x,NameKind.free)∈names∨cs.lookup x=some c:=by
  intro names
  induction names with
  |nil=>intro cs x c h;exact .inr h
  |cons y r ih=>
   intro cs x c h;obtain⟨n,k⟩:=y;unfold Bi at h
   split at h
   ·rename_i hk
    split at h
    ·rename_i c' hc;rcases ih _ x c h with z|z
     ·exact .inl (List.mem_cons_of_mem _ z)
     ·by_cases hx:x=n
      ·subst hx
       have:k=.free:=by simpa using hk
       subst this;exact .inl (by simp)
      ·rw[List.lookup_cons,beq_false_of_ne hx] at z;exact .inr z
    ·rcases ih _ x c h with z|z
     ·exact .inl (List.mem_cons_of_mem _ z)
     ·exact .inr z
   ·rcases ih _ x c h with z|z
    ·exact .inl (List.mem_cons_of_mem _ z)
    ·exact .inr z
 refine⟨?_,h3,fun y hy z=>by rw[hl y hy,z],fun y hy z=>by rw[hl y hy,z],fun x c e=>⟨Ec _ _ (fun _ _ z=>by simp at z) x c e,?_⟩,fun x hx=>F2 _ _ x h1 (.inl (PySem.mem_of_lookup hx)),h6,fun i x hx k q=>?_⟩
 ·unfold closureFor
  have:=Aaq (env:=X.env) scope.names [] h1
  simp only[bind_pure];exact this
 ·rcases only _ _ x c e with z|z
  ·exact hl _ z
  ·simp at z
 ·have hi:i<X.N.length:=by rw[←h6];exact(List.getElem?_eq_some_iff.mp hx).1
  have hz:(M.zip X.N)[i]? = some (x,X.N[i]):=by rw[List.getElem?_zip_eq_some];exact⟨hx,List.getElem?_eq_getElem hi⟩
  have this:=List.all_eq_true.mp h5 _ (List.mem_of_getElem? hz);dsimp only at this;rw[q] at this;refine⟨fun z=>?_,fun z=>?_,fun z=>?_⟩
  ·subst z;exact absurd this (by simp)
  ·subst z;exact absurd this (by simp)
  ·subst z;simp only[Bool.and_eq_true,beq_iff_eq,Bool.or_eq_true] at this;exact⟨by rw[List.getElem?_eq_getElem hi,←this.1],this.2⟩
theorem Bn{K:W.Frag}{J:It}{n:Nat}{p:Addr}{ds:List D}{same:Gp→Prop}{g:DTG}{tf:DTT}{te:DTE}{Q:DK}{QV:VK}{σD:DSt}{σ:St}{G:Gp}{H:Hp}(rs:RelS K H σD σ)(rg:RelG K H G)(hp:H p=none)(cl:∀d G',Q d G'→Fwd K H G' fun H'=>∀v,DV K H' d v→QV v H')(hJ:∀H' G',Ext H H'→RelG K H' G'→same G'→ItemsX K J H' ds)(h:Ef n p ds same g tf te σD (Ab G p (.lst [])) Q) :
  ∃W:Nat→Nat→St→Hp→Prop,(∃m,W 0 m (List.replicate n none++σ) (upd H p (.lst [])))∧∀i m σ1 H,W i m σ1 H→
   ((J.stop i H∧QV (.ref p) H)∨(J.go i H∧∃N:St→Hp→Prop,(∀σ' H',N σ' H'→∃m',m'<m∧W (i+1) m' σ' H')∧
    ∀x H',J.yld i H x H'→Cn K g x σ1 H' fun σ2 H2=>Cw K tf σ2 H2 fun b H3=>if b=true then Ba K te σ2 H3 fun y H4=>∃ys,H4 p=some (.lst ys)∧ys.length<sizeLine∧N σ2 (upd H4 p (.lst (ys++[y]))) else N σ2 H3)):=by
 obtain⟨P,p0,keep,step,fin⟩:=h;refine⟨fun i m σ' H'=>m=ds.length-i∧i≤ds.length∧RelS K H' (List.replicate n none++σD) σ'∧∃yd G',RelG K H' G'∧Ext H H'∧P i yd G',
  ⟨ds.length,rfl,Nat.zero_le _,(Qj n rs).ext (Ext.fresh hp),[],_,rg.lst hp .nil,Ext.fresh hp,p0⟩,?_⟩
 rintro i m σ1 H1 ⟨rfl,hi,rs1,yd,G1,rg1,x1,p1⟩;obtain⟨sm,gp⟩:=keep i yd G1 hi p1;have I:=hJ H1 G1 x1 rg1 sm
 by_cases hlt:i<ds.length
 ·refine .inr ⟨I.go i hlt,fun σ' H'=>RelS K H' (List.replicate n none++σD) σ'∧∃yd' G',RelG K H' G'∧Ext H H'∧P (i+1) yd' G',fun σ' H' ⟨a2,yd',G',a3,a4,a5⟩=>⟨ds.length-(i+1),by omega,rfl,hlt,a2,yd',G',a3,a4,a5⟩,fun x H' y=>?_⟩
  obtain⟨xe,rge,d,ed,dv⟩:=I.yl i x H' hlt y;refine⟨d,_,G1,_,dv,rs1.ext xe,rge _ rg1,step i d yd G1 ed p1,fun σ2 G2 zz H2 x2 rg2 σ' rs2=>?_⟩;obtain⟨⟨pre,hpre,e2⟩,st2⟩:=zz;have back:∀{H5:Hp} {σ5:St},RelS K H5 σ2 σ5→RelS K H5 (List.replicate n none++σD) σ5:=fun {H5 σ5} r=>by
   refine⟨by rw[←r.1,e2,List.length_append,List.length_append,List.length_replicate,hpre],fun j d e=>?_⟩
   refine r.2 j d ?_
   by_cases hj:j<n
   ·rw[List.getElem?_append_left (by simpa using hj),List.getElem?_replicate,if_pos hj] at e
    cases e
   ·rw[List.getElem?_append_right (by simpa using hj),List.length_replicate] at e
    rw[e2,List.getElem?_append_right (by omega),hpre];exact e
  refine⟨σ2,G2,_,rs2,rg2,st2,fun b G3 h3 H3 x3 rg3=>?_⟩;have x13:=x1.trans (xe.trans (x2.trans x3));dsimp only at h3 ⊢;cases b with
  |false=>
   rw[if_neg Bool.false_ne_true] at h3 ⊢;obtain⟨G4,sb,p4⟩:=h3;exact⟨back (rs2.ext x3),yd,G4,rg3.ext' sb,x13,p4⟩
  |true=>
   rw[if_pos rfl] at h3 ⊢;refine⟨_,G3,_,rs2.ext x3,rg3,h3,fun z G4 zz H4 x4 rg4 v4 d4=>?_⟩;obtain⟨e4,l4,G5,sb,p5⟩:=zz;obtain⟨xs,ex,r⟩:=rg4 p _ e4;exact⟨xs,ex,by rw[←r.length];exact l4,back ((rs2.ext (x3.trans x4)).ext (C3 ex)),_,G5,(rg4.lstw ex (r.append (.cons d4 .nil))).ext' sb,(x13.trans x4).trans (C3 ex),p5⟩
 ·have e:i=ds.length:=by omega
  subst e;exact .inl ⟨I.st,cl _ G1 (fin yd G1 p1) H1 x1 rg1 _ (.ref p)⟩
theorem De{K:W.Frag}{J:It}{G:Gp}{H:Hp}{ds:List D}(h:Items K J G H ds):ItemsX K J H ds:=⟨h.go,fun i x H' hi y=>by
 obtain⟨e,d,ed,dv⟩:=h.yl i x H' hi y;subst e;exact⟨Ext.refl _,fun _ r=>r,d,ed,dv⟩,h.st⟩
section
variable{X:Cx}{elt iter tg:Expr}{ifs:List Expr}{scope:Scope}{pos:Pos}{ti te:DTE}{tf:DTT}{g:DTG}{T M:List Str}
abbrev QGz(X:Cx)(scope:Scope)(T M:List Str)(tg:Expr)(g:DTG):Prop:=∀s H fp,QG (Al X scope (Bi X.env.cells scope.names []) T M s H fp) tg g
abbrev QFz(X:Cx)(scope:Scope)(T M:List Str)(ifs:List Expr)(t:DTT):Prop:=∀s H fp,QF (Al X scope (Bi X.env.cells scope.names []) T M s H fp) ifs t
abbrev QEz(X:Cx)(scope:Scope)(T M:List Str)(e:Expr)(t:DTE):Prop:=∀s H fp,QE (Al X scope (Bi X.env.cells scope.names []) T M s H fp) e t
def Ov(n:Nat)(ti:DTE)(g:DTG)(tf:DTT)(te:DTE):DTE:=fun σ G Q=>ti σ G fun d G1=>∃ds,Ar G1 d=some ds∧∀p,G1 p=none→Ef n p ds (fun G'=>Ar G' d=some ds) g tf te σ (Ab G1 p (.lst [])) Q
theorem Lm(hc:X.calm=true)(ok:CompOz X scope (Bi X.env.cells scope.names []) T M)(hi:QE X iter ti)(hg:QGz X scope T M tg g)(hf:QFz X scope T M ifs tf)(he:QEz X scope T M elt te)(hs:∀x,foldedSetIterable iter X.env x=pure x:=by intro _;rfl):QE X (.ListComp elt [⟨tg,iter,ifs,0⟩] scope pos) (Ov T.length ti g tf te):=
 (C8 (g:=Cn X.K g) (tf:=Cw X.K tf) (te:=Ba X.K te) hc ok (K4 hi) hg hf he hs).imp fun σ H Q zz=>by
 obtain⟨σD,G,Q',rs,rg,h,cl⟩:=zz;refine⟨σD,G,_,rs,rg,h,fun d G1 zz H1 x1 rg1 v dv=>?_⟩;obtain⟨ds,ei,L⟩:=zz;obtain⟨a,rfl⟩:=E9 ei dv;refine⟨a,rfl,?_⟩;have lp:=fun p hp=>Bn (J:=jOf X.K d a) (rs.ext x1) rg1 hp (fun d' G' q=>(cl d' G' q).go x1) (fun H' G' x' rg' s'=>De (Dr rg' s' (dv.ext x'))) (L p (rg1.free hp));cases dv with
 |tup e r=>exact .inr ⟨⟨_,.inl (.inl e)⟩,lp⟩
 |lint e=>exact .inl ⟨⟨_,e.sq⟩,lp⟩
 |ref=>
  simp only[Ar] at ei
  split at ei
  ·rename_i ds' q;obtain⟨xs,e,r⟩:=rg1 a _ q;exact .inl ⟨⟨_,.inl (.inl e)⟩,lp⟩
  ·cases ei
def Qm(n k:Nat)(tA:DTA)(g:DTG)(tf:DTT)(te:DTE):DTE:=fun σ G Q=>tA σ G fun ds G1=>ds.length=k∧∃ls,A7 G1 ds=some ls∧∀p,G1 p=none→Ef n p (C5 ls) (fun G'=>A7 G' ds=some ls) g tf te σ (Ab G1 p (.lst [])) Q
theorem Rr{a b:Expr}{tA:DTA}{p p2 tp:Pos}{elts:List Expr}{kk:Nat}(hc:X.calm=true)(ok:CompOz X scope (Bi X.env.cells scope.names []) T M)(hm:X.mg "zip" = none)(ha:QA X [a,b] tA)(hg:QGz X scope T M (.Tuple elts kk tp) g)(hf:QFz X scope T M ifs tf)(he:QEz X scope T M elt te)(hgl:Gl X "zip":=by rfl)(hst:starEach [a,b] X.env=(false,eval a X.env)::starEach [b] X.env:=by rfl)(hpl:(backTo p2 (starEach [b] X.env)).any (·.1)=false:=by rfl)(hs:∀x,foldedSetIterable (.Call (.Name "zip" p) [a,b] [] p2) X.env x=pure x:=by intro _;rfl) :
  QE X (.ListComp elt [⟨.Tuple elts kk tp,.Call (.Name "zip" p) [a,b] [] p2,ifs,0⟩] scope pos) (Qm T.length 2 tA g tf te):=
 (C8 (g:=Cn X.K g) (tf:=Cw X.K tf) (te:=Ba X.K te) hc ok (Qh hgl hm ha hst hpl) hg hf he hs).imp fun σ H Q zz=>by
 obtain⟨σD,G,Q',rs,rg,h,cl⟩:=zz;refine⟨σD,G,_,rs,rg,h,fun ds G1 zz H1 x1 rg1 vs dv=>?_⟩;obtain⟨hn2,ls,ei,L⟩:=zz;obtain⟨e1,ok'⟩:=Eu rg1 ei dv;refine⟨List.zipWith Gz ds vs,e1,by rw[List.length_zipWith,←dv.length,Nat.min_self];exact hn2,fun c hc=>?_,fun q hq=>?_⟩
 ·obtain⟨l,_,xs,h1,_⟩:=Dq ok' c hc;exact⟨xs,h1⟩
 ·refine Bn (rs.ext x1) rg1 hq (fun d' G' q=>(cl d' G' q).go x1) (fun H' G' x' rg' s'=>?_) (L q (rg1.free hq));obtain⟨_,ok2⟩:=Eu rg' s' (dv.ext x');refine Kd ok2 fun z=>?_
  have:=L1 ei
  rw[z] at this;simp at this;omega
def Qn(n:Nat)(tA:DTA)(g:DTG)(tf:DTT)(te:DTE):DTE:=fun σ G Q=>tA σ G fun ds G1=>∃j,ds=[.int j]∧(-(2 ^ 62)≤j∧j<2 ^ 62)∧∀p,G1 p=none→Ef n p (Mg j.toNat) (fun _=>True) g tf te σ (Ab G1 p (.lst [])) Q
theorem V3{a:Expr}{tA:DTA}{p p2:Pos}(hc:X.calm=true)(ok:CompOz X scope (Bi X.env.cells scope.names []) T M)(hm:X.mg "range" = none)(ha:QA X [a] tA)(hg:QGz X scope T M tg g)(hf:QFz X scope T M ifs tf)(he:QEz X scope T M elt te)(hgl:Gl X "range":=by rfl)(hst:starEach [a] X.env=[(false,eval a X.env)]:=by rfl)(hs:∀x,foldedSetIterable (.Call (.Name "range" p) [a] [] p2) X.env x=pure x:=by intro _;rfl):QE X (.ListComp elt [⟨tg,.Call (.Name "range" p) [a] [] p2,ifs,0⟩] scope pos) (Qn T.length tA g tf te):=
 (C8 (g:=Cn X.K g) (tf:=Cw X.K tf) (te:=Ba X.K te) hc ok (J7 hgl hm ha hst) hg hf he hs).imp fun σ H Q zz=>by
 obtain⟨σD,G,Q',rs,rg,h,cl⟩:=zz;refine⟨σD,G,_,rs,rg,h,fun ds G1 zz H1 x1 rg1 vs dv=>?_⟩;obtain⟨j,ej,⟨j1,j2⟩,L⟩:=zz;subst ej;obtain⟨v,rfl,r⟩:=dv.one;cases r;refine⟨j,rfl,j1,j2,fun p hp=>Bn (J:=Itr 0 j.toNat) (rs.ext x1) rg1 hp (fun d' G' q=>(cl d' G' q).go x1) (fun H' G' x' rg' _=>De (G:=G') ?_) (L p (rg1.free hp))⟩;refine⟨fun i hi=>by rw[Bq] at hi;exact hi,fun i x H2 hi y=>?_,by show j.toNat≤_;rw[Bq];exact Nat.le_refl _⟩
 rw[Bq] at hi;obtain⟨e1,e2⟩:=y;refine⟨e1,_,E3 hi,?_⟩;rw[e2,Int.zero_add];exact .int _
end
section
variable{X:Cx}
def Ce(i j:Int):List D:=(List.range (j-i).toNat).map fun k=>D.int (i+(k:Nat))
theorem Eo(i j:Int):(Ce i j).length=(j-i).toNat:=by simp[Ce]
theorem Ph{i j:Int}{k:Nat}(h:k<(j-i).toNat):(Ce i j)[k]? = some (.int (i+(k:Nat))):=by simp[Ce,h]
theorem Xp{n:Nat}{p:Addr}{ds:List D}{same:Gp→Prop}{g:DTG}{tf:DTT}{te:DTE}{σ:DSt}{G:Gp}{Q:DK}(st:D→DSt)(f:D→D)(c:D→Bool)(hz:ds.length<sizeLine)(hsm:∀ys,same (Ab G p (.lst ys)))(hst:∀x∈ds,P5 n σ (st x)∧∀(G':Gp) (R:DSt→Gp→Prop),R (st x) G'→g x (List.replicate n none++σ) G' R)(hs:∀x ys,x∈ds→ys.length<sizeLine→∀(R1:D→Gp→Prop) (R2:Gp→Prop),(c x=true→R1 (f x) (Ab G p (.lst (ys++[f x]))))→(c x=false→R2 (Ab G p (.lst ys)))→
   tf (st x) (Ab G p (.lst ys)) fun b G3=>if b=true then te (st x) G3 fun y G4=>G4 p=some (.lst ys)∧ys.length<sizeLine∧Fg (R1 y) (Ab G4 p (.lst (ys++[y]))) else Fg R2 G3)(hq:Q (.ref p) (Ab G p (.lst ((ds.filter c).map f)))):Ef n p ds same g tf te σ (Ab G p (.lst [])) Q:=by
 refine⟨fun i ys G'=>ys=((ds.take i).filter c).map f∧Ab G p (.lst ys)=G',⟨rfl,rfl⟩,?_,?_,?_⟩
 ·rintro i ys _ _ ⟨_,rfl⟩;exact⟨hsm ys,Aa⟩
 ·rintro i x ys _ hx ⟨e,rfl⟩;have hi:=(List.getElem?_eq_some_iff.mp hx).1;have hm:=List.mem_of_getElem? hx;have hl:ys.length<sizeLine:=by
   rw[e,List.length_map];refine Nat.lt_of_le_of_lt (List.length_filter_le _ _) ?_;rw[List.length_take];omega
  have tk:ds.take (i+1)=ds.take i++[x]:=by rw[List.take_add_one,hx];rfl
  refine(hst x hm).2 _ _ ⟨(hst x hm).1,?_⟩;refine hs x ys hm hl (fun y G'=>ys++[y]=((ds.take (i+1)).filter c).map f∧Ab G p (.lst (ys++[y]))=G') (fun G'=>ys=((ds.take (i+1)).filter c).map f∧Ab G p (.lst ys)=G') (fun hc=>⟨?_,rfl⟩) (fun hc=>⟨?_,rfl⟩)
  ·rw[tk,List.filter_append,List.map_append,←e];simp[hc]
  ·rw[tk,List.filter_append,List.map_append,←e];simp[hc]
 ·rintro ys _ ⟨e,rfl⟩;rw[List.take_length] at e;rw[e];exact hq
end
def Ot:Expr→Bool
 |.Starred ..=>false
 |_=>true
theorem Rj{e:Expr}{es:List Expr}{env:Env}(h:Ot e=true):starEach (e::es) env=(false,eval e env)::starEach es env:=by
 cases e<;>first|rfl|exact absurd h (by simp[Ot])
theorem qa_consP{X:Cx}{e:Expr}{es:List Expr}{te:DTE}{tA:DTA}(ha:QE X e te)(hr:QA X es tA)(h:Ot e=true:=by rfl):QA X (e::es) (Tz te tA):=Ev ha hr (Rj h)
def nNeg(ta:DTE):DTE:=fun σ G Q=>ta σ G fun x G1=>∃i,x=.int i∧Q (.int (-i)) G1
theorem q_neg{X:Cx}{a:Expr}{ta:DTE}{pos:Pos}(ha:QE X a ta):QE X (.UnaryOp .USub a pos) (nNeg ta):=(pe_un Abx ha).imp fun σ H Q zz=>by
 obtain⟨σD,G,Q',rs,rg,h,cl⟩:=zz;refine⟨σD,G,_,rs,rg,h,fun d G1 zz H1 x1 rg1 v dv=>?_⟩;obtain⟨i,e,h1⟩:=zz;subst e;cases dv;exact⟨i,rfl,cl _ G1 h1 H1 x1 rg1 _ (.int _)⟩
def tPar3(i j l:Nat)(ta:TA):TS:=fun D σ H=>ta σ H fun vs H1=>∃v w z,vs=[v,w,z]∧D.nx (((σ.set i (some v)).set j (some w)).set l (some z)) H1
theorem Zd{X:Cx}{pos:Pos}{i j l:Nat}{x y z:Str}{a b c:Expr}{ta:TA}{px py pz pt:Pos}{kt k2 pt2}(hc:X.calm=true)(hN:X.N.Nodup)(hi:X.N[i]? = some x)(hj:X.N[j]? = some y)(hl:X.N[l]? = some z)(hij:i≠j)(hil:i≠l)(hjl:j≠l)(hx:X.env.scope.names.lookup x=some .local)(hy:X.env.scope.names.lookup y=some .local)(hzz:X.env.scope.names.lookup z=some .local)(ha:PA X [a,b,c] ta)(hw:swappedStores [.Tuple [.Name x px,.Name y py,.Name z pz] kt pt] (.Tuple [a,b,c] k2 pt2) X.env=pure (some [x,y,z]))(hs:swapsWithSole [.Tuple [.Name x px,.Name y py,.Name z pz] kt pt] (.Tuple [a,b,c] k2 pt2) pos.line X.env=pure false:=by rfl) :
  PS X (.Assign [.Tuple [.Name x px,.Name y py,.Name z pz] kt pt] (.Tuple [a,b,c] k2 pt2) pos) (tPar3 i j l ta):=by
 intro pins s σ H D I h;rw[exec_Assign_arm];refine wpAny_bind (wpAny_standAt ?_);rw[hs];refine wpAny_bind (wpAny_pure ?_);rw[if_neg (by decide)]
 refine wpAny_bind (Tuple_ (thn (ha _ pins s σ H _ I h) fun us s1 zz=>?_));obtain⟨vs,H1,I1,r1,q1⟩:=zz;obtain⟨v,w,u,e1,q1⟩:=q1;subst e1;obtain⟨u1,u2,u3,rfl,rv,rw',rz⟩:=vals3 r1;refine wpAny_newObj_type ?_ (by show 3≤sizeLine;decide)
 have I2:Inv X pins σ H1 { s1 with heap:=s1.heap.push { cls:=.type "tuple",data:=.seq [u1,u2,u3].toArray } }:=I1.kept (t':=s1.toks) fun b o e=>Heap.get?_push_of_some _ e;rw[hw];refine wpAny_bind (wpAny_pure ?_);show wpAny (model X.prog X.w) X.A (do rule "assign.swapped-stores";let items ←unpackItems (.ref s1.heap.objs.size) 3 none;assignInOrder [fun v=>bindName X.env z v,fun v=>bindName X.env y v,fun v=>bindName X.env x v] items.reverse;pure Flow.next) _ _ _
 refine wpAny_bind (wpAny_rule (wpAny_bind (unpackItems_tuple (items:=#[u1,u2,u3]) (I.ok.hd hc) (IsTup.new s1.heap _) fun h' hx'=>?_)));have I3:=I2.kept (h':=h') (t':=s1.toks) fun b o e=>hx' b o (Nat.ne_of_lt (Heap.lt_size e)) e;show wpAny _ _ (assignInOrder [fun v=>bindName X.env z v,fun v=>bindName X.env y v,fun v=>bindName X.env x v] [u3,u2,u1] >>= fun _=>pure Flow.next) _ _ _;refine wpAny_bind (assignInOrder_cons (wpAny_bindName (Cs I3 hN hl (.inl hzz) rz (fun s2 I4=>?_) (.inr hzz))));refine assignInOrder_cons (wpAny_bindName (Cs I4 hN hj (.inl hy) rw' (fun s3 I5=>?_) (.inr hy)));refine assignInOrder_cons (wpAny_bindName (Cs I5 hN hi (.inl hx) rv (fun s4 I6=>assignInOrder_nil (wpAny_pure ?_)) (.inr hx)));have e:(((σ.set l (some u)).set j (some w)).set i (some v))=((σ.set i (some v)).set j (some w)).set l (some u):=by
  rw[List.set_comm _ _ (Ne.symm hij),List.set_comm (i:=l) (j:=i) _ _ (Ne.symm hil),List.set_comm (i:=l) (j:=j) _ _ (Ne.symm hjl)]
 rw[e] at I6;exact⟨_,H1,I6,q1⟩
def Aa9(i j l:Nat)(ta:DTA):DTS:=fun D σ G=>ta σ G fun vs G1=>∃v w z,vs=[v,w,z]∧D.nx (((σ.set i (some v)).set j (some w)).set l (some z)) G1
theorem DVs.three{K:W.Frag}{H:Hp}{d e f:D}{vs:List V}(r:DVs K H [d,e,f] vs):∃v w u,vs=[v,w,u]∧DV K H d v∧DV K H e w∧DV K H f u:=by
 cases r with|cons h t=>cases t with|cons h' t'=>cases t' with|cons h2 t2=>cases t2;exact⟨_,_,_,rfl,h,h',h2⟩
theorem Yy{X:Cx}{pos:Pos}{i j l:Nat}{x y z:Str}{a b c:Expr}{tA:DTA}{px py pz pt:Pos}{kt k2 pt2}(hc:X.calm=true)(hN:X.N.Nodup)(ha:QA X [a,b,c] tA)(hi:X.N[i]? = some x:=by rfl)(hj:X.N[j]? = some y:=by rfl)(hl:X.N[l]? = some z:=by rfl)(hij:i≠j:=by decide)(hil:i≠l:=by decide)(hjl:j≠l:=by decide)(hx:X.env.scope.names.lookup x=some .local:=by rfl)(hy:X.env.scope.names.lookup y=some .local:=by rfl)(hz:X.env.scope.names.lookup z=some .local:=by rfl)(hw:swappedStores [.Tuple [.Name x px,.Name y py,.Name z pz] kt pt] (.Tuple [a,b,c] k2 pt2) X.env=pure (some [x,y,z]):=by rfl)(hs:swapsWithSole [.Tuple [.Name x px,.Name y py,.Name z pz] kt pt] (.Tuple [a,b,c] k2 pt2) pos.line X.env=pure false:=by rfl) :
  QS X (.Assign [.Tuple [.Name x px,.Name y py,.Name z pz] kt pt] (.Tuple [a,b,c] k2 pt2) pos) (Aa9 i j l tA):=(Zd hc hN hi hj hl hij hil hjl hx hy hz ha hw hs).imp fun E σ H zz=>by
 obtain⟨σD,G,D,rs,rg,h,cl⟩:=zz;refine⟨σD,G,_,rs,rg,h,fun ds G1 zz H1 x1 rg1 vs dv=>?_⟩;obtain⟨d1,d2,d3,e,h1⟩:=zz;subst e;obtain⟨v,w,u,rfl,r1,r2,r3⟩:=dv.three;exact⟨v,w,u,rfl,cl.nx _ G1 h1 H1 x1 rg1 _ ((((rs.ext x1).set r1 i).set r2 j).set r3 l)⟩
theorem ex3{p:D→D→D→Prop}{j k l:D}:(∃x y z,[j,k,l]=[x,y,z]∧p x y z)↔p j k l:=⟨fun⟨_,_,_,e,h⟩=>by cases e;exact h,fun h=>⟨j,k,l,rfl,h⟩⟩
def Ris(xs:Array Nat):Prop:=∀i j,i<j→j<xs.size→∀d,xs.getD i d<xs.getD j d
theorem ins_get{α:Type}{xs:Array α}{p:Nat}{x:α}(hp:p≤xs.size)(i:Nat):(SetTable.insertAt xs p x)[i]? = if i<p then xs[i]? else if i=p then some x else xs[i-1]?:=by
 unfold SetTable.insertAt;have e1:((xs.extract 0 p).push x).size=p+1:=by simp;omega
 rw[Array.getElem?_append,e1]
 by_cases h1:i<p
 ·rw[if_pos (by omega),if_pos h1,Array.getElem?_push,if_neg (by simp;omega),Array.getElem?_extract,if_pos (by omega),Nat.zero_add]
 ·rw[if_neg h1]
  by_cases h2:i=p
  ·subst h2;rw[if_pos (by omega),if_pos rfl,Array.getElem?_push,if_pos (by simp;omega)]
  ·rw[if_neg (by omega),if_neg h2,Array.getElem?_extract]
   by_cases h3:i-1<xs.size
   ·rw[if_pos (by omega)];congr 1;omega
   ·rw[if_neg (by omega),Array.getElem?_eq_none (by omega)]
structure TOk(w:World)(t:SetTable):Prop where
 ris:Ris t.place
 dum:t.dummies=#[]
 led:w.params.followText "set-order" = true∨t.led=true
def eI(e:Int×Value):Int:=match e.2 with|.int i _=>i|_=>0
structure SOk(P:Program)(w:World)(es:Array (Int×Value))(t:SetTable)(ks:List Int):Prop where
 tok:TOk w t
 fit:t.fits es.size=true
 el:∀e∈es.toList,∃i u,e=((intKind P w).hash i,Value.int i u)
 nd:(es.toList.map eI).Nodup
 mem:∀k,k∈es.toList.map eI↔k∈ks
 sz:es.size<scanBound
section
variable{P:Program}{w:World}{A:Around}{E:Value→Shared→Prop}{s:Shared}
end
section
variable{P:Program}{w:World}{A:Around}{R:Result→Shared→Prop}{E:Value→Shared→Prop}{s:Shared}
end
section
variable{P:Program}{w:World}{A:Around}{E:Value→Shared→Prop}{s:Shared}
end
structure SBase(w:World)(es:Array (Int×Value))(t:SetTable):Prop where
 tok:TOk w t
 fit:t.fits es.size=true
 sz:es.size<scanBound
theorem SOk.base{P:Program}{w:World}{es:Array (Int×Value)}{t:SetTable}{ks:List Int}(h:SOk P w es t ks):SBase w es t:=⟨h.tok,h.fit,h.sz⟩
section
variable{P:Program}{w:World}{A:Around}{E:Value→Shared→Prop}{s:Shared}
end
section
variable{X:Cx}{e:Expr}{te:DTE}{pos:Pos}
theorem Eb:∀{ns:List Int} {its:List Value},Vals (ns.map V.int) its→IntsAre its ns
 |[],_,.nil=>.nil
 |n::r,_,.cons ⟨t,rfl⟩ h=>.cons n t (Eb h)
theorem vals_ints:∀{ns:List Int} {its:List Value},IntsAre its ns→Vals (ns.map V.int) its
 |_,_,.nil=>.nil
 |_,_,.cons n t h=>.cons ⟨t,rfl⟩ (vals_ints h)
theorem Dc{K:W.Frag}{H:Hp}:∀{ns:List Int} {xs:List V},DVs K H (ns.map D.int) xs→xs=ns.map V.int
 |[],_,.nil=>rfl
 |_::_,_,.cons (.int _) t=>by rw[Dc t];rfl
end
section
variable{P:Program}{w:World}{A:Around}{R:Result→Shared→Prop}
end
section
variable{X:Cx}
end
section
variable{X:Cx}{a:Expr}{ta:DTE}{pos:Pos}
end
structure FnIs(K:W.Frag)(x:Str)(st:Stmt):Prop where
 ex:∃f fd,Fun K x x st f fd∧W.nsIn K mainGlobals x=some (some (.ref f))∧W.keepIn K (.ref f)=true
theorem An{K:W.Frag}{x:Str}{st:Stmt}{f:Addr}{od an:Option Addr}{sl:Array (Option Value)}{oc kV dc pm cd ct:Value}(a:W.nsIn K mainGlobals x=some (some (.ref f)))(l:K.lookup f=some ⟨oc,od,.func (W.fnOf x x (D8 st) (Bv st) (Ad st) .none kV dc pm an cd ct),sl⟩)(c:W.codeIn K cd x=true)(k:W.keepIn K (.ref f)=true):FnIs K x st:=
 ⟨f,_,U6 l c k,a,k⟩
theorem Ax{P:Program}{w:World}{K:W.Frag}{h:Heap}{mg:Str→Option Value}{base:Heap}{x:Str}{st:Stmt}{k:Nat}{ps:List Str}{sp:DSp}(I:FnIs K x st)(X:K.In h)(G:h.Ns mainGlobals mg)(hb:∀f fd,Fun K x x st f fd→Binds K fd ps [])(ok:∀f fd,Fun K x x st f fd→FnOk P w K mg base CX0 k f fd ps (Ak K sp)):Def P w K mg base CX0 k x ps sp:=by
 obtain⟨f,fd,F,a,kp⟩:=I.ex;exact⟨f,fd,ok f fd F,W.mg_of X G a,kp,hb f fd F⟩
section
variable{X:Cx}{o e:Expr}{to te:DTE}{pos pos':Pos}{f:Str}{C:Addr}
theorem Wn{α β:Type}{R:α→β→Prop}{xs:List α}{ys:List β}(h:Paired R xs ys):xs.length=ys.length:=by
 induction h with
 |nil=>rfl
 |cons _ _ ih=>exact congrArg (· + 1) ih
end
section
variable{X:Cx}{pins:List (Addr×Obj)}{σ:St}{H:Hp}{s:Shared}{A:Around}{E:Value→Shared→Prop}
theorem Sm{a:Addr}{kvs:List (Key×V)}{k:Key}{v:V}{u r:Value}{Q:Unit→Shared→Prop}(I:Inv X pins σ H s)(e:H a=some (.dK kvs))(l:kvs.length<sizeLine)(ry:RelV (kV k) u)(rv:RelV v r)(h:∀s',Inv X pins σ (upd H a (.dK (Ch kvs k v))) s'→Q () s'):wpAny (model X.prog X.w) A (dictSet a u r) Q E s:=by
 obtain⟨z,hd,vs,rel,dd⟩:=Ee I.hok e;have hz:vs.length≤sizeLine:=by rw[←rel.length];exact z
 have hl:(Ch kvs k v).length≤sizeLine:=by have:=Cb kvs k v;omega
 unfold dictSet;refine wpAny_holding (wpAny_bind ((Ap X.prog X.w).pyHash (Gd ry) ?_));refine wpAny_dictSetHashed_pairs (hsz:=hz) (Gd ry) dd fun h' dd' hs=>h _ ?_;have he:∃q,h'.get? a=some q:=let ⟨q,_,_,hq,_⟩:=dd';⟨q,hq⟩;exact Gx (I.tok _) (by rw[e];exact True.intro) hs he (O0 hl hd (rel.put k rv) dd')
end
def Ub(P:Program)(w:World)(A:Around)(env:Env)(tg kx vx:Expr)(ifs:List Expr)(it:Value)(acc:Addr)(X:Value→Shared→Prop)(nxt:Shared→Prop)(v:Value)(t:Shared):Prop:=
 wpAny (model P w) A (letOwnedTupleGo tg it v) (fun _ a=>wpAny (model P w) A (assign tg env v) (fun _ b=>wpAny (model P w) A (Hg ifs env) (fun y c=>
  if y=true then wpAny (model P w) A (eval kx env) (fun e d=>wpAny (model P w) A (eval vx env) (fun e2 d2=>wpAny (model P w) A (dictSet acc e e2) (fun _ f=>nxt f) X d2) X d) X c else nxt c) X b) X a) X t
theorem N3{P:Program}{w:World}{A:Around}{R:Result→Shared→Prop}{s:Shared}{kx vx tg src:Expr}{ifs:List Expr}{sc:Scope}{pl:Pos}{it:Value}{acc:Addr}{env:Env}(V:Nat→Shared→Prop)(go:∀k t,V k t→wpAny (model P w) A (pyNext it) (fun r u=>match r with
   |none=>R (.ok .next) u
   |some v=>Ub P w A env tg kx vx ifs it acc (notedBy (model P w) A env fun e z=>R (.error e) z) (fun z=>∃m,m<k∧V m z) v u) (notedBy (model P w) A env fun e z=>R (.error e) z) t)(k:Nat)(h0:V k s):codeAny (model P w) A (.compLoop (.DictComp kx vx [⟨tg,src,ifs,0⟩] sc pl) 0 it (.ref acc) env) R s:=by
 refine codeAny_loop rfl V (fun k t hv=>(show wpAny _ A ((compTurn (.DictComp kx vx [⟨tg,src,ifs,0⟩] sc pl) 0 it (.ref acc) env).onRaise (fun x=>do noteFrame x env;theTreesLotGoes x)) _ _ t from wpAny_noted ?_)) k h0
 rw[compTurn_dict];refine wpAny_bind (wpAny_standAt (wpAny_bind (wpAny_mono (go k t hv) (fun r u hr=>?_) fun _ _ z=>z)));cases r with
 |none=>exact wpAny_pure hr
 |some v=>
  refine wpAny_bind (wpAny_mono hr (fun _ a ha=>wpAny_bind (wpAny_mono ha (fun _ b hb=>wpAny_bind (wpAny_mono hb (fun y c hc=>?_) fun _ _ z=>z)) fun _ _ z=>z)) fun _ _ z=>z);cases y with
  |true=>exact wpAny_bind (wpAny_bind (wpAny_mono hc (fun e d hd=>wpAny_bind (wpAny_holding (wpAny_mono hd (fun e2 d2 hd2=>wpAny_bind (wpAny_standAt (wpAny_holding (wpAny_mono hd2 (fun _ f hf=>wpAny_pure ⟨rfl,hf⟩) fun _ _ z=>z)))) fun _ _ z=>z))) fun _ _ z=>z))
  |false=>refine wpAny_pure ⟨rfl,?_⟩;exact hc
def Ym(n:Nat)(wi:TI)(g:TG)(tf:TT)(tk tv:TE):TE:=fun σ H Q=>wi σ H fun J H1=>∀p,H1 p=none→∃W:Nat→Nat→St→Hp→Prop,(∃m,W 0 m (List.replicate n none++σ) (upd H1 p (.dK [])))∧∀i m σ1 H,W i m σ1 H→
 ((J.stop i H∧Q (.ref p) H)∨(J.go i H∧∃N:St→Hp→Prop,(∀σ' H',N σ' H'→∃m',m'<m∧W (i+1) m' σ' H')∧
  ∀x H',J.yld i H x H'→g x σ1 H' fun σ2 H2=>tf σ2 H2 fun b H3=>if b=true then tk σ2 H3 fun y H4=>tv σ2 H4 fun z H5=>∃kvs k,y=kV k∧H5 p=some (.dK kvs)∧kvs.length<sizeLine∧N σ2 (upd H5 p (.dK (Ch kvs k z))) else N σ2 H3))
theorem Rw{X:Cx}{kx vx iter tg:Expr}{ifs:List Expr}{scope:Scope}{cl:List (Str×Addr)}{pos:Pos}{wi:TI}{g:TG}{tf:TT}{tk tv:TE}{T M:List Str}(hc:X.calm=true)(ok:CompOz X scope cl T M)(hi:PI X tg iter wi)(hg:∀s H fp,PG (Al X scope cl T M s H fp) tg g)(hf:∀s H fp,PF (Al X scope cl T M s H fp) ifs tf)(hk:∀s H fp,PE (Al X scope cl T M s H fp) kx tk)(hv:∀s H fp,PE (Al X scope cl T M s H fp) vx tv)(hs:∀x,foldedSetIterable iter X.env x=pure x:=by intro _;rfl):PE X (.DictComp kx vx [⟨tg,iter,ifs,0⟩] scope pos) (Ym T.length wi g tf tk tv):=by
 intro pins s σ H Q I h;rw[show eval (.DictComp kx vx [⟨tg,iter,ifs,0⟩] scope pos) X.env=comprehension (.DictComp kx vx [⟨tg,iter,ifs,0⟩] scope pos) scope X.env (firstIterPos [⟨tg,iter,ifs,0⟩] pos) newDict (firstAsync [⟨tg,iter,ifs,0⟩]) (firstIter [⟨tg,iter,ifs,0⟩] X.env) from rfl];refine wpAny_comprehension_free (use:=none) (cl:=cl) rfl hs ok.clos ok.kind ok.names (thn (hi pins s σ H _ I h) fun v s1 h1=>thn h1 fun itv s2 h2=>?_);obtain⟨it,fp,tn,J,H2,e,I2,Tn,st2,f2,q⟩:=h2;subst e;have q:=q s2.heap.objs.size (I2.hok.fresh (Nat.le_refl _));refine wpAny_newObj_type ?_
 -- the new list,tracked
 have I3:Inv X pins σ (upd H2 s2.heap.objs.size (.dK [])) { s2 with heap:=s2.heap.push { cls:=.type "dict",data:=.dict #[] } }:=
  I2.laid (t':=s2.toks) (fun b u e=>Heap.get?_push_of_some _ e) (Nat.le_refl _) (Ie _ I2.big)
 generalize hH3:upd H2 s2.heap.objs.size (.dK [])=H3 at I3 q;generalize hs3:({ s2 with heap:=s2.heap.push { cls:=.type "dict",data:=.dict #[] } }:Shared)=s3 at I3;have fpl:∀b∈fp,b<s2.heap.objs.size:=fun b hb=>let ⟨o,e,_⟩:=Tn.obj 0 _ st2 b hb;Heap.lt_size e;have sz3:s2.heap.objs.size≤s3.heap.objs.size:=by rw[←hs3];show _≤(s2.heap.push _).objs.size;rw[Heap.size_push];exact Nat.le_succ _
 have fok:∀b∈fp,Dl X pins H3 b:=fun b hb=>⟨by rw[←hH3,Ae (Nat.ne_of_lt (fpl b hb))];exact(f2 b hb).1,(f2 b hb).2⟩
 have k23:∀b o,s2.heap.get? b=some o→s3.heap.get? b=some o:=fun b o e=>by rw[←hs3];exact Heap.get?_push_of_some _ e
 have st3:tn 0 s3.heap:=Tn.keep _ _ _ st2 fun b _ o e=>k23 b o e;refine Hs ok.kind (fun h4 hns4 k34 okc=>?_);have oldc:∀x c,cl.lookup x=some c→c<s3.heap.objs.size:=fun x c e=>by
  obtain⟨v,o,ho,_⟩:=I3.cell x c (ok.sub x c e).1;exact Heap.lt_size ho
 have hc1:=Lw (h':=h4) ok okc oldc;have hc2:=Lv (h':=h4) ok okc oldc;have I4:Inv (Al X scope cl T M s3 H3 fp) [] (Oa T σ) H3 { s3 with heap:=h4 }:=
  F1 ok I3 (fun b hb=>⟨fok b hb,Nat.lt_of_lt_of_le (fpl b hb) sz3⟩) hns4 k34 rfl rfl hc1 hc2
 have st4:tn 0 h4:=Tn.keep _ _ _ st3 fun b _ o e=>k34 b o e;obtain⟨W,⟨m0,w0⟩,turn⟩:=q;have cfpc:∀b∈fp,∀x c,(A3 scope cl s3.heap.objs.size).lookup x=some c→c≠b:=fun b hb x c e=>by
  rcases B2 ok s3.heap.objs.size x c e with ⟨_,a2⟩|⟨a1,_⟩
  ·exact Nat.ne_of_gt (Nat.lt_of_lt_of_le (Nat.lt_of_lt_of_le (fpl b hb) sz3) (Nat.le_of_succ_le a2))
  ·exact(fok b hb).2.2.2.2.1 x c (ok.sub x c a1).1
 have cfp:∀{H':Hp},(∀b∈fp,H' b=none)→∀b∈fp,Dl (Al X scope cl T M s3 H3 fp) [] H' b:=fun hn b hb=>by
  refine⟨hn b hb,Nat.ne_of_lt (Nat.lt_of_lt_of_le (fpl b hb) sz3),fun z=>?_,.inl hb,fun x c e=>cfpc b hb x c e,fun p hp=>absurd (show p∈([]:List (Addr×Obj)) from hp) (by simp)⟩
  rcases List.mem_cons.mp (I3.stkSub b z) with e|e
  ·exact(fok b hb).2.1 e
  ·exact(fok b hb).2.2.1 e
 have fin:∀(σ':St) (H':Hp) (s':Shared),Inv (Al X scope cl T M s3 H3 fp) [] σ' H' s'→Q (.ref s2.heap.objs.size) H'→compPost (model X.prog X.w) X.A X.xe none (EP X pins σ Q) (.ref s2.heap.objs.size) s3.heap.objs.size (.ok .next) s':=fun σ' H' s' J q=>by
  obtain⟨m',hm',_⟩:=J.loc;refine⟨m',hm',fun h' hs'=>?_⟩;have J0:Inv X pins σ H' s':=I3.call' (ch:=fp) J.os J.base J.hok J.bare fun b hb=>⟨(fok b hb).2.2.2.1,(fok b hb).2.1,(fok b hb).2.2.2.2.1,(fok b hb).2.2.2.2.2⟩;have nC:=I3.fpOk (H':=H') (Nat.le_refl s3.heap.objs.size) J.free;exact⟨.ref s2.heap.objs.size,H',J0.turned (t':=s'.toks) (fun b o hb e=>(hs'.2 b hb).trans e) nC.1 nC.2.1 nC.2.2.2.1 nC.2.2.2.2.1 nC.2.2.2.2.2,rfl,q⟩
 have loop:∀s5:Shared,s5={ s3 with heap:=h4 }→
   codeAny (model X.prog X.w) X.A (.compLoop (.DictComp kx vx [⟨tg,iter,ifs,0⟩] scope pos) 0 (.ref it) (.ref s2.heap.objs.size) (compEnvC scope (A3 scope cl s3.heap.objs.size) s3.heap.objs.size X.env))
    (compPost (model X.prog X.w) X.A X.xe none (EP X pins σ Q) (.ref s2.heap.objs.size) s3.heap.objs.size) s5:=by
  rintro s5 rfl;refine N3 (fun k s'=>∃i σ' H',Inv (Al X scope cl T M s3 H3 fp) [] σ' H' s'∧tn i s'.heap∧(∀b∈fp,H' b=none)∧W i k σ' H') ?_ m0 ⟨0,Oa T σ,H3,I4,st4,fun b hb=>(fok b hb).1,w0⟩;rintro k s6 ⟨i,σ6,H6,I6,st6,fr6,w6⟩;rcases turn i k σ6 H6 w6 with ⟨stop,qn⟩|⟨go,N,hN,step⟩
  ·refine wpAny_mono (Tn.done (Al X scope cl T M s3 H3 fp) rfl rfl rfl hc i [] s6 _ H6 (fun _ _=>False) I6 (cfp fr6) st6 stop) (fun r s7 ⟨hr,I7⟩=>?_) fun _ _ z=>z.elim;subst hr;exact fin _ H6 s7 I7 qn
  ·refine wpAny_mono (Tn.item (Al X scope cl T M s3 H3 fp) rfl rfl rfl hc i [] s6 _ H6 (fun _ _=>False) I6 (cfp fr6) st6 go) (fun r s7 ⟨u,hr,h7⟩=>?_) fun _ _ z=>z.elim;subst hr;show Ub _ _ _ _ _ _ _ _ _ _ _ _ _ _;unfold Ub;refine wpAny_mono h7 (fun _ s8 h8=>?_) fun _ _ z=>z.elim;obtain⟨x7,H7,I7,r7,y7,st7,fr7⟩:=h8;have I7':=I7.pinned (cfp fr7) (Tn.obj _ _ st7);have back:∀{σ8:St} {H8:Hp} {s9:Shared},Inv (Al X scope cl T M s3 H3 fp) ([]++C4 fp s8.heap) σ8 H8 s9→tn (i+1) s9.heap∧∀b∈fp,H8 b=none:=fun {σ8 H8 s9} I8=>by
    refine⟨Tn.keep _ _ _ st7 fun b hb o e=>(I8.pin (b,o) (List.mem_append_right _ (List.mem_append_right _ (Bl hb e)))).1,fun b hb=>?_⟩;obtain⟨o,e,d⟩:=Tn.obj _ _ st7 b hb;exact(I8.pin (b,o) (List.mem_append_right _ (List.mem_append_right _ (Bl hb e)))).2.1
   have again:∀{σ9:St} {H9:Hp} {s9:Shared},Inv (Al X scope cl T M s3 H3 fp) ([]++C4 fp s8.heap) σ9 H9 s9→N σ9 H9→
     ∃m,m<k∧∃i σ' H',Inv (Al X scope cl T M s3 H3 fp) [] σ' H' s9∧tn i s9.heap∧(∀b∈fp,H' b=none)∧W i m σ' H':=fun {σ9 H9 s9} I9 n9=>by
    obtain⟨m',hm,w9⟩:=hN σ9 H9 n9;obtain⟨b1,b2⟩:=back I9;exact⟨m',hm,i+1,σ9,H9,I9.unpinned,b1,b2,w9⟩
   refine wpAny_mono (hg s3 H3 fp _ s8 σ6 H7 x7 u _ I7' r7 (step x7 H7 y7)) (fun _ s9 ⟨σ9,H9,I9,q9⟩=>?_) fun _ _ z=>z.elim;refine wpAny_mono (hf s3 H3 fp _ s9 σ9 H9 _ I9 q9) (fun okb s10 ⟨H10,I10,q10⟩=>?_) fun _ _ z=>z.elim;cases okb with
   |false=>
    rw[if_neg Bool.false_ne_true] at q10 ⊢;exact again I10 q10
   |true=>
    rw[if_pos rfl] at q10 ⊢;refine wpAny_mono (hk s3 H3 fp _ s10 σ9 H10 _ I10 q10) (fun y s11 ⟨yv,H11,I11,ry,q11⟩=>?_) fun _ _ z=>z.elim;refine wpAny_mono (hv s3 H3 fp _ s11 σ9 H11 _ I11 q11) (fun z s12 ⟨zv,H12,I12,rz,kvs,k,ek,e12,l12,n12⟩=>?_) fun _ _ z=>z.elim;subst ek;exact Sm (X:=Al X scope cl T M s3 H3 fp) I12 e12 l12 ry rz fun s13 I13=>again I13 n12
 exact codeAny_compStart_dict (loop _ rfl) (Tn.self _ 0 _ _ _ st4 (loop _ rfl))


section
variable{κ:Type}[DecidableEq κ]
def Ck(kvs:List (κ×D))(k:κ):Option D:=(kvs.find? fun kv=>decide (kv.1=k)).map (·.2)
def Jh(kvs:List (κ×D))(k:κ)(d:D):List (κ×D):=if (kvs.any fun kv=>decide (kv.1=k))=true then kvs.map (fun kv=>if kv.1=k then (kv.1,d) else kv) else kvs++[(k,d)]
abbrev Ent(κ:Type)(K:W.Frag)(H:Hp):κ×D→κ×V→Prop:=fun p q=>p.1=q.1∧DV K H p.2 q.2
variable{K:W.Frag}{H:Hp}
theorem Gw{k:κ}:∀{kvs:List (κ×D)} {ks:List (κ×V)},Paired (Ent κ K H) kvs ks→(Ck kvs k=none∧Cv ks k=none)∨∃d v,Ck kvs k=some d∧Cv ks k=some v∧DV K H d v
 |_,_,.nil=>.inl ⟨rfl,rfl⟩
 |(a,x)::r,_,.cons (b:=(b,y)) h t=>by
  obtain⟨e,hv⟩:=h;cases(show a=b from e)
  by_cases ha:a=k
  ·exact .inr ⟨x,y,by simp[Ck,ha],by simp[Cv,ha],hv⟩
  ·have e1:Ck ((a,x)::r) k=Ck r k:=by simp[Ck,List.find?_cons,ha]
   have e2:∀z,Cv ((a,y)::z) k=Cv z k:=fun z=>by simp[Cv,List.find?_cons,ha]
   rw[e1,e2];exact Gw t
theorem Qz{k:κ}:∀{kvs:List (κ×D)} {ks:List (κ×V)},Paired (Ent κ K H) kvs ks→(kvs.any fun kv=>decide (kv.1=k))=(ks.any fun kv=>decide (kv.1=k))
 |_,_,.nil=>rfl
 |(a,x)::r,_,.cons (b:=(b,y)) h t=>by
  cases(show a=b from h.1);rw[List.any_cons,List.any_cons,Qz t]
theorem Qy{k:κ}{d:D}{v:V}(hd:DV K H d v):∀{kvs:List (κ×D)} {ks:List (κ×V)},Paired (Ent κ K H) kvs ks→Paired (Ent κ K H) (kvs.map (fun kv=>if kv.1=k then (kv.1,d) else kv)) (ks.map (fun kv=>if kv.1=k then (kv.1,v) else kv))
 |_,_,.nil=>.nil
 |(a,x)::r,_,.cons (b:=(b,y)) h t=>by
  obtain⟨e,hv⟩:=h;cases(show a=b from e);rw[List.map_cons,List.map_cons];refine .cons ?_ (Qy hd t);show Ent κ K H (if a=k then (a,d) else (a,x)) (if a=k then (a,v) else (a,y))
  by_cases ha:a=k
  ·rw[if_pos ha,if_pos ha];exact⟨rfl,hd⟩
  ·rw[if_neg ha,if_neg ha];exact⟨rfl,hv⟩
theorem Nl{p:κ×D}{q:κ×V}(h:Ent κ K H p q):∀{kvs:List (κ×D)} {ks:List (κ×V)},Paired (Ent κ K H) kvs ks→Paired (Ent κ K H) (kvs++[p]) (ks++[q])
 |_,_,.nil=>.cons h .nil
 |_::_,_,.cons h' t=>.cons h' (Nl h t)
theorem Lr{k:κ}{d:D}{v:V}(hd:DV K H d v){kvs:List (κ×D)}{ks:List (κ×V)}(r:Paired (Ent κ K H) kvs ks):Paired (Ent κ K H) (Jh kvs k d) (Ch ks k v):=by
 unfold Jh Ch;rw[Qz r]
 split
 ·exact Qy hd r
 ·exact Nl ⟨rfl,hd⟩ r
theorem Ls{kvs:List (κ×D)}{ks:List (κ×V)}(r:Paired (Ent κ K H) kvs ks):kvs.length=ks.length:=Wn r
end
theorem RelG.dkN{K:W.Frag}{H:Hp}{G:Gp}(r:RelG K H G){p:Addr}(hp:H p=none):RelG K (upd H p (.dK [])) (Ab G p (.dkk [])):=by
 intro a o ea
 by_cases ha:a=p
 ·subst ha;rw[Aa] at ea;cases ea;exact⟨[],Af,.nil⟩
 ·rw[Ag ha] at ea;exact(r a o ea).upd (Ext.fresh hp) (.inl hp)
theorem Em{H:Hp}{p:Addr}{ks:List (Key×V)}{u:HO}(e:H p=some (.dK ks)):Ext H (upd H p u):=Ext.write e (fun xs z=>by cases z) (fun ob w z=>by cases z)
theorem RelG.dkW{K:W.Frag}{H:Hp}{G:Gp}(r:RelG K H G){p:Addr}{ks ks':List (Key×V)}{kvs':List (Key×D)}(e:H p=some (.dK ks))(pr:Paired (Ent Key K H) kvs' ks'):RelG K (upd H p (.dK ks')) (Ab G p (.dkk kvs')):=by
 have x:Ext H (upd H p (.dK ks')):=Em e;intro a o ea
 by_cases ha:a=p
 ·subst ha;rw[Aa] at ea;cases ea;exact⟨ks',Af,L2.Paired.mapP pr fun _ _ z=>⟨z.1,z.2.ext x⟩⟩
 ·rw[Ag ha] at ea;exact(r a o ea).upd x (.inr ha)
def Ks:D→Option Key
 |.int i=>some (.inl i)
 |.str x=>some (.inr x)
 |_=>none
theorem D6{K:W.Frag}{H:Hp}{d:D}{v:V}{k:Key}(e:Ks d=some k)(dv:DV K H d v):v=kV k:=by
 cases d<;>simp only[Ks,Option.some.injEq,reduceCtorEq] at e
 ·subst e;cases dv;rfl
 ·subst e;cases dv;rfl

def Ua(n:Nat)(p:Addr)(ds:List D)(same:Gp→Prop)(g:DTG)(tf:DTT)(tk tv:DTE)(σ:DSt)(G:Gp)(Q:DK):Prop:=∃P:Nat→List (Key×D)→Gp→Prop,P 0 [] G∧(∀i kvs G,i≤ds.length→P i kvs G→same G∧G p=some (.dkk kvs))∧
 (∀i x kvs G,ds[i]? = some x→P i kvs G→g x (List.replicate n none++σ) G fun σ2 G2=>P5 n σ σ2∧tf σ2 G2 fun b G3=>if b=true then tk σ2 G3 fun y G4=>tv σ2 G4 fun z G5=>∃k,Ks y=some k∧G5 p=some (.dkk kvs)∧kvs.length<sizeLine∧Fg (P (i+1) (Jh kvs k z)) (Ab G5 p (.dkk (Jh kvs k z))) else Fg (P (i+1) kvs) G3)∧
 ∀kvs G,P ds.length kvs G→Q (.ref p) G
theorem Pj{K:W.Frag}{J:It}{n:Nat}{p:Addr}{ds:List D}{same:Gp→Prop}{g:DTG}{tf:DTT}{tk tv:DTE}{Q:DK}{QV:VK}{σD:DSt}{σ:St}{G:Gp}{H:Hp}(rs:RelS K H σD σ)(rg:RelG K H G)(hp:H p=none)(cl:∀d G',Q d G'→Fwd K H G' fun H'=>∀v,DV K H' d v→QV v H')(hJ:∀H' G',Ext H H'→RelG K H' G'→same G'→ItemsX K J H' ds)(h:Ua n p ds same g tf tk tv σD (Ab G p (.dkk [])) Q) :
  ∃W:Nat→Nat→St→Hp→Prop,(∃m,W 0 m (List.replicate n none++σ) (upd H p (.dK [])))∧∀i m σ1 H,W i m σ1 H→
   ((J.stop i H∧QV (.ref p) H)∨(J.go i H∧∃N:St→Hp→Prop,(∀σ' H',N σ' H'→∃m',m'<m∧W (i+1) m' σ' H')∧
    ∀x H',J.yld i H x H'→Cn K g x σ1 H' fun σ2 H2=>Cw K tf σ2 H2 fun b H3=>if b=true then Ba K tk σ2 H3 fun y H4=>Ba K tv σ2 H4 fun z H5=>∃kvs k,y=kV k∧H5 p=some (.dK kvs)∧kvs.length<sizeLine∧N σ2 (upd H5 p (.dK (Ch kvs k z))) else N σ2 H3)):=by
 obtain⟨P,p0,keep,step,fin⟩:=h;refine⟨fun i m σ' H'=>m=ds.length-i∧i≤ds.length∧RelS K H' (List.replicate n none++σD) σ'∧∃yd G',RelG K H' G'∧Ext H H'∧P i yd G',
  ⟨ds.length,rfl,Nat.zero_le _,(Qj n rs).ext (Ext.fresh hp),[],_,rg.dkN hp,Ext.fresh hp,p0⟩,?_⟩
 rintro i m σ1 H1 ⟨rfl,hi,rs1,yd,G1,rg1,x1,p1⟩;obtain⟨sm,gp⟩:=keep i yd G1 hi p1;have I:=hJ H1 G1 x1 rg1 sm
 by_cases hlt:i<ds.length
 ·refine .inr ⟨I.go i hlt,fun σ' H'=>RelS K H' (List.replicate n none++σD) σ'∧∃yd' G',RelG K H' G'∧Ext H H'∧P (i+1) yd' G',fun σ' H' ⟨a2,yd',G',a3,a4,a5⟩=>⟨ds.length-(i+1),by omega,rfl,hlt,a2,yd',G',a3,a4,a5⟩,fun x H' y=>?_⟩
  obtain⟨xe,rge,d,ed,dv⟩:=I.yl i x H' hlt y;refine⟨d,_,G1,_,dv,rs1.ext xe,rge _ rg1,step i d yd G1 ed p1,fun σ2 G2 zz H2 x2 rg2 σ' rs2=>?_⟩;obtain⟨⟨pre,hpre,e2⟩,st2⟩:=zz;have back:∀{H5:Hp} {σ5:St},RelS K H5 σ2 σ5→RelS K H5 (List.replicate n none++σD) σ5:=fun {H5 σ5} r=>by
   refine⟨by rw[←r.1,e2,List.length_append,List.length_append,List.length_replicate,hpre],fun j d e=>?_⟩
   refine r.2 j d ?_
   by_cases hj:j<n
   ·rw[List.getElem?_append_left (by simpa using hj),List.getElem?_replicate,if_pos hj] at e
    cases e
   ·rw[List.getElem?_append_right (by simpa using hj),List.length_replicate] at e
    rw[e2,List.getElem?_append_right (by omega),hpre];exact e
  refine⟨σ2,G2,_,rs2,rg2,st2,fun b G3 h3 H3 x3 rg3=>?_⟩;have x13:=x1.trans (xe.trans (x2.trans x3));dsimp only at h3 ⊢;cases b with
  |false=>
   rw[if_neg Bool.false_ne_true] at h3 ⊢;obtain⟨G4,sb,p4⟩:=h3;exact⟨back (rs2.ext x3),yd,G4,rg3.ext' sb,x13,p4⟩
  |true=>
   rw[if_pos rfl] at h3 ⊢;refine⟨_,G3,_,rs2.ext x3,rg3,h3,fun y4 G4 h4 H4 x4 rg4 v4 d4=>?_⟩;refine⟨_,G4,_,rs2.ext (x3.trans x4),rg4,h4,fun z G5 zz H5 x5 rg5 v5 d5=>?_⟩;obtain⟨k,ek,e5,l5,G6,sb,p6⟩:=zz;obtain⟨xs,ex,r⟩:=rg5 p _ e5;exact⟨xs,k,D6 ek d4,ex,by rw[←Ls r];exact l5,back ((rs2.ext (x3.trans (x4.trans x5))).ext (Em ex)),_,G6,(rg5.dkW ex (Lr d5 r)).ext' sb,(x13.trans (x4.trans x5)).trans (Em ex),p6⟩
 ·have e:i=ds.length:=by omega
  subst e;exact .inl ⟨I.st,cl _ G1 (fin yd G1 p1) H1 x1 rg1 _ (.ref p)⟩
section
variable{X:Cx}{kx vx iter tg:Expr}{ifs:List Expr}{scope:Scope}{pos:Pos}{ti tk tv:DTE}{tf:DTT}{g:DTG}{T M:List Str}
def Ux(n:Nat)(ti:DTE)(g:DTG)(tf:DTT)(tk tv:DTE):DTE:=fun σ G Q=>ti σ G fun d G1=>∃ds,Ar G1 d=some ds∧∀p,G1 p=none→Ua n p ds (fun G'=>Ar G' d=some ds) g tf tk tv σ (Ab G1 p (.dkk [])) Q
theorem Qg(hc:X.calm=true)(ok:CompOz X scope (Bi X.env.cells scope.names []) T M)(hi:QE X iter ti)(hg:QGz X scope T M tg g)(hf:QFz X scope T M ifs tf)(hk:QEz X scope T M kx tk)(hv:QEz X scope T M vx tv)(hs:∀x,foldedSetIterable iter X.env x=pure x:=by intro _;rfl):QE X (.DictComp kx vx [⟨tg,iter,ifs,0⟩] scope pos) (Ux T.length ti g tf tk tv):=
 (Rw (g:=Cn X.K g) (tf:=Cw X.K tf) (tk:=Ba X.K tk) (tv:=Ba X.K tv) hc ok (K4 hi) hg hf hk hv hs).imp fun σ H Q zz=>by
 obtain⟨σD,G,Q',rs,rg,h,cl⟩:=zz;refine⟨σD,G,_,rs,rg,h,fun d G1 zz H1 x1 rg1 v dv=>?_⟩;obtain⟨ds,ei,L⟩:=zz;obtain⟨a,rfl⟩:=E9 ei dv;refine⟨a,rfl,?_⟩;have lp:=fun p hp=>Pj (J:=jOf X.K d a) (rs.ext x1) rg1 hp (fun d' G' q=>(cl d' G' q).go x1) (fun H' G' x' rg' s'=>De (Dr rg' s' (dv.ext x'))) (L p (rg1.free hp));cases dv with
 |tup e r=>exact .inr ⟨⟨_,.inl (.inl e)⟩,lp⟩
 |lint e=>exact .inl ⟨⟨_,e.sq⟩,lp⟩
 |ref=>
  simp only[Ar] at ei
  split at ei
  ·rename_i ds' q;obtain⟨xs,e,r⟩:=rg1 a _ q;exact .inl ⟨⟨_,.inl (.inl e)⟩,lp⟩
  ·cases ei
end
def KDict(P:Program)(w:World)(K:W.Frag)(a:Addr)(kvs:List (Key×V)):Prop:=(a == sysModules)=false∧∃o vs,K.lookup a=some o∧KV kvs vs∧o.IsDictOf (Ap P w) vs
def DRd(P:Program)(w:World)(h:Heap)(a:Addr)(kvs:List (Key×V)):Prop:=(a == sysModules)=false∧∃vs,KV kvs vs∧h.DictOf (Ap P w) a vs
def RdK(P:Program)(w:World)(K:W.Frag)(H:Hp)(a:Addr)(kvs:List (Key×V)):Prop:=H a=some (.dK kvs)∨KDict P w K a kvs
section
variable{X:Cx}{pins:List (Addr×Obj)}{σ:St}{H:Hp}{s:Shared}{a:Addr}{k:Key}{v:V}{kvs:List (Key×V)}{u:Value}{A:Around}{E:Value→Shared→Prop}
theorem RdK.rd(h:RdK X.prog X.w X.K H a kvs)(I:Inv X pins σ H s):DRd X.prog X.w s.heap a kvs:=by
 rcases h with h|⟨h1,o,vs,h2,h3,h4⟩
 ·obtain⟨_,hd,vs,rel,dd⟩:=Ee I.hok h;exact⟨hd,vs,rel,dd⟩
 ·exact⟨h1,vs,h3,Heap.dictOf_iff.mpr ⟨o,I.kIn _ _ h2,h4⟩⟩
theorem U2{Q:Value→Shared→Prop}(g:DRd X.prog X.w s.heap a kvs)(I:Inv X pins σ H s)(l:Cv kvs k=some v)(ry:RelV (kV k) u)(h:∀w' s',Inv X pins σ H s'→RelV v w'→Q w' s'):wpAny (model X.prog X.w) A (getItem (.ref a) u) Q E s:=by
 obtain⟨hd,vs,rel,dd⟩:=g;obtain⟨w',hw,rw'⟩:=RelO.some_of (v:=v) (o:=valueAt vs k) (by rw[←l];exact rel.val k)
 exact wpAny_getItem_of (Gd ry) dd.mapOf hw (h w' _ (I.tok _) rw')
end
section
variable{X:Cx}
def tKGet(P:Program)(w:World)(K:W.Frag)(td ty:TE):TE:=fun σ H Q=>td σ H fun x H1=>ty σ H1 fun y H2=>∃a kvs k v,x=.ref a∧RdK P w K H2 a kvs∧y=kV k∧Cv kvs k=some v∧Q v H2
theorem Zk{o i:Expr}{td ty:TE}{pos:Pos}(ho:PE X o td)(hi:PE X i ty)(hs:To i):PE X (.Subscript o i pos) (tKGet X.prog X.w X.K td ty):=by
 intro pins s σ H Q I h;refine P8 PySem.F.slot_dict_getitem.lookup hs (thn (ho pins s σ H _ I h) fun u s1 ⟨x,H1,I1,rx,q1⟩=>thn (hi pins s1 σ H1 _ I1 q1) fun iv s2 ⟨y,H2,I2,ry,a,kvs,k,v,ex,g,ek,ev,q2⟩=>?_);subst ex ek;obtain rfl:u=Value.ref a:=rx;have g:=g.rd I2;exact⟨let ⟨_,_,_,dd⟩:=g;dd.typeIs,U2 g I2 ev ry fun w' s3 I3 rw'=>⟨v,H2,I3,rw',q2⟩⟩
end
section
variable{X:Cx}{e i o:Expr}{te ti td:DTE}{pos pos':Pos}{a:Addr}{kvs:List (Key×D)}
def Abc(td ty:DTE):DTE:=fun σ G Q=>td σ G fun x G1=>ty σ G1 fun y G2=>∃p,x=.ref p∧∃kvs,G2 p=some (.dkk kvs)∧∃k,Ks y=some k∧∃d,Ck kvs k=some d∧Q d G2
theorem Acs(ho:QE X o td)(hi:QE X i ti)(hs:To i:=by intro _ _;rfl):QE X (.Subscript o i pos) (Abc td ti):=(Zk ho hi hs).imp fun σ H Q zz=>by
 obtain⟨σD,G,Q',rs,rg,h,cl⟩:=zz;refine⟨σD,G,_,rs,rg,h,fun x G1 h1 H1 x1 rg1 v dv=>?_⟩;refine⟨σD,G1,_,rs.ext x1,rg1,h1,fun y G2 zz H2 x2 rg2 v2 dv2=>?_⟩;obtain⟨p,ep,kvs,eg,k,ek,d,ed,q⟩:=zz;subst ep;cases dv;obtain⟨ks,eh,r⟩:=rg2 p _ eg;rcases Gw (k:=k) r with ⟨e1,e2⟩|⟨d',w,e1,e2,dw⟩
 ·rw[ed] at e1;cases e1
 ·rw[ed] at e1;cases e1;exact⟨p,ks,k,w,rfl,.inl eh,D6 ek dv2,e2,cl _ _ q H2 (x1.trans x2) rg2 _ dw⟩
end
abbrev topO:HO:=.ext fun _=>True
theorem Jt{P:Program}{w:World}{H:Hp}{h:Heap}{a:Addr}{o:Obj}(e:h.get? a=some o):ObjOk P w H h a (.frz o topO):=⟨e,True.intro,⟨o,e⟩,fun _ _ _ _=>True.intro⟩
section
variable{X:Cx}{pins:List (Addr×Obj)}{σ:List (Option V)}{H:Hp}{s:Shared}{h':Heap}
theorem Inv.grown{T:Addr}{t':Nat}{ps more:Array Value}(I:Inv X pins σ H s)(e:H T=some (.tbl ps))(k:∀b u,b≠T→s.heap.get? b=some u→h'.get? b=some u)(hT:h'.get? T=some (W.tabObj (ps++more))) :
  Inv X pins σ (upd H T (.tbl (ps++more))) { s with heap:=h',toks:=t' }:=by
 have nT:∀b,H b=none→b≠T:=fun b n z=>by rw[z,e] at n;cases n
 refine I.un ⟨fun b o q n _ _=>k b o (nT b n) q,fun b o q n _ _=>⟨o.slots,k b o (nT b n) q⟩,fun b o q n _=>by rw[Ae (nT b n)];exact n,fun b o q _=>?_,fun b xs q=>?_,fun b o u q=>?_,fun b qs q=>?_⟩ fun b u q=>?_
 ·by_cases hb:b=T
  ·subst hb;exact⟨_,hT⟩
  ·exact⟨o,k b o hb q⟩
 ·rw[Ae (Di q e (fun z=>by cases z))];exact q
 ·rw[Ae (Di q e (fun z=>by cases z))];exact q
 ·by_cases hb:b=T
  ·subst hb;rw[e] at q;cases q;exact⟨more,Af⟩
  ·exact⟨#[],by rw[Ae hb,q];simp⟩
 ·by_cases hb:b=T
  ·subst hb;rw[Af] at q;cases q;exact hT
  ·rw[Ae hb] at q;refine(I.hok b u q).stay (fun c v hc r=>k c v (fun z=>?_) r) (fun c r=>?_) fun c xs r=>?_
   ·subst z;rcases hc with z|z
    ·exact hb z.symm
    ·rw[e] at z;cases z
   ·rw[Ae (Di r e (fun z=>by cases z))];exact r
   ·rw[Ae (Di r e (fun z=>by cases z))];exact r
theorem Inv.seen{a:Addr}{o:Obj}(I:Inv X pins σ H s)(ha:X.s₀.heap.objs.size≤a)(hL:a≠X.env.locals)(hc:∀x c,X.env.cells.lookup x=some c→c≠a)(hp:∀p∈X.pn++pins,p.1≠a)(hn:H a=none)(e:s.heap.get? a=some o) :
  Inv X pins σ (upd H a (.frz o topO)) s:=by
 have nb:∀b o',X.s₀.heap.get? b=some o'→b≠a:=fun b o' q=>Nat.ne_of_lt (Nat.lt_of_lt_of_le (Heap.lt_size q) ha);refine⟨I.ok,I.os,I.bare,⟨I.base.keep,I.base.slot,fun b o' q n hx=>by rw[Ae (nb b o' q)];exact I.base.free b o' q n hx,I.base.there,fun b xs q=>?_,fun b o' u q=>?_,fun b ps q=>?_⟩,I.loc,I.cell,by rw[Ae hL.symm];exact I.free,fun x c q=>by rw[Ae (hc x c q)];exact I.freeC x c q,fun p hq=>?_,fun b u q=>?_,I.len⟩
 ·have q:=I.base.tups b xs q;rw[Ae (Aj q hn)];exact q
 ·have q:=I.base.frzs b o' u q;rw[Ae (Aj q hn)];exact q
 ·obtain⟨m,q⟩:=I.base.tbls b ps q;exact⟨m,by rw[Ae (Aj q hn)];exact q⟩
 ·obtain⟨p1,p2,p3⟩:=I.pin p hq;exact⟨p1,by rw[Ae (hp p hq)];exact p2,p3⟩
 ·by_cases hb:b=a
  ·subst hb;rw[Af] at q;cases q;exact Jt e
  ·rw[Ae hb] at q;exact(I.hok b u q).stay (fun c v _ r=>r) (fun c r=>by rw[Ae (Aj r hn)];exact r) fun c xs r=>by rw[Ae (Aj r hn)];exact r
end
abbrev lamO(q:Str)(params:Arguments)(body:Expr)(scope:Scope)(clos:List (Str×Addr))(pm cv ctv:Value):Obj:={ cls:=.type "function",data:=.func (W.kla_fn "<lambda>" q params body scope clos pm cv ctv) }
def tLam(T:Addr)(q:Str)(params:Arguments)(body:Expr)(scope:Scope)(clos:List (Str×Addr))(pm:Value)(pos:Pos):TE:=fun σ H Q=>∃ps,H T=some (.tbl ps)∧TriplesOk ps.toList∧
 (∀cv ctv f,codeAmong pos ps.toList=some cv→H f=none→Q (.ref f) (upd H f (.frz (lamO q params body scope clos pm cv ctv) topO)))∧
 ∀c o ctv f,codeAmong pos ps.toList=none→H c=none→H f=none→c≠f→CodeIs o q→
  Q (.ref f) (upd (upd (upd H T (.tbl (ps ++ #[rawInt pos.line,rawInt pos.col,.ref c]))) c (.frz o topO)) f (.frz (lamO q params body scope clos pm (.ref c) ctv) topO))
theorem Adh{X:Cx}{T c0:Addr}{params:Arguments}{body:Expr}{scope:Scope}{clos:List (Str×Addr)}{pos:Pos}(hdef:defaultsOf params X.env=([],[]))(hcl:closureFor scope X.env=pure clos)(hcode:X.env.code=.ref c0)(hC:W.codeHdIn X.K c0 T=true) :
  PE X (.Lambda params body scope pos) (tLam T (X.env.qual ++ "<lambda>") params body scope clos ((X.mg "__name__").getD .none) pos):=by
 intro pins s σ H Q I h;obtain⟨ps,eT,ht,hit,mis⟩:=h;have hP:s.heap.get? T=some (W.tabObj ps):=I.hok T _ eT;have hC:=W.codeHd_of_K I.kIn hC;have hg:s.heap.Ns mainGlobals X.mg:=I.mod.glob.keeps I.bk;obtain⟨bm,ob,b1,b2,b3,b4,b5,b6⟩:=I.mod.bm;have b3':=I.bk _ _ b3;have hgT:mainGlobals≠T:=fun z=>by
  obtain⟨o,es,ep,e,hd,_⟩:=hg;rw[z,hP] at e;cases e;cases hd
 have hbT:bm≠T:=fun z=>by rw[z,hP] at b3';cases b3';cases b4
 have hbG:bm≠mainGlobals:=fun z=>by
  obtain⟨o,es,ep,e,hd,_⟩:=hg;rw[z,e] at b3';cases b3';rw[hd] at b6;cases b6
 have hB:s.heap.BuiltinsAt X.mg T:=⟨bm,ob,b1,b2,hbG,hbT,b3',b4,b5,b6⟩;refine W.kla_eval hdef ?_;cases hf:codeAmong pos ps.toList with
 |some cv=>
  refine W.kla_makeFunctionHit (mg:=X.mg) hcl I.ok.glob hg hcode hC hP ht hf hB fun ctv h' tk hk hsz=>?_;have I1:Inv X pins σ H { s with heap:=h',toks:=tk }:=I.kept hk;have I2:=I1.laid (t':=tk) (h':=h'.push (lamO (X.env.qual ++ "<lambda>") params body scope clos ((X.mg "__name__").getD .none) cv ctv)) (o:=.frz (lamO (X.env.qual ++ "<lambda>") params body scope clos ((X.mg "__name__").getD .none) cv ctv) topO)
   (fun b u e=>Heap.get?_push_of_some _ e) (Nat.le_refl _) (Jt (Heap.get?_push_size _ rfl))
  exact⟨.ref h'.objs.size,_,I2,rfl,hit cv ctv _ hf (I1.hok.fresh (Nat.le_refl _))⟩
 |none=>
  refine W.kla_makeFunction (mg:=X.mg) hcl I.ok.glob hg hcode hC hP ht hf hgT hB fun c' ctv h' tk hx hge hlt hrec htb=>?_;obtain⟨c₂,oc,vs,t,e2,hoc,hd,hv⟩:=hrec;cases e2;have nc:H c'=none:=I.hok.fresh hge;have neT:c'≠T:=fun z=>by rw[z,eT] at nc;cases nc
  have I1:=Inv.grown (t':=tk) I eT (fun b u hb e=>hx b u hb e) htb;have fo:=I.fpOk (H':=H) hge nc;have I2:=Inv.seen I1 (Nat.le_trans I.sz hge) fo.2.1 fo.2.2.2.2.1 (fun p hp=>fo.2.2.2.2.2 p hp) (by rw[Ae neT];exact nc) hoc
  have I3:=I2.laid (t':=tk) (h':=h'.push (lamO (X.env.qual ++ "<lambda>") params body scope clos ((X.mg "__name__").getD .none) (.ref c') ctv)) (o:=.frz (lamO (X.env.qual ++ "<lambda>") params body scope clos ((X.mg "__name__").getD .none) (.ref c') ctv) topO)
   (fun b u e=>Heap.get?_push_of_some _ e) (Nat.le_refl _) (Jt (Heap.get?_push_size _ rfl))
  have ff:H h'.objs.size=none:=by
   cases q:H h'.objs.size with
   |none=>rfl
   |some u=>exact absurd (Nat.lt_of_lt_of_le (I.hok.lt q) (Nat.le_trans hge (Nat.le_of_lt hlt))) (Nat.lt_irrefl _)
  exact⟨.ref h'.objs.size,_,I3,rfl,mis c' oc ctv _ hf nc ff (Nat.ne_of_lt hlt) ⟨vs,t,hd,hv⟩⟩
theorem Td{p:Pos}{a b:Int}{c cv:Value}(l:List Value)(h:TriplesOk l)(e:codeAmong p (l++[rawInt a,rawInt b,c])=some cv):codeAmong p l=some cv∨cv=c:=by
 fun_induction TriplesOk l with
 |case1=>
  simp only[List.nil_append,rawInt,codeAmong] at e
  split at e
  ·cases e;exact .inr rfl
  ·cases e
 |case2 a' t b' u x rest ih=>
  simp only[List.cons_append,codeAmong] at e ⊢
  split at e
  ·rename_i hc;rw[if_pos hc];exact .inl e
  ·rename_i hc;rw[if_neg hc];exact ih h e
 |case3 l h1 h2=>exact h.elim
section
variable{X:Cx}
theorem Ext.tbl{H:Hp}{p:Addr}{ps:Array Value}{u:HO}(e:H p=some (.tbl ps)):Ext H (upd H p u):=Ext.write e (fun xs z=>by cases z) (fun ob w z=>by cases z)
end
def Cm(H:Hp)(ts:List Addr):Hp:=fun b=>if b∈ts then some (.tbl #[]) else H b
theorem Hm{H:Hp}{ts:List Addr}{b:Addr}(h:b∈ts):Cm H ts b=some (.tbl #[]):=if_pos h
theorem Ci{H:Hp}{ts:List Addr}{b:Addr}(h:b ∉ ts):Cm H ts b=H b:=if_neg h
structure Given(K:W.Frag)(ts:List Addr)(a:Addr)(ns:List Int)(H:Hp):Prop where
 tab:∀T∈ts,H T=some (.tbl #[])
 rest:∀b,b ∉ ts→H b=none∨∃o xs,H b=some (.frz o (.lst xs))
 arg:SqL K H a (ns.map V.int)
theorem Sd{P:Program}{w:World}{K:W.Frag}{mg:Str→Option Value}{CX:CXT}{k:Nat}{fa a:Addr}{fd:FuncData}{x:Str}{sp:Sp}{s₁:Shared}{vs:List Value}{ns:List Int}{ts:List Addr}(KX:K.In s₁.heap)(hT:∀T∈ts,isCodeTable s₁.heap T∧s₁.heap.get? T=some (W.tabObj #[])∧K.lookup T=none)(hM:Mod K mg s₁.heap)(hg:s₁.gens=#[])(ha:s₁.heap.get? a=some { cls:=.type "list",data:=.seq vs.toArray })(hi:IntsAre vs ns)(hl:ns.length≤sizeLine)(hr:Room k callerA)(F:∀base:Heap,K.In base→base.Ns mainGlobals mg→FnOk P w K mg base CX k fa fd [x] sp)(hbind:∀(s:Shared) (u:Value),BindsTo s fd ⟨[u],[]⟩ [(x,u)])(hsp:∀H:Hp,Given K ts a ns H→sp [.ref a] H (fun v _=>v=.bl true) fun _ _ _=>False)(hCX:∀H e s',CX [] H s₁ (fun _ _ _=>False) e s'→False) :
  codeAny (model P w) callerA (.call (.ref fa) ⟨[.ref a],[]⟩) (fun r s'=>r=.ok (.ret (.bool true))∧OldK s₁.heap s'.heap∧s'.os=s₁.os∧AllBare s'.gens) s₁:=by
 have hat:a ∉ ts:=fun z=>by
  have e:=(hT a z).2.1;rw[ha] at e;cases e
 have main:∀H0:Hp,(∀b,b≠a→H0 b=none)→(H0 a=none∨∃o xs,H0 a=some (.frz o (.lst xs)))→(H0 a≠none→K.lookup a=none)→SqL K H0 a (ns.map V.int)→HOk P w H0 s₁.heap→
   codeAny (model P w) callerA (.call (.ref fa) ⟨[.ref a],[]⟩) (fun r s'=>r=.ok (.ret (.bool true))∧OldK s₁.heap s'.heap∧s'.os=s₁.os∧AllBare s'.gens) s₁:=by
  intro H0 off at0 hK0 hS hok0;have eA:Cm H0 ts a=H0 a:=Ci hat;have gv:Given K ts a ns (Cm H0 ts):=⟨fun T h=>Hm h,fun b hb=>by
   rw[Ci hb]
   by_cases z:b=a
   ·rw[z];exact at0
   ·exact .inl (off b z),hS.elim (fun h=>.inl (h.elim (fun h=>.inl (by rw[eA];exact h)) fun⟨o,h⟩=>.inr ⟨o,by rw[eA];exact h⟩)) .inr⟩
  have hok:HOk P w (Cm H0 ts) s₁.heap:=fun b u q=>by
   by_cases hb:b∈ts
   ·rw[Hm hb] at q;cases q;exact(hT b hb).2.1
   ·rw[Ci hb] at q;have z:b=a:=Classical.byContradiction fun z=>by rw[off b z] at q;cases q
    subst z;refine(hok0 b u q).stay (fun _ _ _ r=>r) (fun c r=>?_) fun c xs r=>?_
    ·have hc:c=b:=Classical.byContradiction fun z=>by rw[off c z] at r;cases r
     subst hc;rw[eA];exact r
    ·have hc:c=b:=Classical.byContradiction fun z=>by rw[off c z] at r;cases r
     subst hc;rw[eA];exact r
  have un:∀b o,s₁.heap.get? b=some o→(o.cls≠.none)→(o.cls≠.type "list")→Cm H0 ts b=none:=fun b o e n1 n2=>by
   by_cases hb:b∈ts
   ·rw[(hT b hb).2.1] at e;cases e;exact absurd rfl n1
   ·rw[Ci hb];refine off b fun z=>?_;rw[z,ha] at e;cases e;exact absurd rfl n2
  have unD:∀b o es ep,s₁.heap.get? b=some o→o.data=.dict es ep→Cm H0 ts b=none:=fun b o es ep e d=>by
   by_cases hb:b∈ts
   ·rw[(hT b hb).2.1] at e;cases e;cases d
   ·rw[Ci hb];refine off b fun z=>?_;rw[z,ha] at e;cases e;cases d
  have bo:∀{b:Addr} {o:Obj},s₁.heap.get? b=some o→Cm H0 ts b=none→(Kt s₁.heap (Cm H0 ts)).get? b=some o:=fun e n=>Xk e n;have nsB:∀{b:Addr} {m:Str→Option Value},s₁.heap.Ns b m→(Kt s₁.heap (Cm H0 ts)).Ns b m:=fun {b m} ⟨o,es,ep,e,d,r⟩=>⟨o,es,ep,bo e (unD b o es ep e d),d,r⟩;have kB:K.In (Kt s₁.heap (Cm H0 ts)):=fun b o e=>bo (KX b o e) (by
   by_cases hb:b∈ts
   ·rw[(hT b hb).2.2] at e;cases e
   ·rw[Ci hb]
    by_cases z:b=a
    ·subst z;cases q:H0 b with
     |none=>rfl
     |some u=>rw[hK0 (by rw[q];simp)] at e;cases e
    ·exact off b z)
  have mB:Mod K mg (Kt s₁.heap (Cm H0 ts)):=⟨kB,nsB hM.glob,let ⟨mm,h1⟩:=hM.sm;⟨mm,nsB h1⟩,
   let ⟨bm,ob,b1,b2,b3,b4,b5⟩:=hM.bm;⟨bm,ob,b1,b2,bo b3 (un bm ob b3 (by rw[b4];exact fun z=>by cases z) (by rw[b4];exact fun z=>absurd (Value.type.inj z) (by decide))),b4,b5⟩,
   let ⟨mb,h1,h2⟩:=hM.blt;⟨mb,nsB h1,h2⟩,let ⟨mc,h1,h2⟩:=hM.nolimit;⟨mc,nsB h1,h2⟩⟩
  have e0:Env0 P w K mg (Kt s₁.heap (Cm H0 ts)) callerA [] s₁ (Cm H0 ts):=⟨rfl,mB,fun b o e=>Z2 e,Nat.le_of_eq (Sj _ _),trivial,fun b hb=>absurd (show b∈([]:List Addr) from hb) (by simp),hok,.of_eq hg⟩
  refine codeAny_mono ((F _ kB mB.glob).run callerA [] s₁ (Cm H0 ts) ⟨[.ref a],[]⟩ [.ref a] [.ref a] _ _ hr e0 (hbind s₁ (.ref a)) (.cons rfl .nil) (hsp _ gv)) fun r s' h=>?_;cases r with
  |error e=>exact(hCX _ e s' h).elim
  |ok fl=>
   cases fl with
   |next=>exact False.elim h
   |brk=>exact False.elim h
   |cont=>exact False.elim h
   |ret u=>
    obtain⟨v,H',os,bare,ud,hok',r',q⟩:=h;have q:v=.bl true:=q;subst q;obtain rfl:u=Value.bool true:=r';have keep:∀b o,b ∉ ts→s₁.heap.get? b=some o→s'.heap.get? b=some o:=fun b o hb e=>by
     rcases gv.rest b hb with z|⟨ob,xs,z⟩
     ·exact ud.keep b o e z (by intro z;exact absurd (show b∈([]:List Addr) from z) (by simp)) (by simp)
     ·obtain⟨e1,_⟩:=hok b _ z;obtain⟨e2,_⟩:=hok' b _ (ud.frzs b ob _ z);rw[e] at e1;cases e1;exact e2
    have grown:∀T∈ts,∃more,s'.heap.get? T=some (W.tabObj (#[]++more)):=fun T hb=>by
     obtain⟨more,z⟩:=ud.tbls T _ (Hm hb);exact⟨more,hok' T _ z⟩
    refine⟨rfl,⟨fun b o e=>?_,fun b o e=>?_⟩,os,bare⟩
    ·by_cases hb:b∈ts
     ·obtain⟨t1,t2,_⟩:=hT b hb;rw[t2] at e;cases e;obtain⟨more,z⟩:=grown b hb;exact .inr (.inl ⟨t1,rfl,#[],more,rfl,z⟩)
     ·exact .inl (keep b o hb e)
    ·by_cases hb:b∈ts
     ·obtain⟨more,z⟩:=grown b hb;exact⟨_,z⟩
     ·exact⟨o,keep b o hb e⟩
 have rv:=L2.vals_ints hi;have lenV:=hi.length;cases hk:K.lookup a with
 |some o=>
  have e:=KX a o hk;rw[ha] at e;cases e;exact main (fun _=>none) (fun _ _=>rfl) (.inl rfl) (fun z=>absurd rfl z) (.inr ⟨_,vs.toArray,_,hk,rfl,rfl,rfl,by rw[List.size_toArray,lenV];exact hl,by simpa using rv⟩) fun b u z=>by cases(show(none:Option HO)=some u from z)
 |none=>
  refine main (upd (fun _=>none) a (.frz { cls:=.type "list",data:=.seq vs.toArray } (.lst (ns.map V.int)))) (fun b z=>Ae z) (.inr ⟨_,_,Af⟩) (fun _=>hk) (.inl (.inr ⟨_,Af⟩)) fun b u z=>?_
  by_cases hb:b=a
  ·subst hb;rw[Af] at z;cases z;exact⟨ha,by rw[List.length_map];exact hl,vs,_,rv,ha⟩
  ·rw[Ae hb] at z;cases z
theorem Vj{l:W.OpenLaw}{n k:Nat}{q:Program}{loose:List Str}{XP:(Str→Option Value)→Heap→Prop}{YP:World→Heap→Prop}{d:DefRec}{K:Params→W.Frag}{CX:CXT}{sp:W.Frag→Sp}{x:Str}{ts:List Addr}(hi:importsNone q=true)(hn:l.most=some n)(hn2:n≤sizeLine)(hdf:d.params.defaults=[])(hr:Room k callerA)(hY:∀(w:World) (h:Heap),YP w h→(K w.params).In h∧∀T∈ts,h.get? T=some (W.tabObj #[]))(hC:∀(w:World) (h:Heap),(K w.params).In h→∀T∈ts,(∃c,W.codeHdIn (K w.params) c T=true)∧(K w.params).lookup T=none)(F:∀(w:World) (mg:Str→Option Value) (fa:Addr) (h:Heap),(K w.params).In h→h.Ns mainGlobals mg→mg d.name=some (.ref fa)→
   ∃fd:FuncData,(∀(s:Shared) (u:Value),BindsTo s fd ⟨[u],[]⟩ [(x,u)])∧∀base:Heap,(K w.params).In base→base.Ns mainGlobals mg→FnOk l.prog w (K w.params) mg base CX k fa fd [x] (sp (K w.params)))(hsp:∀(K:W.Frag) (H:Hp) (a:Addr) (ns:List Int),ns.length≤n→Given K ts a ns H→sp K [.ref a] H (fun v _=>v=.bl true) fun _ _ _=>False)(hCX:∀(H:Hp) (s:Shared) (e:Value) (s':Shared),CX [] H s (fun _ _ _=>False) e s'→False):W.WalkO q loose XP YP l.row.toRowW d [] (fun f vs=>PySem.call f vs):=by
 refine Att.attach_call hn hdf fun w s₀ s₁ mg mb fa o pm cd doc a vs ns G Y ho hd hcd hmg hobj hints hlen hg=>?_;obtain⟨KX,tb⟩:=hY w _ Y;obtain⟨fd,hb,hF⟩:=F w mg fa _ KX G.T.g hmg;refine Sd (ts:=ts) KX (fun T h=>?_) ⟨KX,G.T.g,let ⟨mm,h1,_⟩:=(G.T.seer hi).mods;⟨mm,h1⟩,G.T.bmain,⟨mb,G.T.b,G.T.builtins⟩,G.T.nolimit⟩ hg hobj hints (Nat.le_trans hlen hn2) hr hF hb (fun H g=>hsp _ H a ns hlen g) fun H e s'=>hCX H s₁ e s';obtain⟨⟨c,h1⟩,h2⟩:=hC w _ KX T h;exact⟨((W.codeHd_of_K KX h1).tab (tb T h)).isCodeTable,tb T h,h2⟩
def K0(ts:List (Addr×Str)):DSp:=fun ds G Q _=>∃ns:List Int,ds=[.lint ns]∧ns.length≤63∧(∀p∈ts,G p.1=some (.tbl p.2))∧∀G',Q (.bl true) G'
theorem Aaf(ts:List (Addr×Str))(nd:(ts.map (·.1)).Nodup)(K:W.Frag)(H:Hp)(a:Addr)(ns:List Int)(hl:ns.length≤63)(g:Given K (ts.map (·.1)) a ns H):Ak K (K0 ts) [.ref a] H (fun v _=>v=.bl true) fun _ _ _=>False:=by
 have rd:RdI K H a (ns.map V.int):=by
  rcases g.arg with (h|h)|h
  ·by_cases ht:a∈ts.map (·.1)
   ·rw[g.tab a ht] at h;cases h
   ·rcases g.rest a ht with z|⟨o,xs,z⟩
    ·rw[h] at z;cases z
    ·rw[h] at z;cases z
  ·exact .inl h
  ·exact .inr h
 have look:∀(l:List (Addr×Str)) p,(l.map (·.1)).Nodup→p∈l→l.lookup p.1=some p.2:=fun l=>by
  induction l with
  |nil=>intro p _ h;cases h
  |cons y r ih=>
   intro p nd h;rw[List.map_cons,List.nodup_cons] at nd;rw[List.lookup_cons];rcases List.mem_cons.mp h with rfl|h
   ·rw[beq_self_eq_true]
   ·have ne:(p.1 == y.1)=false:=beq_eq_false_iff_ne.mpr fun z=>nd.1 (z ▸ List.mem_map_of_mem h);rw[ne];exact ih p nd.2 h
 have back:∀(l:List (Addr×Str)) b q,l.lookup b=some q→b∈l.map (·.1):=fun l=>by
  induction l with
  |nil=>intro b q h;cases h
  |cons y r ih=>
   intro b q h;rw[List.lookup_cons] at h;cases e:b == y.1 with
   |true=>rw[beq_iff_eq.mp e];simp
   |false=>rw[e] at h;exact List.mem_cons_of_mem _ (ih b q h)
 refine⟨[.lint ns],fun b=>(ts.lookup b).map GO.tbl,fun d _=>d=.bl true,fun _ _=>False,.cons (.lint rd) .nil,(fun b o e=>?_),⟨ns,rfl,hl,fun p hp=>by show(ts.lookup p.1).map GO.tbl=_;rw[look ts p nd hp];rfl,fun _=>rfl⟩,fun d G' e H' _ _ v dv=>?_,fun c G' (e:False)=>e.elim⟩
 ·obtain⟨q,eq,e⟩:=Option.map_eq_some_iff.mp e;subst e;exact⟨#[],g.tab b (back ts b q eq),True.intro,fun p cv z=>by cases z⟩
 ·have e:d=.bl true:=e;subst e;cases dv;rfl
section
variable{P:Program}{w:World}{A:Around}{E:Value→Shared→Prop}{s:Shared}
end
end D3
namespace D3
open PySem PySem.Spec
open PyProof.Rows hiding St
open L2 hiding St
open PySem.W (KdlSrc kdl_extend kdl_values)
section
variable{P:Program}{w:World}{A:Around}{E:Value→Shared→Prop}{s:Shared}
end
abbrev Tr(d:Addr):Obj:={ cls:=.type "dict_values",data:=.fields #[.ref d] }
abbrev Cp(d:Addr):Obj:={ cls:=.type "dict_items",data:=.fields #[.ref d] }
section
variable{X:Cx}{o e:Expr}{to:TE}{apos cpos pos p:Pos}
def Ts(mk:Addr→Obj)(to:TE):TE:=fun σ H Q=>to σ H fun x H1=>∃a kvs,x=.ref a∧H1 a=some (.dK kvs)∧∀v,H1 v=none→Q (.ref v) (upd H1 v (.frz (mk a) topO))
theorem Rv(ho:PE X o to)(hbase:attributeBase o "values" X.env (eval o X.env)=eval o X.env)(hline:(apos.endLine == cpos.line)=true):PE X (.Call (.Attribute o "values" apos) [] [] cpos) (Ts Tr to):=by
 intro pins s σ H Q I h;refine wpAny_Call_method0_late hbase hline (thn (ho pins s σ H _ I h) fun u s1 zz=>?_);obtain⟨x,H1,I1,rx,a,kvs,ex,eh,q⟩:=zz;subst ex;obtain rfl:u=Value.ref a:=rx;obtain⟨t1,t2,t3⟩:=Oy I1 (.inl ⟨kvs,.inl eh⟩);obtain⟨_,_,vs,_,dd⟩:=Ee I1.hok eh;refine⟨"dict", "dict.values",PySem.F.plainAttrs_dict,PySem.F.slot_dict_values,PySem.F.type_dict_values,t1,t2,Calls.callWith_builtin rfl (PySem.evalArgs_none ?_)⟩;refine call_meetsIn PySem.F.slot_dict_values t1 PySem.F.entry_dict_values (PySem.F.args_dict_values_1 _) (meets_dict_values (Ap X.prog X.w) a t3) ⟨⟨vs,dd⟩,?_⟩;exact⟨.ref s1.heap.objs.size,_,I1.laid (t':=s1.toks) (o:=.frz (Tr a) topO) (fun b u e=>Heap.get?_push_of_some _ e) (Nat.le_refl _) (Jt (Heap.get?_push_size _ rfl)),rfl,q _ (I1.hok.fresh (Nat.le_refl _))⟩
theorem Wg(ho:PE X o to)(hbase:attributeBase o "items" X.env (eval o X.env)=eval o X.env)(hline:(apos.endLine == cpos.line)=true):PE X (.Call (.Attribute o "items" apos) [] [] cpos) (Ts Cp to):=by
 intro pins s σ H Q I h;refine wpAny_Call_method0_late hbase hline (thn (ho pins s σ H _ I h) fun u s1 zz=>?_);obtain⟨x,H1,I1,rx,a,kvs,ex,eh,q⟩:=zz;subst ex;obtain rfl:u=Value.ref a:=rx;obtain⟨t1,t2,t3⟩:=Oy I1 (.inl ⟨kvs,.inl eh⟩);obtain⟨_,_,vs,_,dd⟩:=Ee I1.hok eh;refine⟨"dict", "dict.items",PySem.F.plainAttrs_dict,PySem.F.slot_dict_items,PySem.F.type_dict_items,t1,t2,Calls.callWith_builtin rfl (PySem.evalArgs_none ?_)⟩;refine call_meetsIn PySem.F.slot_dict_items t1 PySem.F.entry_dict_items (PySem.F.args_dict_items_1 _) (meets_dict_items (Ap X.prog X.w) a t3) ⟨⟨vs,dd⟩,?_⟩;exact⟨.ref s1.heap.objs.size,_,I1.laid (t':=s1.toks) (o:=.frz (Cp a) topO) (fun b u e=>Heap.get?_push_of_some _ e) (Nat.le_refl _) (Jt (Heap.get?_push_size _ rfl)),rfl,q _ (I1.hok.fresh (Nat.le_refl _))⟩
end
end D3
namespace D3
open PySem PySem.Spec
open PyProof.Rows hiding St
open L2 hiding St
section
variable{X:Cx}{o:Expr}{to:DTE}{apos cpos pos p:Pos}
end
section
variable{X:Cx}{pins:List (Addr×Obj)}{σ:List (Option V)}{H:Hp}{s:Shared}
theorem Inv.freeze{a:Addr}{ks:List (Key×V)}{o:Obj}(I:Inv X pins σ H s)(e:H a=some (.dK ks))(ho:s.heap.get? a=some o):Inv X pins σ (upd H a (.frz o (.dK ks))) s:=by
 have na:∀b,H b=none→b≠a:=fun b n z=>by rw[z,e] at n;cases n
 have z:({ s with heap:=s.heap,toks:=s.toks }:Shared)=s:=rfl;rw[←z];refine I.un (t':=s.toks) ⟨fun b o' q n _ _=>q,fun b o' q n _ _=>⟨o'.slots,q⟩,fun b o' q n _=>by rw[Ae (na b n)];exact n,fun b o' q _=>⟨o',q⟩,fun b xs q=>?_,fun b o' u q=>?_,fun b ps q=>⟨#[],?_⟩⟩ fun b u q=>?_
 ·rw[Ae (Di q e (fun z=>by cases z))];exact q
 ·rw[Ae (Di q e (fun z=>by cases z))];exact q
 ·rw[Ae (Di q e (fun z=>by cases z)),q];simp
 ·have tp:∀c xs,H c=some (.tup xs)→(upd H a (.frz o (.dK ks))) c=some (.tup xs):=fun c xs r=>by rw[Ae (Di r e (fun z=>by cases z))];exact r
  have ow:∀c x,H c=some (.own x)→(upd H a (.frz o (.dK ks))) c=some (.own x):=fun c x r=>by rw[Ae (Di r e (fun z=>by cases z))];exact r
  by_cases hb:b=a
  ·subst hb;rw[Af] at q;cases q;exact⟨ho,(I.hok b _ e).stay (fun _ _ _ r=>r) (fun c r=>ow c b r) tp⟩
  ·rw[Ae hb] at q;exact(I.hok b u q).stay (fun _ _ _ r=>r) (fun c r=>ow c b r) tp
end
theorem Jo:entryFor table "dict_itemiterator.__iter__" = some Builtin.«dict_keyiterator.__iter__»:=entryFor_alias (id':="dict_keyiterator.__iter__") (by kernel_rfl) rfl (by decide +kernel) (by kernel_rfl)
theorem Aaj{P:Program}{w:World}{A:Around}{E:Value→Shared→Prop}{s:Shared}{it d:Addr}{i n ep:Nat}{ok ov:Value}{Q:Value→Shared→Prop}(hit:IsItemIter s.heap it d i n ep ok ov)(h:Q (.ref it) s):wpAny (model P w) A (pyIter (.ref it)) Q E s:=by
 have ty:s.TypeIs (.ref it) "dict_itemiterator":=⟨_,hit,rfl⟩;refine wpAny_pyIter_slot ty PySem.F.slot_dict_itemiterator_iter (wpAny_call_entry PySem.F.slot_dict_itemiterator_iter ty Jo ?_ (PySem.F.args_dict_itemiterator_iter_1 _));exact wpAny_pure ⟨_,rfl, "dict_itemiterator",_,ty,PySem.F.slot_dict_itemiterator_next.lookup,h⟩
section
variable{X:Cx}{elt o tg:Expr}{ifs:List Expr}{scope:Scope}{pos apos cpos:Pos}{to:DTE}{T M:List Str}
def Fj(G:Gp)(a:Addr):Gp:=fun b=>if b=a then none else G b
end
section
variable{X:Cx}
end
section
variable{P:Program}{w:World}{A:Around}{E:Value→Shared→Prop}{s:Shared}
theorem Q8{vs:List Value}{ns:List Int}(hi:IntsAre vs ns)(hne:0<ns.length):∃xs:Array (Int×Tok),vs.toArray=intItems xs∧0<xs.size∧(∀j,j≤xs.size-1→numAt xs j∈ns)∧∀a∈ns,∃j,j≤xs.size-1∧numAt xs j=a:=by
 obtain⟨xs,e⟩:=hi.allInts.items;have hns:ns=xs.toList.map (·.1):=by rw[←hi.numsOf,←nums_intItems,←e]
 have hsz:0<xs.size:=by
  have h3:=hne;rw[hns,List.length_map,Array.length_toList] at h3;exact h3
 refine⟨xs,e,hsz,fun j hj=>?_,fun a ha=>?_⟩
 ·rw[hns,numAt_eq];exact getD_mem (by rw[List.length_map,Array.length_toList];omega)
 ·rw[hns] at ha;obtain⟨j,hj,rfl⟩:=mem_getD ha;rw[List.length_map,Array.length_toList] at hj;exact⟨j,by omega,numAt_eq ..⟩
theorem W4{l:Addr}{vs:List Value}{ns:List Int}{Q:Value→Shared→Prop}(hh:A.handled=none)(hl:s.heap.IsList l vs.toArray)(hi:IntsAre vs ns)(hne:0<ns.length)(h:∀(h':Heap) (M:Int) (t tk:Tok),(∀b o,s.heap.get? b=some o→h'.get? b=some o)→M∈ns→(∀a∈ns,M≤a)→Q (.int M t) { s with heap:=h',toks:=tk }):wpAny (model P w) A (call (.builtin "min") [.ref l]) Q E s:=by
 obtain⟨xs,e,hsz,h1,h2⟩:=Q8 hi hne;rw[e] at hl;refine min_intList hh hl hsz fun v h' tk hv hk=>?_;obtain⟨t,rfl⟩:=intItems_at hv;obtain⟨g1,g2⟩:=argBest_lt (numAt xs) (xs.size-1);refine h h' _ t tk hk (h1 _ g1) fun a ha=>?_;obtain⟨j,hj,rfl⟩:=h2 a ha;exact g2 j hj
theorem W5{l:Addr}{vs:List Value}{ns:List Int}{Q:Value→Shared→Prop}(hh:A.handled=none)(hl:s.heap.IsList l vs.toArray)(hi:IntsAre vs ns)(hne:0<ns.length)(h:∀(h':Heap) (M:Int) (t tk:Tok),(∀b o,s.heap.get? b=some o→h'.get? b=some o)→M∈ns→(∀a∈ns,a≤M)→Q (.int M t) { s with heap:=h',toks:=tk }):wpAny (model P w) A (call (.builtin "max") [.ref l]) Q E s:=by
 obtain⟨xs,e,hsz,h1,h2⟩:=Q8 hi hne;rw[e] at hl;refine max_intList hh hl hsz fun v h' tk hv hk=>?_;obtain⟨t,rfl⟩:=intItems_at hv;obtain⟨g1,g2⟩:=argBest_gt (numAt xs) (xs.size-1);refine h h' _ t tk hk (h1 _ g1) fun a ha=>?_;obtain⟨j,hj,rfl⟩:=h2 a ha;exact g2 j hj
end
section
variable{X:Cx}
theorem Sx(hc:X.calm=true):CallR X (.builtin "min") (fun xs H Q=>∃(l:Addr) (ns:List Int),xs=[.ref l]∧SqL X.K H l (ns.map V.int)∧0<ns.length∧∀M∈ns,(∀a∈ns,M≤a)→Q (.int M) H):=by
 intro pins s σ H xs us Q I r h;obtain⟨l,ns,rfl,hl,hn,q⟩:=h;obtain⟨u,rfl,rx⟩:=By r;cases rx;obtain⟨its,rv,pl,_⟩:=I.list hl;exact W4 (I.ok.hd hc) pl.isList (D3.Eb rv) hn fun h' M t tk k h1 h2=>⟨.int M,H,I.kept k,⟨t,rfl⟩,q M h1 h2⟩
theorem S0(hc:X.calm=true):CallR X (.builtin "max") (fun xs H Q=>∃(l:Addr) (ns:List Int),xs=[.ref l]∧SqL X.K H l (ns.map V.int)∧0<ns.length∧∀M∈ns,(∀a∈ns,a≤M)→Q (.int M) H):=by
 intro pins s σ H xs us Q I r h;obtain⟨l,ns,rfl,hl,hn,q⟩:=h;obtain⟨u,rfl,rx⟩:=By r;cases rx;obtain⟨its,rv,pl,_⟩:=I.list hl;exact W5 (I.ok.hd hc) pl.isList (D3.Eb rv) hn fun h' M t tk k h1 h2=>⟨.int M,H,I.kept k,⟨t,rfl⟩,q M h1 h2⟩
theorem Aeq(hc:X.calm=true):QC X (.builtin "min") (fun ds G Q=>∃d,ds=[d]∧∃p,d=.ref p∧∃ns:List Int,G p=some (.lst (ns.map D.int))∧0<ns.length∧∀M∈ns,(∀a∈ns,M≤a)→Q (.int M) G):=(Sx hc).imp fun xs H Q zz=>by
 obtain⟨ds,G,Q',dv,rg,⟨d,e,p,ep,ns,eg,hn,q⟩,cl⟩:=zz;subst e ep;obtain⟨v,rfl,h⟩:=dv.one;cases h;obtain⟨ys,eh,r⟩:=rg p _ eg;rw[Dc r] at eh;exact⟨p,ns,rfl,.inl (.inl eh),hn,fun M h1 h2=>cl _ _ (q M h1 h2) _ (Ext.refl H) rg _ (.int M)⟩
theorem Aes(hc:X.calm=true):QC X (.builtin "max") (fun ds G Q=>∃d,ds=[d]∧∃p,d=.ref p∧∃ns:List Int,G p=some (.lst (ns.map D.int))∧0<ns.length∧∀M∈ns,(∀a∈ns,a≤M)→Q (.int M) G):=(S0 hc).imp fun xs H Q zz=>by
 obtain⟨ds,G,Q',dv,rg,⟨d,e,p,ep,ns,eg,hn,q⟩,cl⟩:=zz;subst e ep;obtain⟨v,rfl,h⟩:=dv.one;cases h;obtain⟨ys,eh,r⟩:=rg p _ eg;rw[Dc r] at eh;exact⟨p,ns,rfl,.inl (.inl eh),hn,fun M h1 h2=>cl _ _ (q M h1 h2) _ (Ext.refl H) rg _ (.int M)⟩
end
section
variable{X:Cx}{a b:Expr}{ta:TA}{tA:DTA}{p p0 pos pos0:Pos}
theorem Vu{lo:Int}:∀{n:Nat} {l:List Value},l.length=n→(∀(j:Nat) v,l[j]? = some v→∃t,v=.int (lo+(j:Nat)*1) t)→Vals ((List.range n).map fun k=>V.int (lo+(k:Nat))) l:=by
 intro n l hn h;subst hn
 induction l generalizing lo with
 |nil=>exact .nil
 |cons x r ih=>
  rw[List.length_cons,List.range_succ_eq_map,List.map_cons,List.map_map];obtain⟨t,e⟩:=h 0 x rfl;refine .cons ⟨t,by rw[e];simp⟩ ?_
  have:=ih (lo:=lo+1) fun j v hv=>by
   obtain⟨t,e⟩:=h (j+1) v (by simpa using hv)
   exact⟨t,by rw[e];congr 1;push_cast;omega⟩
  have e2:((fun k:Nat=>V.int (lo+(k:Nat))) ∘ Nat.succ)=fun k:Nat=>V.int (lo+1+(k:Nat)):=by
   funext k;show V.int (lo+((k+1:Nat):Int))=_;congr 1;push_cast;omega
  rw[e2];exact this
theorem Np{K:W.Frag}{H:Hp}{i:Int}:∀l:List Nat,DVs K H (l.map fun k=>D.int (i+(k:Nat))) (l.map fun k=>V.int (i+(k:Nat)))
 |[]=>.nil
 |_::r=>.cons (.int _) (Np r)
end
section
variable{X:Cx}{e b:Expr}{te tb:DTE}{p2 pos:Pos}
end
theorem Y7{X:Cx}{x:Str}{a:Addr}{pos:Pos}(hm:X.mg x=some (.ref a))(hg:Gl X x:=by rfl)(hd:(x == ("__debug__" : Str))=false:=by decide):QE X (.Name x pos) (nC (.ref a)):=
 Ha (v:=.ref a) (Qi hg hm rfl hd) fun _=>.ref a
theorem Acj{X:Cx}{ss:List Stmt}:QSs X ss Ut:=fun _ _ _ _ _ _ ⟨_,_,_,_,_,z,_⟩=>z.elim
section
variable{P:Program}{w:World}{K:W.Frag}{mg:Str→Option Value}{base:Heap}
theorem okDc{x qual:Str}{st:Stmt}{f c0:Addr}{fd:FuncData}{N ps:List Str}{k:Nat}{sp:DSp}(F:Fun K x qual st f fd)(hc:fd.code=.ref c0)(S:FnScope N ps (Ad st))(len:∀ds G Q E,sp ds G Q E→ds.length=ps.length)(hbody:∀(A:Around) (outer:List Env) (s:Shared) (H:Hp) (XE:XK) (ds:List D) (G:Gp) (Q:DK) (E:DX),Room k (A.deeper (envOfC qual (Ad st) s.heap.objs.size f (.ref c0)))→sp ds G Q E→
   ∃t,QSs (C6 CX0 P w K mg base N qual (Ad st) f (.ref c0) A outer s H XE).nox (Bv st) t∧t { nx:=fun _ G'=>Fq Q .non G',rt:=Fq Q } (Cd N ds) G):FnOk P w K mg base CX0 (k+1) f fd ps (Ak K sp):=by
 obtain⟨oc,od,kV,doc,pm,an,cdv,ct,osl,rfl,lk,hcd⟩:=F.ex;have hc:cdv=.ref c0:=hc;subst hc;refine T5 lk hcd S (fun vs H Q E ⟨ds,G,Q',E',dv,rg,h,_⟩=>by rw[←dv.length];exact len ds G Q' E' h) fun A outer s H vs Q E hr ⟨ds,G,Q',E',dv,rg,h,cl,_⟩=>?_
 obtain⟨t,ht,hq⟩:=hbody A outer s H E ds G Q' E' hr h;refine⟨_,ht.nox,Cd N ds,G,_,Ea dv,rg,hq,⟨fun σD G1 ⟨G2,sb,q⟩ H1 x1 rg1 σ rs=>cl _ G2 q H1 x1 (rg1.ext' sb) _ .non,fun d G1 ⟨G2,sb,q⟩ H1 x1 rg1 v dv=>cl _ G2 q H1 x1 (rg1.ext' sb) _ dv,fun _ _ z=>z.elim,fun _ _ z=>z.elim⟩⟩
end
theorem Zc{X:Cx}{i0:Nat}{y0:Str}{py spos:Pos}{elt iter tg:Expr}{ifs:List Expr}{scope:Scope}{cl:List (Str×Addr)}{pos:Pos}{wi:TI}{g:TG}{tf:TT}{te:TE}{T M:List Str}(hc:X.calm=true)(ok:CompOz X scope cl T M)(hi:PI X tg iter wi)(hg:∀s H fp,PG (Al X scope cl T M s H fp) tg g)(hf:∀s H fp,PF (Al X scope cl T M s H fp) ifs tf)(he:∀s H fp,PE (Al X scope cl T M s H fp) elt te)(hN:X.N.Nodup)(hi0:X.N[i0]? = some y0)(hy:Loc X.env.scope y0)(hfn:X.fn y0=true∨X.env.scope.names.lookup y0=some .local)(hsw:swapsWith (.ListComp elt [⟨tg,iter,ifs,0⟩] scope pos) (some (.Name y0 py)) spos.line X.env=pure true)(hs:∀x,foldedSetIterable iter X.env x=pure x:=by intro _;rfl):PS X (.Assign [.Name y0 py] (.ListComp elt [⟨tg,iter,ifs,0⟩] scope pos) spos) (X8 (Og T.length wi g tf te) (T4 i0)):=by
 intro pins s σ H D I h;have h:(Og T.length wi g tf te) σ H (fun v H1=>D.nx (σ.set i0 (some v)) H1):=h;rw[exec_Assign_Name_used _ _ _ _ hsw];refine wpAny_bind (wpAny_standAt (wpAny_bind ?_));show wpAny _ X.A (do let _ ←comprehension (.ListComp elt [⟨tg,iter,ifs,0⟩] scope pos) scope X.env _ (newList []) false (eval iter X.env) (some (assign (.Name y0 py) X.env))) _ _ s
 refine wpAny_bind (wpAny_mono (wpAny_comprehension_free (use:=some (assign (.Name y0 py) X.env)) (Q:=fun _ s'=>SP X pins D .next s') (cl:=cl) rfl hs ok.clos ok.kind ok.names (thn (hi pins s σ H _ I h) fun v s1 h1=>thn h1 fun itv s2 h2=>?_)) (fun _ s' hq=>wpAny_pure (wpAny_pure hq)) fun _ _ e=>e);obtain⟨it,fp,tn,J,H2,e,I2,Tn,st2,f2,q⟩:=h2;subst e;have q:=q s2.heap.objs.size (I2.hok.fresh (Nat.le_refl _));refine wpAny_newObj_type ?_
 -- the new list,tracked
 have I3:Inv X pins σ (upd H2 s2.heap.objs.size (.lst [])) { s2 with heap:=s2.heap.push { cls:=.type "list",dict:=none,data:=.seq ([]:List Value).toArray } }:=
  I2.laid (t':=s2.toks) (fun b u e=>Heap.get?_push_of_some _ e) (Nat.le_refl _) ⟨Nat.zero_le _,[],0,.nil,Heap.get?_push_size _ rfl⟩
 generalize hH3:upd H2 s2.heap.objs.size (.lst [])=H3 at I3 q;generalize hs3:({ s2 with heap:=s2.heap.push { cls:=.type "list",dict:=none,data:=.seq ([]:List Value).toArray } }:Shared)=s3 at I3;have fpl:∀b∈fp,b<s2.heap.objs.size:=fun b hb=>let ⟨o,e,_⟩:=Tn.obj 0 _ st2 b hb;Heap.lt_size e;have sz3:s2.heap.objs.size≤s3.heap.objs.size:=by rw[←hs3];show _≤(s2.heap.push _).objs.size;rw[Heap.size_push];exact Nat.le_succ _
 have fok:∀b∈fp,Dl X pins H3 b:=fun b hb=>⟨by rw[←hH3,Ae (Nat.ne_of_lt (fpl b hb))];exact(f2 b hb).1,(f2 b hb).2⟩
 have k23:∀b o,s2.heap.get? b=some o→s3.heap.get? b=some o:=fun b o e=>by rw[←hs3];exact Heap.get?_push_of_some _ e
 have st3:tn 0 s3.heap:=Tn.keep _ _ _ st2 fun b _ o e=>k23 b o e;refine Hs ok.kind (fun h4 hns4 k34 okc=>?_);have oldc:∀x c,cl.lookup x=some c→c<s3.heap.objs.size:=fun x c e=>by
  obtain⟨v,o,ho,_⟩:=I3.cell x c (ok.sub x c e).1;exact Heap.lt_size ho
 have hc1:=Lw (h':=h4) ok okc oldc;have hc2:=Lv (h':=h4) ok okc oldc;have I4:Inv (Al X scope cl T M s3 H3 fp) [] (Oa T σ) H3 { s3 with heap:=h4 }:=
  F1 ok I3 (fun b hb=>⟨fok b hb,Nat.lt_of_lt_of_le (fpl b hb) sz3⟩) hns4 k34 rfl rfl hc1 hc2
 have st4:tn 0 h4:=Tn.keep _ _ _ st3 fun b _ o e=>k34 b o e;obtain⟨W,⟨m0,w0⟩,turn⟩:=q;have cfpc:∀b∈fp,∀x c,(A3 scope cl s3.heap.objs.size).lookup x=some c→c≠b:=fun b hb x c e=>by
  rcases B2 ok s3.heap.objs.size x c e with ⟨_,a2⟩|⟨a1,_⟩
  ·exact Nat.ne_of_gt (Nat.lt_of_lt_of_le (Nat.lt_of_lt_of_le (fpl b hb) sz3) (Nat.le_of_succ_le a2))
  ·exact(fok b hb).2.2.2.2.1 x c (ok.sub x c a1).1
 have cfp:∀{H':Hp},(∀b∈fp,H' b=none)→∀b∈fp,Dl (Al X scope cl T M s3 H3 fp) [] H' b:=fun hn b hb=>by
  refine⟨hn b hb,Nat.ne_of_lt (Nat.lt_of_lt_of_le (fpl b hb) sz3),fun z=>?_,.inl hb,fun x c e=>cfpc b hb x c e,fun p hp=>absurd (show p∈([]:List (Addr×Obj)) from hp) (by simp)⟩
  rcases List.mem_cons.mp (I3.stkSub b z) with e|e
  ·exact(fok b hb).2.1 e
  ·exact(fok b hb).2.2.1 e
 have fin:∀(σ':St) (H':Hp) (s':Shared),Inv (Al X scope cl T M s3 H3 fp) [] σ' H' s'→D.nx (σ.set i0 (some (.ref s2.heap.objs.size))) H'→compPost (model X.prog X.w) X.A X.xe (some (assign (.Name y0 py) X.env)) (fun _ s'=>SP X pins D .next s') (.ref s2.heap.objs.size) s3.heap.objs.size (.ok .next) s':=fun σ' H' s' J q=>by
  obtain⟨m',hm',_⟩:=J.loc;have J0:Inv X pins σ H' s':=I3.call' (ch:=fp) J.os J.base J.hok J.bare fun b hb=>⟨(fok b hb).2.2.2.1,(fok b hb).2.1,(fok b hb).2.2.2.2.1,(fok b hb).2.2.2.2.2⟩;have nC:=I3.fpOk (H':=H') (Nat.le_refl s3.heap.objs.size) J.free;show wpAny _ X.A (assign (.Name y0 py) X.env (.ref s2.heap.objs.size)) _ _ s';refine wpAny_assign_Name (J3 J0 hN hi0 hy (v:=.ref s2.heap.objs.size) rfl (fun s'' J1 ⟨a,sb,ha⟩=>?_) hfn);have na:s3.heap.objs.size≠a:=by
   rcases ha with z|z
   ·rw[z];exact nC.2.1
   ·exact fun e=>nC.2.2.2.2.1 _ _ z e.symm
  obtain⟨oC,es,ep,hoC,rC⟩:=hm';exact⟨m',⟨oC,es,ep,(sb.2 _ na).trans hoC,rC⟩,fun h' hs'=>⟨_,H',J1.turned (t':=s''.toks) (fun b o hb e=>(hs'.2 b hb).trans e) nC.1 nC.2.1 nC.2.2.2.1 nC.2.2.2.2.1 nC.2.2.2.2.2,q⟩⟩
 have loop:∀s5:Shared,s5={ s3 with heap:=h4 }→
   codeAny (model X.prog X.w) X.A (.compLoop (.ListComp elt [⟨tg,iter,ifs,0⟩] scope pos) 0 (.ref it) (.ref s2.heap.objs.size) (compEnvC scope (A3 scope cl s3.heap.objs.size) s3.heap.objs.size X.env))
    (compPost (model X.prog X.w) X.A X.xe (some (assign (.Name y0 py) X.env)) (fun _ s'=>SP X pins D .next s') (.ref s2.heap.objs.size) s3.heap.objs.size) s5:=by
  rintro s5 rfl;refine Gi (fun k s'=>∃i σ' H',Inv (Al X scope cl T M s3 H3 fp) [] σ' H' s'∧tn i s'.heap∧(∀b∈fp,H' b=none)∧W i k σ' H') ?_ m0 ⟨0,Oa T σ,H3,I4,st4,fun b hb=>(fok b hb).1,w0⟩;rintro k s6 ⟨i,σ6,H6,I6,st6,fr6,w6⟩;rcases turn i k σ6 H6 w6 with ⟨stop,qn⟩|⟨go,N,hN,step⟩
  ·refine wpAny_mono (Tn.done (Al X scope cl T M s3 H3 fp) rfl rfl rfl hc i [] s6 _ H6 (fun _ _=>False) I6 (cfp fr6) st6 stop) (fun r s7 ⟨hr,I7⟩=>?_) fun _ _ z=>z.elim;subst hr;exact fin _ H6 s7 I7 qn
  ·refine wpAny_mono (Tn.item (Al X scope cl T M s3 H3 fp) rfl rfl rfl hc i [] s6 _ H6 (fun _ _=>False) I6 (cfp fr6) st6 go) (fun r s7 ⟨u,hr,h7⟩=>?_) fun _ _ z=>z.elim;subst hr;show Mr _ _ _ _ _ _ _ _ _ _ _ _ _;unfold Mr;refine wpAny_mono h7 (fun _ s8 h8=>?_) fun _ _ z=>z.elim;obtain⟨x7,H7,I7,r7,y7,st7,fr7⟩:=h8;have I7':=I7.pinned (cfp fr7) (Tn.obj _ _ st7);have back:∀{σ8:St} {H8:Hp} {s9:Shared},Inv (Al X scope cl T M s3 H3 fp) ([]++C4 fp s8.heap) σ8 H8 s9→tn (i+1) s9.heap∧∀b∈fp,H8 b=none:=fun {σ8 H8 s9} I8=>by
    refine⟨Tn.keep _ _ _ st7 fun b hb o e=>(I8.pin (b,o) (List.mem_append_right _ (List.mem_append_right _ (Bl hb e)))).1,fun b hb=>?_⟩;obtain⟨o,e,d⟩:=Tn.obj _ _ st7 b hb;exact(I8.pin (b,o) (List.mem_append_right _ (List.mem_append_right _ (Bl hb e)))).2.1
   have again:∀{σ9:St} {H9:Hp} {s9:Shared},Inv (Al X scope cl T M s3 H3 fp) ([]++C4 fp s8.heap) σ9 H9 s9→N σ9 H9→
     ∃m,m<k∧∃i σ' H',Inv (Al X scope cl T M s3 H3 fp) [] σ' H' s9∧tn i s9.heap∧(∀b∈fp,H' b=none)∧W i m σ' H':=fun {σ9 H9 s9} I9 n9=>by
    obtain⟨m',hm,w9⟩:=hN σ9 H9 n9;obtain⟨b1,b2⟩:=back I9;exact⟨m',hm,i+1,σ9,H9,I9.unpinned,b1,b2,w9⟩
   refine wpAny_mono (hg s3 H3 fp _ s8 σ6 H7 x7 u _ I7' r7 (step x7 H7 y7)) (fun _ s9 ⟨σ9,H9,I9,q9⟩=>?_) fun _ _ z=>z.elim;refine wpAny_mono (hf s3 H3 fp _ s9 σ9 H9 _ I9 q9) (fun okb s10 ⟨H10,I10,q10⟩=>?_) fun _ _ z=>z.elim;cases okb with
   |false=>
    rw[if_neg Bool.false_ne_true] at q10 ⊢;exact again I10 q10
   |true=>
    rw[if_pos rfl] at q10 ⊢;refine wpAny_mono (he s3 H3 fp _ s10 σ9 H10 _ I10 q10) (fun y s11 ⟨yv,H11,I11,ry,ys,e11,l11,n11⟩=>?_) fun _ _ z=>z.elim;refine wpAny_mono (Fv (X:=Al X scope cl T M s3 H3 fp) _ s11 σ9 H11 (.ref s2.heap.objs.size) [yv] (.ref s2.heap.objs.size) [y] (fun _ H12=>N σ9 H12) I11 rfl (.cons ry .nil) ⟨_,ys,yv,rfl,rfl,e11,l11,n11⟩) (fun _ s12 ⟨_,H12,I12,_,n12⟩=>?_) fun _ _ z=>z.elim;exact again I12 n12
 exact codeAny_compStart_list (loop _ rfl) (Tn.self _ 0 _ _ _ st4 (loop _ rfl))


theorem Ab9{K:W.Frag}{t:DTE}{i:Nat}{E:Ends}{σ:St}{H:Hp}(h:Dn K (Rc t (Ga i)) E σ H):Ba K t σ H fun v H1=>E.nx (σ.set i (some v)) H1:=by
 obtain⟨σD,G,D,rs,rg,h,cl⟩:=h;exact⟨σD,G,fun x G1=>D.nx (σD.set i (some x)) G1,rs,rg,h,fun d G' q H' x' rg' v dv=>cl.nx _ _ q _ x' rg' _ ((rs.ext x').set dv i)⟩
section
variable{X:Cx}{elt iter tg kx vx:Expr}{ifs:List Expr}{scope:Scope}{pos:Pos}{ti te tk tv:DTE}{tf:DTT}{g:DTG}{T M:List Str}
theorem M5{i0:Nat}{y0:Str}{py spos:Pos}(hc:X.calm=true)(ok:CompOz X scope (Bi X.env.cells scope.names []) T M)(hi:QE X iter ti)(hg:QGz X scope T M tg g)(hf:QFz X scope T M ifs tf)(he:QEz X scope T M elt te)(hN:X.N.Nodup)(hsw:swapsWith (.ListComp elt [⟨tg,iter,ifs,0⟩] scope pos) (some (.Name y0 py)) spos.line X.env=pure true)(hi0:X.N[i0]? = some y0:=by rfl)(hy:Loc X.env.scope y0:=by first|exact .inl rfl|exact .inr rfl)(hfn:X.fn y0=true∨X.env.scope.names.lookup y0=some .local:=by first|exact .inl rfl|exact .inr rfl)(hs:∀x,foldedSetIterable iter X.env x=pure x:=by intro _;rfl):QS X (.Assign [.Name y0 py] (.ListComp elt [⟨tg,iter,ifs,0⟩] scope pos) spos) (Rc (Ov T.length ti g tf te) (Ga i0)):=
 (Zc (g:=Cn X.K g) (tf:=Cw X.K tf) (te:=Ba X.K te) hc ok (K4 hi) hg hf he hN hi0 hy hfn hsw hs).imp fun E0 σ H h0=>by
 obtain⟨σD,G,Q',rs,rg,h,cl⟩:=Ab9 h0;refine⟨σD,G,_,rs,rg,h,fun d G1 zz H1 x1 rg1 v dv=>?_⟩;obtain⟨ds,ei,L⟩:=zz;obtain⟨a,rfl⟩:=E9 ei dv;refine⟨a,rfl,?_⟩;have lp:=fun p hp=>Bn (J:=jOf X.K d a) (rs.ext x1) rg1 hp (fun d' G' q=>(cl d' G' q).go x1) (fun H' G' x' rg' s'=>De (Dr rg' s' (dv.ext x'))) (L p (rg1.free hp));cases dv with
 |tup e r=>exact .inr ⟨⟨_,.inl (.inl e)⟩,lp⟩
 |lint e=>exact .inl ⟨⟨_,e.sq⟩,lp⟩
 |ref=>
  simp only[Ar] at ei
  split at ei
  ·rename_i ds' q;obtain⟨xs,e,r⟩:=rg1 a _ q;exact .inl ⟨⟨_,.inl (.inl e)⟩,lp⟩
  ·cases ei

end
section
variable{X:Cx}{e:Expr}{te:DTE}{pos:Pos}
end
section
variable{X:Cx}{e:Expr}{ta:DTE}
def nExt(to:DTE)(ta:DTE):DTE:=fun σ G Q=>to σ G fun x G1=>∃p,x=.ref p∧(∃ds,G1 p=some (.lst ds))∧ta σ G1 fun y G2=>∃b,y=.ref b∧∃ds es,G2 p=some (.lst ds)∧G2 b=some (.lst es)∧ds.length+es.length≤sizeLine∧Q .non (Ab G2 p (.lst (ds++es)))
theorem q_ext{o:Expr}{to:DTE}{apos cpos:Pos}(ho:QE X o to)(ha:QE X e ta)(hbase:attributeBase o "extend" X.env (eval o X.env)=eval o X.env:=by rfl)(hfew:((backTo cpos (starEach [e] X.env)).all (fun x=>!x.1)&&(backToKw cpos (keywordEach [] X.env)).all (fun x=>x.1.isSome)
   && decide (([e]:List Expr).length+([]:List Keyword).length+(if ([]:List Keyword).isEmpty then 0 else 1)<30))=true:=by rfl)(hline:(apos.endLine == cpos.line)=true:=by rfl)(hs:starEach [e] X.env=(false,eval e X.env)::starEach [] X.env:=by rfl)(hplain:(backTo cpos (starEach [] X.env)).any (·.1)=false:=by rfl) :
  QE X (.Call (.Attribute o "extend" apos) [e] [] cpos) (nExt to ta):=
 (P0 PySem.F.plainAttrs_list PySem.F.slot_list_extend PySem.F.type_list_extend R7 ho (Ev ha qa_nil hs) hbase hfew hline hs hplain).imp fun σ H Q zz=>by
 obtain⟨σD,G,Q',rs,rg,h,cl⟩:=zz;refine⟨σD,G,_,rs,rg,h,fun d G1 zz H1 x1 rg1 v dv=>?_⟩;obtain⟨p,ep,⟨ds,eg⟩,h1⟩:=zz;subst ep;cases dv;obtain⟨xs,ex,r⟩:=rg1 p _ eg;refine⟨.inl ⟨rfl,xs,.inl (.inl ex)⟩,σD,G1,fun ds' G2=>∃y,ds'=[y]∧∃b,y=.ref b∧∃ds es,G2 p=some (.lst ds)∧G2 b=some (.lst es)∧ds.length+es.length≤sizeLine∧Q' .non (Ab G2 p (.lst (ds++es))),rs.ext x1,rg1,?_,?_⟩
 ·show ta σD G1 fun x G1=>Ji σD G1 fun xs G2=>_;exact cast (by congr 1;funext y G2;simp[Ji]) h1
 ·rintro ds' G2 ⟨y,rfl,b,rfl,ds2,es2,eg2,eb2,hl,q⟩ H2 x2 rg2 vs dvs;obtain⟨v,rfl,dv⟩:=dvs.one;cases dv;obtain⟨xs2,ex2,r2⟩:=rg2 p _ eg2;obtain⟨xs3,ex3,r3⟩:=rg2 b _ eb2;exact⟨p,b,xs2,xs3,rfl,rfl,ex2,ex3,by rw[←r2.length,←r3.length];exact hl,cl _ _ q _ ((x1.trans x2).trans (C3 ex2)) (rg2.lstw ex2 (r2.append r3)) _ .non⟩
end
section
variable{X:Cx}{a b:Expr}{ta:TA}{tA:DTA}{p p0 pos pos0:Pos}
theorem Pl(hc:X.calm=true):CallR X (.type "list") (fun xs H Q=>∃(r:Addr) (i j:Int),xs=[.ref r]∧H r=some (.rng i j)∧(-(2 ^ 62)≤i∧i<2 ^ 62∧-(2 ^ 62)≤j∧j<2 ^ 62)∧(j-i).toNat≤2 ^ 24∧∀l,H l=none→Q (.ref l) (upd H l (.lst ((List.range (j-i).toNat).map fun k=>V.int (i+(k:Nat)))))):=by
 intro pins s σ H xs us Q I rr h;obtain⟨r,i,j,rfl,er,⟨q1,q2,q3,q4⟩,hl,q⟩:=h;obtain⟨u,rfl,rx⟩:=By rr;cases rx;obtain⟨t,u,v,ho⟩:=(show ObjOk X.prog X.w H s.heap r (.rng i j) from I.hok r _ er);have hn:Builtin.Range.rangeSize i j 1=((j-i).toNat:Nat):=by rw[rangeSize_one];split<;>omega
 refine call_list_range (I.ok.hd hc) ho (small_one q1 q2 q3 q4) hn hl fun h' tk acc c' keep hS hI=>?_;have I2:=I.laid (t':=tk) (h':=h') (o:=.lst ((List.range (j-i).toNat).map fun k=>V.int (i+(k:Nat)))) keep (Nat.le_refl _)
  (show ObjOk X.prog X.w _ _ _ (.lst _) from⟨by rw[List.length_map,List.length_range,sizeLine_eq];exact hl,acc.toList,c',Vu (by simpa using hI.1) (fun k v hv=>hI.2 k v (by simpa using hv)),by simpa using hS⟩)
 exact⟨.ref s.heap.objs.size,_,I2,rfl,q _ (I.hok.fresh (Nat.le_refl _))⟩
end
section
variable{P:Program}{w:World}{A:Around}{R:Result→Shared→Prop}{it S:Addr}{fp wr:List Addr}{n:Nat}{V:Nat→Value→Prop}{st:Nat→Heap→Prop}{bt:Nat→Nat→Bool}{kw:List (Str×Value)}
end
section
variable{P:Program}{w:World}{A:Around}{E:Value→Shared→Prop}{s:Shared}
def EndIs(M:Model)(A:Around)(Q:Value→Shared→Prop)(E:Value→Shared→Prop)(f:Fin)(s':Shared):Prop:=match f with
 |.done (.ret v)=>Q v s'
 |.done _=>False
 |.again c=>c.quiet=true∧codeAny M A c (fun r s2=>match r with|.ok (.ret v)=>Q v s2|.ok _=>False|.error e=>E e s2) s'
theorem Su{id:String}{b:Builtin}{args:List Value}{kw:List (Str×Value)}{Q:Value→Shared→Prop}(hk:builtinKind id=none)(hp:plainId id=true)(hb:entryFor table id=some b)(ha:argsOk id ⟨args,kw⟩)(hc:wpAny (model P w) A.in1 (b ⟨args,kw⟩) (EndIs (model P w) A Q E) E s):wpAny (model P w) A (call (.builtin id) args kw) Q E s:=by
 refine wpAny_call (codeAny_call_builtin hp hb ?_);have go:=wpAny_mono hc (Q':=fun fin s'=>match fin with
   |.done f=>(match (Except.ok f:Result) with|.ok (.ret v)=>Q v s'|.ok _=>False|.error e=>E e s')|.again c'=>c'.quiet=true∧codeAny (model P w) A c' (fun r s'=>match r with|.ok (.ret v)=>Q v s'|.ok _=>False|.error e=>E e s') s')
  (fun fin s' z=>by
   cases fin with
   |done f=>cases f with
    |ret v=>exact z
    |_=>exact z.elim
   |again c=>exact z) fun _ _ z=>z
 simp only[checkBuiltinCall,hk];cases q:Manifest.signature? id with
 |none=>exact wpAny_pure go
 |some sig=>
  have e:Bind.checkArgs id sig ⟨args,kw⟩=pure ():=by simpa only[argsOk,q] using ha
  simp only[e];exact wpAny_pure go
end
section
variable{X:Cx}{e:Expr}{p pos:Pos}
end
section
variable{X:Cx}{elt iter tg:Expr}{ifs:List Expr}{scope:Scope}{pos:Pos}{ti te:DTE}{tf:DTT}{g:DTG}{T M:List Str}
def Nb(n:Nat)(tA:DTA)(g:DTG)(tf:DTT)(te:DTE):DTE:=fun σ G Q=>tA σ G fun ds G1=>∃i j,ds=[.int i,.int j]∧(-(2 ^ 62)≤i∧i<2 ^ 62∧-(2 ^ 62)≤j∧j<2 ^ 62)∧∀p,G1 p=none→Ef n p (Ce i j) (fun _=>True) g tf te σ (Ab G1 p (.lst [])) Q
theorem Rs{a b:Expr}{tA:DTA}{p p2:Pos}(hc:X.calm=true)(ok:CompOz X scope (Bi X.env.cells scope.names []) T M)(hm:X.mg "range" = none)(ha:QA X [a,b] tA)(hg:QGz X scope T M tg g)(hf:QFz X scope T M ifs tf)(he:QEz X scope T M elt te)(hgl:Gl X "range":=by rfl)(hst:starEach [a,b] X.env=[(false,eval a X.env),(false,eval b X.env)]:=by rfl)(hst2:starEach [b] X.env=[(false,eval b X.env)]:=by rfl)(hs:∀x,foldedSetIterable (.Call (.Name "range" p) [a,b] [] p2) X.env x=pure x:=by intro _;rfl):QE X (.ListComp elt [⟨tg,.Call (.Name "range" p) [a,b] [] p2,ifs,0⟩] scope pos) (Nb T.length tA g tf te):=
 (C8 (g:=Cn X.K g) (tf:=Cw X.K tf) (te:=Ba X.K te) hc ok (Ru hgl hm ha hst hst2) hg hf he hs).imp fun σ H Q zz=>by
 obtain⟨σD,G,Q',rs,rg,h,cl⟩:=zz;refine⟨σD,G,_,rs,rg,h,fun ds G1 zz H1 x1 rg1 vs dv=>?_⟩;obtain⟨i,j,ej,hij,L⟩:=zz;subst ej;obtain⟨v,w,rfl,r,r'⟩:=dv.two;cases r;cases r';refine⟨i,j,rfl,hij,fun p hp=>Bn (J:=Itr i (j-i).toNat) (rs.ext x1) rg1 hp (fun d' G' q=>(cl d' G' q).go x1) (fun H' G' x' rg' _=>De (G:=G') ?_) (L p (rg1.free hp))⟩;refine⟨fun k hk=>by rw[Eo] at hk;exact hk,fun k x H2 hk y=>?_,by show(j-i).toNat≤_;rw[Eo];exact Nat.le_refl _⟩
 rw[Eo] at hk;obtain⟨e1,e2⟩:=y;refine⟨e1,_,Ph hk,?_⟩;rw[e2];exact .int _
end
section
variable{X:Cx}{elt iter tg kx vx:Expr}{ifs:List Expr}{scope:Scope}{pos:Pos}{ti te tk tv:DTE}{tf:DTT}{g:DTG}{T M:List Str}
end
section
variable{X:Cx}
end
section
end
section
variable{X:Cx}
end
end D3
namespace D3
open PySem PySem.Spec PyProof.Rows L2
section
variable{X:Cx}{pos:Pos}
theorem q_v1{i:Nat}{x:Str}(h:X.N[i]? = some x∧X.env.scope.names.lookup x=some .local∧(x == ("__debug__" : Str))=false∧(x == ("__classdict__" : Str))=false):QE X (.Name x pos) (Rb i):=Tt h.1 (.inl h.2.1) h.2.2.1 h.2.2.2
theorem q_v2{i:Nat}{x:Str}(h:X.N[i]? = some x∧X.env.scope.names.lookup x=some .cell∧(x == ("__debug__" : Str))=false∧(x == ("__classdict__" : Str))=false):QE X (.Name x pos) (Rb i):=Tt h.1 (.inr (.inl h.2.1)) h.2.2.1 h.2.2.2
theorem q_v3{i:Nat}{x:Str}(h:X.N[i]? = some x∧X.env.scope.names.lookup x=some .free∧(x == ("__debug__" : Str))=false∧(x == ("__classdict__" : Str))=false):QE X (.Name x pos) (Rb i):=Tt h.1 (.inr (.inr h.2.1)) h.2.2.1 h.2.2.2
end
end D3
namespace D3
open PySem PySem.Spec
open PyProof.Rows hiding St
open L2 hiding St
theorem Ur{P:Program}{w:World}{H:Hp}{h:Heap}{a:Addr}{o:HO}(x:ObjOk P w H h a o):∃ob,h.get? a=some ob:=by
 cases o with
 |lst xs=>obtain⟨_,_,_,_,e⟩:=x;exact⟨_,e⟩
 |tup xs=>obtain⟨_,_,_,ob,e,_⟩:=x;exact⟨_,e⟩
 |dK kvs=>obtain⟨_,_,_,_,ob,_,_,e,_⟩:=x;exact⟨_,e⟩
 |dT kvs=>obtain⟨_,_,_,_,ob,_,_,e,_⟩:=x;exact⟨_,e⟩
 |set S n=>obtain⟨ob,_,_,_,e,_⟩:=x;exact⟨_,e⟩
 |ins C dx fs=>obtain⟨_,_,_,e,_⟩:=x;exact⟨_,e⟩
 |own y=>exact x
 |xd fs=>obtain⟨_,⟨_,_,_,e,_⟩,_⟩:=x;exact⟨_,e⟩
 |rng lo hi=>obtain⟨_,_,_,e⟩:=x;exact⟨_,e⟩
 |frz ob u=>exact⟨_,x.1⟩
 |tbl ps=>exact⟨_,x⟩
 |met f y=>exact⟨_,x⟩
 |ext φ=>exact x.2.1
def CX1(P:Program)(w:World):CXT:=fun outer H s E e s'=>∃(a C t:Addr) (H':Hp) (B:Heap),e=.ref a∧s'.os=s.os∧AllBare s'.gens∧Un (frs outer) [] H H' s.heap s'.heap∧HOk P w H' s'.heap∧
 Heap.FlyingW B outer a (.ref C) (.ref t) s'.heap∧(∀b o,s.heap.get? b=some o→b ∉ frs outer→(H b=none→B.get? b=some o)∧∃o',B.get? b=some o')∧
 (∀b u,H' b=some u→∀o,s'.heap.get? b=some o→B.get? b=some o)∧H' a=none∧E (.ref C) none H'
section
variable{X:Cx}{pins:List (Addr×Obj)}{σ:List (Option V)}{H:Hp}{s s':Shared}{E XE:XK}{e:Value}{E':Value→Shared→Prop}
theorem Fa{env:Env}{l:List Env}{L b:Addr}(hf:env.frame=some L):b∈frs (env::l)↔b=L∨b∈frs l:=by
 unfold frs;rw[List.filterMap_cons,hf];exact List.mem_cons
theorem K8{fs ex:List Addr}{H H':Hp}{h h':Heap}(u:Un fs ex H H' h h'):Ext H H':=⟨u.tups,u.frzs⟩
theorem Qr{B h':Heap}{H':Hp}{G':Heap}(I:Inv X pins σ H s)(hst:X.stack=X.env::X.outer)(hfr:X.env.frame=some X.env.locals)(hex:X.ex=[])(un:Un (frs X.stack) [] H H' s.heap G')(hB:∀b o,s.heap.get? b=some o→b ∉ frs X.stack→(H b=none→B.get? b=some o)∧∃o',B.get? b=some o')(st:B.StaysIn h')(up:G'.UpToSlots h') :
  Un (frs X.outer) [] X.H₀ H' X.s₀.heap h'∧∀b o,X.s₀.heap.get? b=some o→b ∉ frs X.outer→(X.H₀ b=none→B.get? b=some o)∧∃o',B.get? b=some o':=by
 have u1:Un (frs X.outer) [] X.H₀ H X.s₀.heap s.heap:=by have:=I.base;rw[hex] at this;exact this
 rw[hst] at un hB;have no:∀b:Addr,b ∉ ([]:List Addr):=fun b=>by simp
 have nf:∀b o,X.s₀.heap.get? b=some o→b ∉ frs X.outer→b ∉ frs (X.env::X.outer):=fun b o e n m=>by
  rcases(Fa hfr).mp m with z|z
  ·exact absurd (Nat.lt_of_lt_of_le (Heap.lt_size e) I.ok.above) (by rw[z];exact Nat.lt_irrefl _)
  ·exact n z
 have key:∀b o,X.s₀.heap.get? b=some o→b ∉ frs X.outer→(X.H₀ b=none→B.get? b=some o)∧∃o',B.get? b=some o':=fun b o e n=>by
  refine⟨fun hn=>(hB b o (u1.keep b o e hn n (no b)) (nf b o e n)).1 (u1.free b o e hn (no b)),?_⟩;obtain⟨o1,e1⟩:=u1.there b o e (no b);exact(hB b o1 e1 (nf b o e n)).2
 have slt:∀b o,X.s₀.heap.get? b=some o→X.H₀ b=none→b∈frs X.outer→∃sl,h'.get? b=some { o with slots:=sl }:=fun b o e hn m=>by
  obtain⟨sl1,e1⟩:=u1.slot b o e hn m (no b);obtain⟨sl2,e2⟩:=un.slot b _ e1 (u1.free b o e hn (no b)) ((Fa hfr).mpr (.inr m)) (no b);obtain⟨_,o',e',nf'⟩:=I.ok.funs.mem m;rw[e] at e';cases e';obtain⟨sl3,e3⟩:=up b _ e2 nf';exact⟨sl3,e3⟩
 refine⟨⟨fun b o e hn n _=>st b o ((key b o e n).1 hn),fun b o e hn m _=>slt b o e hn m,fun b o e hn _=>?_,fun b o e _=>?_,fun b xs e=>un.tups b xs (u1.tups b xs e),fun b o u e=>un.frzs b o u (u1.frzs b o u e),fun b ps e=>?_⟩,key⟩
 ·have h1:=u1.free b o e hn (no b)
  by_cases m:b∈frs X.outer
  ·obtain⟨sl1,e1⟩:=u1.slot b o e hn m (no b);exact un.free b _ e1 h1 (no b)
  ·exact un.free b o (u1.keep b o e hn m (no b)) h1 (no b)
 ·by_cases m:b∈frs X.outer
  ·obtain⟨sl,q⟩:=slt b o e (I.ok.frf b m) m;exact⟨_,q⟩
  ·obtain⟨o',q⟩:=(key b o e m).2;exact⟨o',st b o' q⟩
 ·obtain⟨m1,q1⟩:=u1.tbls b ps e;obtain⟨m2,q2⟩:=un.tbls b _ q1;exact⟨m1++m2,by rw[q2,Array.append_assoc]⟩
theorem Hu{P:Program}{w:World}{B h h':Heap}{H':Hp}(hok:HOk P w H' h)(hT:∀b u,H' b=some u→∀o,h.get? b=some o→B.get? b=some o)(st:B.StaysIn h'):HOk P w H' h'∧∀b u,H' b=some u→∀o,h'.get? b=some o→B.get? b=some o:=by
 refine⟨fun b u q=>(hok b u q).stay (fun c v hc r=>?_) (fun c r=>r) (fun c xs r=>r),fun b u q o r=>?_⟩
 ·rcases hc with rfl|hc
  ·exact st _ _ (hT _ _ q _ r)
  ·exact st _ _ (hT _ _ hc _ r)
 ·obtain⟨ob,z⟩:=Ur (hok b u q);have y:=hT b u q ob z
  have:=st _ _ y
  rw[r] at this;cases this;exact y
theorem Xa(hst:X.stack=X.env::X.outer)(hfr:X.env.frame=some X.env.locals)(hex:X.ex=[])(I:Inv X pins σ H s)(h:CX1 X.prog X.w X.stack H s E e s')(hE:∀C H',Ext X.H₀ H'→E (.ref C) none H'→XE (.ref C) none H') :
  wpAny (model X.prog X.w) X.A (leaving X.env e) (fun _ s''=>CX1 X.prog X.w X.outer X.H₀ X.s₀ XE e s'') E' s':=by
 obtain⟨a,C,t,H',B,rfl,os,bare,un,hok,fl,hB,hT,hn,q⟩:=h;rw[hst] at fl;refine wpAny_leaves_onW (by rw[I.ok.frames,hst]) hfr fl fun h' fl' up=>?_
 obtain⟨u2,k2⟩:=Qr I hst hfr hex un hB fl'.1 up;obtain⟨ok2,t2⟩:=Hu hok hT fl'.1;exact⟨a,C,t,H',B,rfl,os.trans I.os,bare,u2,ok2,fl',k2,t2,hn,hE C H' (K8 u2) q⟩
theorem Sc{C x:Addr}{h1:Heap}{vs:List Value}(hst:X.stack=X.env::X.outer)(hfr:X.env.frame=some X.env.locals)(hex:X.ex=[])(I:Inv X pins σ H s)(mk:Heap.MadeExcOf s.heap h1 x (.ref C) vs)(q:XE (.ref C) none H) :
  wpAny (model X.prog X.w) X.A (leaving X.env (.ref x)) (fun _ s''=>CX1 X.prog X.w X.outer X.H₀ X.s₀ XE (.ref x) s'') E' { s with heap:=h1 }:=by
 have hin:∀env∈X.env::X.outer,∀b,env.frame=some b→b∈frs X.stack:=fun env he b hb=>by rw[hst];exact List.mem_filterMap.mpr ⟨env,he,hb⟩
 have fun_:=I.stack;rw[hst] at fun_;refine wpAny_leaves_madeW (base:=W.hideAll s.heap (frs X.stack)) (h:=s.heap) (by rw[I.ok.frames,hst]) hfr (fun b o z=>W.of_hideAll _ z) (W.funFrames_hide fun_ hin) mk fun h' t fl _ _ up=>?_
 have hB:∀b o,s.heap.get? b=some o→b ∉ frs X.stack→(H b=none→(W.hideAll s.heap (frs X.stack)).get? b=some o)∧∃o',(W.hideAll s.heap (frs X.stack)).get? b=some o':=fun b o z n=>⟨fun _=>W.hideAll_get _ z n,o,W.hideAll_get _ z n⟩;have un:Un (frs X.stack) [] H H s.heap h1:=Un.kept mk.keeps;obtain⟨u2,k2⟩:=Qr I hst hfr hex un hB fl.1 up;obtain⟨ok2,t2⟩:=Hu I.hok (fun b u z o y=>W.hideAll_get _ y fun m=>by rw[I.stkFree b m] at z;cases z) fl.1
 have hn:H x=none:=by
  cases z:H x with
  |none=>rfl
  |some u=>
   obtain⟨ob,y⟩:=Ur (I.hok x u z);rw[mk.new] at y;cases y
 exact⟨x,C,t,H,_,rfl,I.os,I.bare,u2,ok2,fl,k2,t2,hn,q⟩
end
def Fx(E:DX):DX:=fun c G=>∃G',Sub G' G∧E c G'
theorem Fx.of{E:DX}{c:Value}{G:Gp}(h:E c G):Fx E c G:=⟨G,Sub.refl G,h⟩
def Wish(K:W.Frag)(H:Hp)(XE:XK)(E:DX):Prop:=∀c G',E c G'→Fwd K H G' fun H'=>∀ad,XE c ad H'
section
variable{P:Program}{w:World}{K:W.Frag}{mg:Str→Option Value}{base:Heap}{N:List Str}{qual:Str}{scope:Scope}{f:Addr}{cd:Value}{A:Around}{outer:List Env}{s:Shared}{H:Hp}{XE:XK}{E:DX}
theorem passF{X:Cx}:Cq (CX1 X.prog X.w) X (Gb X.K noX):=by rintro _ _ _ _ _ _ _ ⟨_,_,_,_,_,_,_,_,_,_,_,_,_,_,_,_,z⟩;exact z.elim
end
abbrev vErr:List Value:=[.type "ValueError",.type "Exception",.type "BaseException",.type "object"]
structure ExcK(K:W.Frag)(x:Str)(C:Addr):Prop where
 nm:W.nsIn K mainGlobals x=some (some (.ref C))
 ok:W.excIn K C vErr "ValueError.__new__" = true
theorem ExcK.own{K:W.Frag}{g:Heap}{mg:Str→Option Value}{x:Str}{C:Addr}(X:K.In g)(G:g.Ns mainGlobals mg)(z:ExcK K x C):OwnCls x C vErr "ValueError.__new__" mg g:=by
 refine⟨W.mg_of X G z.nm,?_⟩;have r:=z.ok;unfold W.excIn at r
 split at r
 case h_2=>cases r
 case h_1 dct cls sl0 at_=>
  split at r
  case h_2=>cases r
  case h_1 C' tl a0 a1 a2 a3 nid a5 e1 e2=>
   simp only[Bool.and_eq_true,beq_iff_eq,Bool.not_eq_true'] at r;obtain⟨⟨⟨⟨⟨r1,r2⟩,r3⟩,r4⟩,r5⟩,r6⟩:=r;subst r1 r2;obtain⟨b1,b2,b3,b4,b5,b6,b7,b8,b9,b10,b11⟩:=cls;dsimp only at e1 r3 r5 r6;subst e1 r3;have e3:sl0=#[a0,a1,a2,a3,some (.builtin "ValueError.__new__"),a5]:=by
    cases sl0 with
    |mk l=>exact congrArg Array.mk e2
   subst e3;exact⟨tl,b4,b1,b5,b2,b6,b7,b8,b9,b10,dct,a0,a1,a2,a3,a5,_,X _ _ at_,.of_isNs (W.isNs_of_in X r5),W.nsMap_none_of_in X r5 r6,W.tail_of_in X r4⟩
section
variable{X:Cx}{x:Str}{C:Addr}{np cpos pos:Pos}{e:Expr}
theorem V9{tA:TA}{R:Hp→Prop}(hc:X.calm=true)(O:ExcK X.K x C)(ha:PA X [e] tA)(hx:∀pins σ H s h1 a vs,Inv X pins σ H s→R H→Heap.MadeExcOf s.heap h1 a (.ref C) vs→X.xe (.ref a) { s with heap:=h1 })(hg:Gl X x:=by rfl)(hd:(x == ("__debug__" : Str))=false:=by decide)(he:starEach [e] X.env=(false,eval e X.env)::starEach [] X.env:=by rfl)(hpl:(backTo cpos (starEach [] X.env)).any (·.1)=false:=by rfl) :
  PS X (.Raise (some (.Call (.Name x np) [e] [] cpos)) none pos) (fun D σ H=>tA σ H fun vs H1=>vs.length≤sizeLine∧R H1):=by
 intro pins s σ H D I h;have own:=O.own I.mod.kin I.mod.glob;obtain⟨tl,N,nm,q,bs,hdct,sn,sub,ab,col,dd,k0,k1,k2,k3,k5,mN,hC,hN,hni,T⟩:=own.obj;refine wpAny_Raise_call_subU (C:=C) (nm:=nm) (q:=q) (N:=N) (bs:=bs) (bm:=tl) (hdct:=hdct) (sn:=sn) (sub:=sub) (ab:=ab) (col:=col) (dd:=dd) (k0:=k0) (k1:=k1) (k2:=k2) (k3:=k3) (k5:=k5)
  PySem.F.excBase_ValueError (by decide) PySem.F.excBase_ValueError (mN:=mN) (T.hasType PySem.F.excBase_ValueError.hasBase) (I.ok.hd hc) (by rw[he];show(false||(backTo cpos (starEach [] X.env)).any (·.1))=false;rw[hpl];rfl) hni (D5 I hg own.bound ⟨rfl,?_⟩ hd)
 have z:=ha cpos pins s σ H _ I h;rw[he] at z ⊢;exact Calls.evalArgs_plain (wpAny_mono z (fun us s2 ⟨vs,H1,I1,r,hl,q⟩=>⟨rfl,by show us.length≤_;rw[←r.length];exact hl,I1.bk _ _ hC,hN.keeps I1.bk,T.keeps I1.bk,fun h' a mk=>hx pins σ H1 s2 h' a us I1 q mk⟩) fun _ _ y=>y)
end
section
variable{P:Program}{w:World}{K:W.Frag}{mg:Str→Option Value}{base:Heap}{N:List Str}{qual:Str}{scope:Scope}{f:Addr}{cd:Value}{A:Around}{outer:List Env}{s:Shared}{H:Hp}{XE:XK}{E:DX}{x:Str}{C:Addr}{np cpos pos:Pos}{e:Expr}{tA:DTA}
def Us(E:DX)(C:Addr)(tA:DTA):DTS:=fun D σ G=>tA σ G fun ds G1=>ds.length≤sizeLine∧Fx E (.ref C) G1
theorem Vz(hE:Wish K H XE E)(O:ExcK K x C)(ha:QA (C6 (CX1 P w) P w K mg base N qual scope f cd A outer s H XE) [e] tA)(hg:Gl (C6 (CX1 P w) P w K mg base N qual scope f cd A outer s H XE) x:=by rfl)(hd:(x == ("__debug__" : Str))=false:=by decide)(he:starEach [e] (envOfC qual scope s.heap.objs.size f cd)=(false,eval e (envOfC qual scope s.heap.objs.size f cd))::starEach [] (envOfC qual scope s.heap.objs.size f cd):=by rfl)(hpl:(backTo cpos (starEach [] (envOfC qual scope s.heap.objs.size f cd))).any (·.1)=false:=by rfl) :
  QS (C6 (CX1 P w) P w K mg base N qual scope f cd A outer s H XE) (.Raise (some (.Call (.Name x np) [e] [] cpos)) none pos) (Us E C tA):=
 (V9 (X:=C6 (CX1 P w) P w K mg base N qual scope f cd A outer s H XE) (R:=fun H1=>Ext H H1→XE (.ref C) none H1) rfl O ha (fun pins σ H1 s1 h1 a vs I q mk=>Sc (X:=C6 (CX1 P w) P w K mg base N qual scope f cd A outer s H XE) rfl rfl rfl I mk (q (K8 I.base))) hg hd he hpl).imp
  fun D σ H1 ⟨σD,G,D',rs,rg,h,cl⟩=>⟨σD,G,_,rs,rg,h,fun ds G1 ⟨hl,G2,sb,q⟩ H2 x2 rg2 vs dv=>⟨by rw[←dv.length];exact hl,fun x0=>hE _ G2 q H2 x0 (rg2.ext' sb) none⟩⟩
end
section
variable{P:Program}{w:World}{K:W.Frag}{mg:Str→Option Value}{base:Heap}
theorem okX{x qual:Str}{st:Stmt}{f:Addr}{fd:FuncData}{N ps:List Str}{k:Nat}{sp:DSp}(F:Fun K x qual st f fd)(S:FnScope N ps (Ad st))(len:∀ds G Q E,sp ds G Q E→ds.length=ps.length)(hbody:∀(cdv:Value) (A:Around) (outer:List Env) (s:Shared) (H:Hp) (XE:XK) (ds:List D) (G:Gp) (Q:DK) (E:DX),Room k (A.deeper (envOfC qual (Ad st) s.heap.objs.size f cdv))→sp ds G Q E→Wish K H XE E→
   ∃t,QSs (C6 (CX1 P w) P w K mg base N qual (Ad st) f cdv A outer s H XE) (Bv st) t∧t { nx:=fun _ G'=>Fq Q .non G',rt:=Fq Q } (Cd N ds) G):FnOk P w K mg base (CX1 P w) (k+1) f fd ps (Ak K sp):=by
 obtain⟨oc,od,kV,doc,pm,an,cdv,ct,osl,rfl,lk,hcd⟩:=F.ex;refine T5 lk hcd S (fun vs H Q E ⟨ds,G,Q',E',dv,rg,h,_⟩=>by rw[←dv.length];exact len ds G Q' E' h) fun A outer s H vs Q XE hr ⟨ds,G,Q',E',dv,rg,h,cl,hE⟩=>?_
 obtain⟨t,ht,hq⟩:=hbody cdv A outer s H XE ds G Q' E' hr h hE;exact⟨_,ht,Cd N ds,G,_,Ea dv,rg,hq,⟨fun σD G1 ⟨G2,sb,q⟩ H1 x1 rg1 σ rs=>cl _ G2 q H1 x1 (rg1.ext' sb) _ .non,fun d G1 ⟨G2,sb,q⟩ H1 x1 rg1 v dv=>cl _ G2 q H1 x1 (rg1.ext' sb) _ dv,fun _ _ z=>z.elim,fun _ _ z=>z.elim⟩⟩
end
def Ge(CX:CXT)(P:Program)(w:World)(K:W.Frag)(mg:Str→Option Value)(base:Heap)(N:List Str)(q:Str)(scope:Scope)(f:Addr)(cd:Value)(clos:List (Str×Addr))(A:Around)(outer:List Env)(s:Shared)(H:Hp)(E:XK):Cx where
 prog:=P
 w:=w
 K:=K
 mg:=mg
 base:=base
 A:=A.deeper (W.envX q scope s.heap.objs.size f cd clos)
 N:=N
 s₀:=s
 H₀:=H
 env:=W.envX q scope s.heap.objs.size f cd clos
 outer:=outer
 stack:=W.envX q scope s.heap.objs.size f cd clos::outer
 ex:=[]
 calm:=true
 fn:=fun _=>false
 pn:=[]
 xe:=fun e s'=>wpAny (model P w) (A.deeper (W.envX q scope s.heap.objs.size f cd clos)) (leaving (W.envX q scope s.heap.objs.size f cd clos) e) (fun _ s''=>CX outer H s E e s'') (fun e' s''=>CX outer H s E e' s'') s'
structure LamScope(scope:Scope):Prop where
 kind:scope.kind=.function
 co:scope.isCoroutine=false
 gen:scope.isGenerator=false
 cell:∀y∈scope.names,y.2≠.cell
section
variable{P:Program}{w:World}{K:W.Frag}{mg:Str→Option Value}{base:Heap}{N:List Str}{q:Str}{scope:Scope}{f c:Addr}{clos:List (Str×Addr)}{A:Around}{outer:List Env}{s:Shared}{H:Hp}{E:XK}{k:Nat}{σ:L2.St}{Q:VK}{t:TE}{params:Arguments}{body:Expr}{pm ctv:Value}
theorem Aag(hr:Room k A)(e0:Env0 P w K mg base A outer s H)(ho:s.heap.get? f=some (lamO q params body scope clos pm (.ref c) ctv))(hcd:s.heap.CodeRec (.ref c) q)(S:LamScope scope)(hbind:bindArgs (W.kla_fn "<lambda>" q params body scope clos pm (.ref c) ctv) ⟨[],[]⟩=pure [])(hcl:∀x c',clos.lookup x=some c'→(∃v,s.heap.IsCell c' v)∧H c'=none)(hinj:∀x y c',clos.lookup x=some c'→clos.lookup y=some c'→x=y)(hhas:∀x,scope.names.lookup x=some .free→∃c',clos.lookup x=some c')(hσ:∀(i:Nat) (x:Str) (v:V),N[i]? = some x→σ[i]? = some (some v)→∃c' u,scope.names.lookup x=some .free∧clos.lookup x=some c'∧s.heap.IsCell c' (some u)∧RelV v u)(hlen:σ.length=N.length)(hbody:PE (Ge (CX1 P w) P w K mg base N q scope f (.ref c) clos A outer s H E) body t)(h:t σ H Q):codeAny (model P w) A (.call (.ref f) ⟨[],[]⟩) (CR (CX1 P w) outer P w H s Q E) s:=by
 have lim:s.heap.NoLimit:=e0.mod.nolimit.keeps fun b o e=>(e0.bs b o e).1;refine W.kla_callFunE (by have:=hr.dp;omega) ho rfl S.co S.gen rfl hcd ?_
 rw[hbind];refine wpAny_pure (wpAny_newFunctionEnv S.cell (by simp) (fun h₁ hns hsb=>⟨lim.fresh _ hsb,?_⟩) S.kind)
 show codeAny _ _ (.expr body (W.envX q scope s.heap.objs.size f (.ref c) clos)) _ _;have kp:∀b o,s.heap.get? b=some o→h₁.get? b=some o:=fun b o e=>hsb.extBut b o (Nat.ne_of_lt (Heap.lt_size e)) (Heap.get?_push_of_some _ e);have ok:(Ge (CX1 P w) P w K mg base N q scope f (.ref c) clos A outer s H E).Ok:=by
  refine⟨e0.mod,S.kind,rfl,rfl,Nat.le_refl _,fun x y c' h1 h2=>hinj x y c' h1 h2,fun x hx=>?_,fun x c' hf=>(by cases hf),fun _=>hr.hd,Around.frames_deeper e0.frames,.inr ⟨rfl,rfl⟩,fun b z=>absurd (show b∈([]:List Addr) from z) (by simp),e0.bs,e0.bsz,fun b _ _ z=>absurd (show b∈([]:List Addr) from z) (by simp),fun b z=>absurd (show b∈([]:List Addr) from z) (by simp),e0.funs,e0.frf⟩
  rcases hx with hx|hx
  ·exact absurd rfl (S.cell _ (PySem.mem_of_lookup (show scope.names.lookup x=some .cell from hx)))
  ·exact hhas x hx
 have I:Inv (Ge (CX1 P w) P w K mg base N q scope f (.ref c) clos A outer s H E) [] σ H { s with heap:=h₁,toks:=s.toks+([]:List (Str×Value)).length }:=by
  refine⟨ok,rfl,e0.bare,Un.kept kp,⟨_,hns,fun i x v h1 h2 _=>?_⟩,fun x c' hx=>?_,e0.hok.fresh (Nat.le_refl _),fun x c' hx=>(hcl x c' hx).2,fun p hp=>absurd (show p∈([]:List (Addr×Obj)) from hp) (by simp),e0.hok.kept kp,hlen⟩
  ·obtain⟨c',u,a1,a2,⟨o,a3,a4⟩,a5⟩:=hσ i x v h1 h2;exact⟨u,a5,.inr ⟨.inr a1,c',a2,o,kp _ _ a3,a4⟩⟩
  ·obtain⟨v,o,a3,a4⟩:=(hcl x c' hx).1;exact⟨v,o,kp _ _ a3,a4⟩
 refine W.kla_codeExpr (wpAny_mono (hbody [] _ σ H Q I h) (fun u s' hs=>?_) fun _ _ y=>y);obtain⟨v,H',J,rv,z⟩:=hs;exact⟨v,H',J.os,J.bare,J.base,J.hok,rv,z⟩
theorem passL{E2:XK}(hE:∀C H',Ext H H'→E2 (.ref C) none H'→E (.ref C) none H'):Cq (CX1 P w) (Ge (CX1 P w) P w K mg base N q scope f (.ref c) clos A outer s H E) E2:=
 fun pins σ H1 s1 e s' I h=>Xa (X:=Ge (CX1 P w) P w K mg base N q scope f (.ref c) clos A outer s H E) rfl rfl rfl I h hE
end
def mroK(K:W.Frag)(C:Addr):Option (List Value):=match K.lookup C with
 |some ⟨_,_,.cls cd,_⟩=>some cd.mro
 |_=>none
def ClsAt(g:Heap)(C:Addr)(tl:List Value):Prop:=∃N nm q bs hdct sn sub ab col dd k0 k1 k2 k3 k5 mN,g.get? C=some (excClassObj nm q C N bs tl hdct sn sub ab col dd k0 k1 k2 k3 k5 "ValueError.__new__")∧g.Ns N mN∧mN "__init__" = none∧OwnTail g vErr tl
theorem ClsAt.keeps{g g':Heap}{C:Addr}{tl:List Value}(z:ClsAt g C tl)(k:∀b o,g.get? b=some o→g'.get? b=some o):ClsAt g' C tl:=
 by obtain⟨N,nm,q,bs,hdct,sn,sub,ab,col,dd,k0,k1,k2,k3,k5,mN,hC,hN,hi,T⟩:=z;exact⟨N,nm,q,bs,hdct,sn,sub,ab,col,dd,k0,k1,k2,k3,k5,mN,k _ _ hC,hN.keeps k,hi,T.keeps k⟩
theorem ExcK.cls{K:W.Frag}{g:Heap}{mg:Str→Option Value}{x:Str}{C:Addr}{tl:List Value}(X:K.In g)(G:g.Ns mainGlobals mg)(z:ExcK K x C)(hm:mroK K C=some (.ref C::tl)):ClsAt g C tl:=by
 obtain⟨tl',N,nm,q,bs,hdct,sn,sub,ab,col,dd,k0,k1,k2,k3,k5,mN,hC,hN,hi,T⟩:=(z.own X G).obj;have e:tl'=tl:=by
  unfold mroK at hm
  split at hm
  ·rename_i a b cd c ho
   have:=X _ _ ho
   rw[hC] at this;cases this;injection hm with hm;injection hm
  ·cases hm
 subst e;exact⟨N,nm,q,bs,hdct,sn,sub,ab,col,dd,k0,k1,k2,k3,k5,mN,hC,hN,hi,T⟩
theorem R9{M:Model}{A:Around}{E:Value→Shared→Prop}{s:Shared}{e C B:Addr}{oe:Obj}{tl tm:List Value}{Q:Bool→Shared→Prop}(hC:ClsAt s.heap C tl)(hM:ClsAt s.heap B tm)(he:s.heap.get? e=some oe)(hcls:oe.cls=.ref C)(hB:tm.contains (.type "BaseException")=true)(hin:(Value.ref C::tl).contains (.ref B)=true)(q:Q true s):wpAny M A (excMatches (.ref e) (.ref B)) Q E s:=by
 obtain⟨N,nm,qn,bs,hdct,sn,sub,ab,col,dd,k0,k1,k2,k3,k5,mN,hC,_⟩:=hC;obtain⟨N',nm',qn',bs',hdct',sn',sub',ab',col',dd',k0',k1',k2',k3',k5',mN',hM,_⟩:=hM;obtain⟨h,g,d,t,os⟩:=s;have hcB:(Value.ref B::tm).contains (.type "BaseException")=true:=by rw[List.contains_cons,hB,Bool.or_true]
 have f:=tc_notTuple;unfold excMatches
 repeat (first|(with_reducible refine wpAny_loadPart_at he ?_;rw[hcls])|with_reducible refine wpAny_loadPart_at hM ?_|(with_reducible refine wpAny_isSubtype_exc hM ?_;rw[hcB])|(with_reducible refine wpAny_isSubtype_exc hC ?_;rw[hin])|wp_step)
 exact q
theorem Yi{fs:List Addr}{H H':Hp}{h G' h' B:Heap}(un:Un fs [] H H' h G')(hB:∀b o,h.get? b=some o→b ∉ fs→(H b=none→B.get? b=some o)∧∃o',B.get? b=some o')(st:B.StaysIn h')(up:G'.UpToSlots h')(hf:∀b∈fs,H b=none∧∀o,h.get? b=some o→∀vs,o.data≠.fields vs):Un fs [] H H' h h':=by
 have no:∀b:Addr,b ∉ ([]:List Addr):=fun b=>by simp
 have slt:∀b o,h.get? b=some o→H b=none→b∈fs→∃sl,h'.get? b=some { o with slots:=sl }:=fun b o e hn m=>by
  obtain⟨sl2,e2⟩:=un.slot b o e hn m (no b);obtain⟨sl3,e3⟩:=up b _ e2 ((hf b m).2 o e);exact⟨sl3,e3⟩
 refine⟨fun b o e hn n _=>st b o ((hB b o e n).1 hn),fun b o e hn m _=>slt b o e hn m,un.free,fun b o e _=>?_,un.tups,un.frzs,un.tbls⟩
 by_cases m:b∈fs
 ·obtain⟨sl,q⟩:=slt b o e (hf b m).1 m;exact⟨_,q⟩
 ·obtain⟨o',q⟩:=(hB b o e m).2;exact⟨o',st b o' q⟩
section
variable{X:Cx}{pins:List (Addr×Obj)}{σ:List (Option V)}{H:Hp}{s:Shared}
theorem Ok.re(h:X.Ok)(xe:Value→Shared→Prop)(pn:List (Addr×Obj)):Cx.Ok { X with xe:=xe,pn:=pn }:=⟨h.mod,h.kind,h.glob,h.blt,h.above,h.inj,h.has,h.cab,h.hd,h.frames,h.stk,h.exf,h.bs,h.bsz,h.noex,h.exfs,h.funs,h.frf⟩
theorem Ok.mark(h:X.Ok)(v:Option Value)(xe:Value→Shared→Prop)(pn:List (Addr×Obj)):Cx.Ok { X with A:=X.A.mark v,calm:=false,xe:=xe,pn:=pn }:=
 ⟨h.mod,h.kind,h.glob,h.blt,h.above,h.inj,h.has,h.cab,fun z=>(by cases z),h.frames,h.stk,h.exf,h.bs,h.bsz,h.noex,h.exfs,h.funs,h.frf⟩
theorem Aee(I:Inv X pins σ H s)(xe:Value→Shared→Prop):Inv { X with xe:=xe,pn:=X.pn++pins } [] σ H s:=
 ⟨Ok.re I.ok xe _,I.os,I.bare,I.base,I.loc,I.cell,I.free,I.freeC,fun p hp=>I.pin p (by simpa using hp),I.hok,I.len⟩
theorem Ey{xe:Value→Shared→Prop}{more:List (Addr×Obj)}(ok:X.Ok)(I:Inv { X with xe:=xe,pn:=X.pn++pins } more σ H s):Inv X pins σ H s:=
 ⟨ok,I.os,I.bare,I.base,I.loc,I.cell,I.free,I.freeC,fun p hp=>I.pin p (List.mem_append_left _ hp),I.hok,I.len⟩
theorem Hw(I:Inv X pins σ H s)(v:Option Value)(xe:Value→Shared→Prop):Inv { X with A:=X.A.mark v,calm:=false,xe:=xe,pn:=X.pn++pins } [] σ H s:=
 ⟨Ok.mark I.ok v xe _,I.os,I.bare,I.base,I.loc,I.cell,I.free,I.freeC,fun p hp=>I.pin p (by simpa using hp),I.hok,I.len⟩
theorem Iu{v:Option Value}{xe:Value→Shared→Prop}{more:List (Addr×Obj)}(ok:X.Ok)(I:Inv { X with A:=X.A.mark v,calm:=false,xe:=xe,pn:=X.pn++pins } more σ H s):Inv X pins σ H s:=
 ⟨ok,I.os,I.bare,I.base,I.loc,I.cell,I.free,I.freeC,fun p hp=>I.pin p (List.mem_append_left _ hp),I.hok,I.len⟩
theorem Xi{a:Addr}{o:Obj}(I:Inv X pins σ H s)(ha:X.s₀.heap.get? a=none)(hL:a≠X.env.locals)(hc:∀x c,X.env.cells.lookup x=some c→c≠a)(hp:∀p∈X.pn++pins,p.1≠a)(hn:H a=none)(e:s.heap.get? a=some o) :
  Inv X pins σ (upd H a (.frz o topO)) s:=by
 have nb:∀b o',X.s₀.heap.get? b=some o'→b≠a:=fun b o' q z=>by rw[z,ha] at q;cases q
 refine⟨I.ok,I.os,I.bare,⟨I.base.keep,I.base.slot,fun b o' q n hx=>by rw[Ae (nb b o' q)];exact I.base.free b o' q n hx,I.base.there,fun b xs q=>?_,fun b o' u q=>?_,fun b ps q=>?_⟩,I.loc,I.cell,by rw[Ae hL.symm];exact I.free,fun x c q=>by rw[Ae (hc x c q)];exact I.freeC x c q,fun p hq=>?_,fun b u q=>?_,I.len⟩
 ·have q:=I.base.tups b xs q;rw[Ae (Aj q hn)];exact q
 ·have q:=I.base.frzs b o' u q;rw[Ae (Aj q hn)];exact q
 ·obtain⟨m,q⟩:=I.base.tbls b ps q;exact⟨m,by rw[Ae (Aj q hn)];exact q⟩
 ·obtain⟨p1,p2,p3⟩:=I.pin p hq;exact⟨p1,by rw[Ae (hp p hq)];exact p2,p3⟩
 ·by_cases hb:b=a
  ·subst hb;rw[Af] at q;cases q;exact Jt e
  ·rw[Ae hb] at q;exact(I.hok b u q).stay (fun c v _ r=>r) (fun c r=>by rw[Ae (Aj r hn)];exact r) fun c xs r=>by rw[Ae (Aj r hn)];exact r
theorem Xj{g:Heap}{m:Str→Option Value}{tk:Nat}(I:Inv X pins σ H s)(hn:g.Ns X.env.locals m)(hs:Heap.SameBut X.env.locals s.heap g):Inv X pins (List.replicate X.N.length none) H { s with heap:=g,toks:=tk }:=by
 have nL:∀b o,X.s₀.heap.get? b=some o→b≠X.env.locals:=fun b o e=>Nat.ne_of_lt (Nat.lt_of_lt_of_le (Heap.lt_size e) I.ok.above);refine⟨I.ok,I.os,I.bare,⟨fun b o e n hb hx=>(hs.2 b (nL b o e)).trans (I.base.keep b o e n hb hx),fun b o e n hb hx=>?_,I.base.free,fun b o e hx=>?_,I.base.tups,I.base.frzs,I.base.tbls⟩,⟨m,hn,fun i x v _ e2 _=>?_⟩,fun x c e=>?_,I.free,I.freeC,fun p hp=>?_,fun b u q=>?_,by simp⟩
 ·obtain⟨sl,q⟩:=I.base.slot b o e n hb hx;exact⟨sl,(hs.2 b (nL b o e)).trans q⟩
 ·obtain⟨o',q⟩:=I.base.there b o e hx;exact⟨o',(hs.2 b (nL b o e)).trans q⟩
 ·rw[List.getElem?_replicate] at e2
  split at e2<;>cases e2
 ·obtain⟨v,o,q1,q2⟩:=I.cell x c e;exact⟨v,o,(hs.2 c (I.cne x c e)).trans q1,q2⟩
 ·obtain⟨p1,p2,p3,p4⟩:=I.pin p hp;exact⟨(hs.2 _ p3).trans p1,p2,p3,p4⟩
 ·refine(I.hok b u q).stay (fun c v hc r=>(hs.2 c fun z=>?_).trans r) (fun _ r=>r) fun _ _ r=>r;subst z;rcases hc with rfl|hc
  ·rw[I.free] at q;cases q
  ·rw[I.free] at hc;cases hc
end
section
variable{X:Cx}{E:XK}{M:Addr}{mn n:Str}{i:Nat}{body suite:List Stmt}{b0:Stmt}{np hpos pos:Pos}{tb ts:TS}{tm:List Value}
def T9(o:Obj)(C:Addr):Prop:=o.cls=.ref C∧∃vs,o.data=.fields vs
theorem Ac2(hc:X.calm=true)(hst:X.stack=X.env::X.outer)(hfr:X.env.frame=some X.env.locals)(hex:X.ex=[])(hN:X.N.Nodup)(hi:X.N[i]? = some n)(hl:X.env.scope.names.lookup n=some .local)(hmg:X.mg mn=some (.ref M))(hM:ExcK X.K mn M)(hmM:mroK X.K M=some (.ref M::tm))(hB:tm.contains (.type "BaseException")=true)(hb:∀xe' pn',Cq (CX1 X.prog X.w) { X with xe:=xe',pn:=pn' } E→PSs { X with xe:=xe',pn:=pn' } body tb)(hs:∀e xe' pn',PSs { X with A:=X.A.mark (some (.ref e)),calm:=false,xe:=xe',pn:=pn' } (b0::suite) ts)(hg:Gl X mn:=by rfl)(hd:(mn == ("__debug__" : Str))=false:=by decide) :
  PS X (.Try body [.ExceptHandler (some (.Name mn np)) (some n) (b0::suite) hpos] [] [] pos)
   (fun D σ H=>tb D σ H∧∀C H' a o,Ext X.H₀ H'→E (.ref C) none H'→H' a=none→T9 o C→∃x tl,ExcK X.K x C∧mroK X.K C=some (.ref C::tl)∧(Value.ref C::tl).contains (.ref M)=true∧
    ts { nx:=fun _ _=>False,rt:=D.rt } ((List.replicate X.N.length none).set i (some (.ref a))) (upd H' a (.frz o topO))):=by
 rintro pins s σ H D I ⟨h1,h2⟩;refine wpAny_Try_except (E:=X.xe) ?_;have ok:=I.ok;refine wpAny_mono (hb _ (X.pn++pins) ?_ [] s σ H D (Aee I _) h1) (fun f s1 z=>?_) fun _ _ y=>y
 case refine_2=>
  cases f with
  |next=>
   obtain⟨σ',H',J,q⟩:=z;exact wpAny_pure ⟨σ',H',Ey ok J,q⟩
  |brk=>obtain⟨σ',H',J,q⟩:=z;exact⟨σ',H',Ey ok J,q⟩
  |cont=>obtain⟨σ',H',J,q⟩:=z;exact⟨σ',H',Ey ok J,q⟩
  |ret u=>obtain⟨v,σ',H',J,r,q⟩:=z;exact⟨v,σ',H',Ey ok J,r,q⟩
 case refine_1=>
  intro pins' σ1 H1 s1 e s' I1 hcx;obtain⟨a,C,t,H',B,rfl,os,bare,un,hok,fl,hBk,hT,hn,q⟩:=hcx;obtain⟨-,-,fl3,-⟩:=id fl;have stk1:=I1.stack;have hff:∀b∈frs X.stack,H1 b=none∧∀o,s1.heap.get? b=some o→∀vs,o.data≠.fields vs:=fun b hb=>⟨I1.stkFree b hb,fun o e vs=>by
   obtain⟨_,o',e',nf⟩:=stk1.mem hb;rw[e] at e';cases e';exact nf vs⟩
  have move:∀g:Heap,B.StaysIn g→s'.heap.UpToSlots g→Inv X pins σ1 H' { s' with heap:=g }∧HOk X.prog X.w H' g:=fun g st up=>by
   obtain⟨ok2,_⟩:=Hu hok hT st;exact⟨Ey ok (I1.call' (s':={ s' with heap:=g }) os (Yi un hBk st up hff) ok2 bare (fun b z=>absurd z (by simp))),ok2⟩
  have fl':=fl;rw[hst] at fl';show wpAny _ _ (noteFrame _ _) _ _ _;refine wpAny_looks_onW (by rw[ok.frames,hst]) hfr fl' fun h4 held up4=>wpAny_landsW held fun h5 fl5 up5=>?_
  obtain⟨I5,_⟩:=move h5 fl5.1 (up4.trans up5);obtain⟨oe,ws,hoe,hoec,hoed,_⟩:=fl5.first
  have x0:Ext X.H₀ H':=(K8 I1.base).trans (K8 un);obtain⟨x,tl,hx,hmx,hin,_⟩:=h2 C H' a oe x0 q hn ⟨hoec,ws,hoed⟩;refine wpAny_handleBy_cons (codeAny_handlers_test ?_) (by intro z;cases z)
  refine D5 (X:={ X with A:=X.A.mark (some (.ref a)),calm:=false,xe:=fun _ _=>True,pn:=X.pn++pins }) (Hw I5 (some (.ref a)) (fun _ _=>True)) hg hmg ?_ hd;have cC:ClsAt h5 C tl:=(hx.cls I5.mod.kin I5.mod.glob hmx).keeps I5.bk;have cM:ClsAt h5 M tm:=(hM.cls I5.mod.kin I5.mod.glob hmM).keeps I5.bk;refine R9 (s:={ s' with heap:=h5 }) cC cM hoe hoec hB hin ?_;refine codeAny_handlers_suite_as ?_;refine lands_againW fl5 fun h6 fl6 up6=>?_;obtain⟨I6,_⟩:=move h6 fl6.1 ((up4.trans up5).trans up6);obtain⟨o6,w6,ho6,hc6,hd6,_⟩:=fl6.first
  obtain⟨_,_,_,_,_,hts⟩:=h2 C H' a o6 x0 q hn ⟨hc6,w6,hd6⟩;have hBa:B.get? a=none:=fl.2.1;have nfr:a ∉ frs X.stack:=fun m=>by
   rw[hst] at m;obtain⟨_,o',e',nf⟩:=fl6.2.2.1.mem m;rw[ho6] at e';cases e';exact nf _ hd6
  have ns1:s1.heap.get? a=none:=by
   cases z:s1.heap.get? a with
   |none=>rfl
   |some o1=>
    obtain⟨o',y⟩:=(hBk a o1 z nfr).2;rw[hBa] at y;cases y
  have ns0:X.s₀.heap.get? a=none:=by
   cases z:X.s₀.heap.get? a with
   |none=>rfl
   |some o0=>
    obtain⟨o1,y⟩:=I1.base.there a o0 z (by show a ∉ X.ex;rw[hex];simp)
    rw[ns1] at y;cases y
  have nL:a≠X.env.locals:=fun z=>nfr (by rw[hst,z];exact(Fa hfr).mpr (.inl rfl))
  have nc:∀x c,X.env.cells.lookup x=some c→c≠a:=fun x c e z=>by
   obtain⟨v,o,e1,e2⟩:=I6.cell x c e;rw[z] at e1;rw[show({ s' with heap:=h6 }:Shared).heap.get? a=some o6 from ho6] at e1;cases e1;rw[hd6] at e2;cases e2
  have np:∀p∈X.pn++pins,p.1≠a:=fun p hp z=>by
   have:=(I1.pin p (List.mem_append_left _ hp)).1
   rw[z,ns1] at this;cases this
  have I7:Inv X pins (List.replicate X.N.length none) (upd H' a (.frz o6 topO)) { s' with heap:=h6 }:=Xi (I6.weak (by rw[List.length_replicate,I6.len]) fun j v e=>by
   rw[List.getElem?_replicate] at e
   split at e<;>cases e) ns0 nL nc np hn ho6
  refine Cs (X:={ X with A:=X.A.mark (some (.ref a)),calm:=false,xe:=fun _ _=>True,pn:=X.pn++pins }) (i:=i) (v:=.ref a) (Hw I7 (some (.ref a)) (fun _ _=>True)) hN hi (Or.inl hl) rfl (fun s8 I8=>?_) (.inr hl);have I8':Inv X pins ((List.replicate X.N.length none).set i (some (.ref a))) (upd H' a (.frz o6 topO)) s8:=Iu ok I8;refine wpAny_mono (hs a _ (X.pn++pins) [] s8 _ _ _ (Hw I8' (some (.ref a)) _) hts) (fun f s9 z=>?_) fun _ _ y=>y;cases f with
  |next=>obtain⟨_,_,_,z⟩:=z;exact z.elim
  |brk=>obtain⟨_,_,_,z⟩:=z;exact z.elim
  |cont=>obtain⟨_,_,_,z⟩:=z;exact z.elim
  |ret u=>
   obtain⟨v,σ9,H9,J,r,q9⟩:=z;have J:=Iu ok J;obtain⟨m,hnm,_⟩:=id J.loc;exact wpAny_nameGoes hl hnm (by rw[ok.kind];rfl) fun g m' hn' hs'=>⟨v,_,H9,Xj J hn' hs',r,q9⟩
end
end D3
namespace L2
open PySem PySem.Spec PyProof.Rows
structure FnS(P:Program)(w:World)(K:W.Frag)(mg:Str→Option Value)(base:Heap)(CX:CXT)(k:Nat)(f:Addr)(fd:FuncData)(ps:List Str)(sp:List Env→Shared→Sp):Prop where
 len:∀outer s vs H Q E,sp outer s vs H Q E→vs.length=ps.length
 run:∀(A:Around) (outer:List Env) (s:Shared) (H:Hp) (args:Args) (us:List Value) (vs:List V) (Q:VK) (E:XK),Room k A→Env0 P w K mg base A outer s H→BindsTo s fd args (ps.zip us)→Vals vs us→sp outer s vs H Q E→
  codeAny (model P w) A (.call (.ref f) args) (CR CX outer P w H s Q E) s

theorem Aej{CX:CXT}{P:Program}{w:World}{K:W.Frag}{mg:Str→Option Value}{base:Heap}{k:Nat}{f:Addr}{name qual:Str}{params:Arguments}{body:List Stmt}{scope:Scope}{dV kV doc pm cdv ct oc:Value}{an od:Option Addr}{osl:Array (Option Value)}{N ps:List Str}{sp:List Env→Shared→Sp}(lk:K.lookup f=some ⟨oc,od,.func (W.fnOf name qual params body scope dV kV doc pm an cdv ct),osl⟩)(hcd:W.codeIn K cdv qual=true)(S:FnScope N ps scope)(len:∀outer s vs H Q E,sp outer s vs H Q E→vs.length=ps.length)(hbody:∀(A:Around) (outer:List Env) (s:Shared) (H:Hp) (vs:List V) (Q:VK) (E:XK),Room k (A.deeper (envOfC qual scope s.heap.objs.size f cdv))→sp outer s vs H Q E→
   ∃t,PSs (C6 CX P w K mg base N qual scope f cdv A outer s H E) body t∧t { nx:=fun _ H'=>Q .non H',rt:=Q } (start N vs) H) :
  FnS P w K mg base CX (k+1) f (W.fnOf name qual params body scope dV kV doc pm an cdv ct) ps sp:=by
 refine⟨len,fun A outer s H args us vs Q E hr e0 hb r hsp=>?_⟩;have hl:=len _ _ _ _ _ _ hsp;have KX:K.In s.heap:=e0.mod.kin.keeps fun b o e=>(e0.bs b o e).1;have lim:s.heap.NoLimit:=e0.mod.nolimit.keeps fun b o e=>(e0.bs b o e).1;have hkind:∀y∈ps.zip us,scope.names.lookup y.1=some .local∨(scope.names.lookup y.1=some .cell∧((cellsFrom (s.heap.objs.size+1) scope.names []).lookup y.1).isSome=true):=fun zz hy=>by
  obtain⟨n,v⟩:=zz;rcases S.par n (List.of_mem_zip hy).1 with q|q
  ·exact .inl q
  ·exact .inr ⟨q,W.cellsFrom_some _ _ _ (.inl q)⟩
 refine codeAny_call_function hr.depth (KX _ _ lk) rfl S.co S.gen rfl (W.codeRec_of KX hcd) (hb _ _ _ _ ?_);refine wpAny_newFunctionEnv_cells S.kind hkind fun env he s1 x=>?_;subst he;refine⟨lim.keeps x.toInCall.keep,codeAny_func ?_⟩;obtain⟨t,ht,hq⟩:=hbody A outer s H vs Q E (hr.deeper _) hsp;have I:Inv (C6 CX P w K mg base N qual scope f cdv A outer s H E) [] (start N vs) H s1:=Kh S hr.hd e0 hl r x;refine wpAny_mono (ht [] s1 (start N vs) H _ I hq) (fun fl s' hs=>?_) fun e s' hs=>hs;have fin:∀{σ':St} {H':Hp} {v:V} {u:Value},Inv (C6 CX P w K mg base N qual scope f cdv A outer s H E) [] σ' H' s'→RelV v u→Q v H'→CE outer P w H s Q u s':=
  fun {σ' H' v u} J rv q=>⟨v,H',J.os,J.bare,J.base,J.hok,rv,q⟩
 cases fl with
 |ret u=>
  obtain⟨v,σ',H',J,rv,q⟩:=hs;exact fin J rv q
 |next=>
  obtain⟨σ',H',J,q⟩:=hs;exact fin (v:=V.non) (u:=Value.none) J rfl q
 |brk=>
  obtain⟨_,_,_,q⟩:=hs;exact False.elim q
 |cont=>
  obtain⟨_,_,_,q⟩:=hs;exact False.elim q

structure RoomH(k:Nat)(A:Around):Prop where
 dp:A.depth+3*k+5<recursionLimit
 un:A.units+16*k+200<cLine
 gd:A.guards=some []
theorem RoomH.deeper{k:Nat}{A:Around}(r:RoomH (k+1) A)(env:Env):RoomH k (A.deeper env):=⟨by have:=r.dp;show A.depth+1+3*k+5<_;omega,by have:=r.un;show A.units+3+16*k+200<_;omega,r.gd⟩
theorem RoomH.depth{k:Nat}{A:Around}(r:RoomH k A):A.depth<recursionLimit:=by have:=r.dp;omega
theorem RoomH.of{k:Nat}{A:Around}(r:Room k A)(v:Option Value):RoomH k (A.mark v):=⟨r.dp,r.un,r.gd⟩

structure FnH(P:Program)(w:World)(K:W.Frag)(mg:Str→Option Value)(base:Heap)(CX:CXT)(k:Nat)(f:Addr)(fd:FuncData)(ps:List Str)(sp:Sp):Prop where
 len:∀vs H Q E,sp vs H Q E→vs.length=ps.length
 run:∀(A:Around) (outer:List Env) (s:Shared) (H:Hp) (args:Args) (us:List Value) (vs:List V) (Q:VK) (E:XK),RoomH k A→Env0 P w K mg base A outer s H→BindsTo s fd args (ps.zip us)→Vals vs us→sp vs H Q E→
  codeAny (model P w) A (.call (.ref f) args) (CR CX outer P w H s Q E) s

def Jy(CX:CXT)(P:Program)(w:World)(K:W.Frag)(mg:Str→Option Value)(base:Heap)(N:List Str)(qual:Str)(scope:Scope)(f:Addr)(cd:Value)(A:Around)(outer:List Env)(s:Shared)(H:Hp)(E:XK):Cx where
 prog:=P
 w:=w
 K:=K
 mg:=mg
 base:=base
 A:=A.deeper (envOfC qual scope s.heap.objs.size f cd)
 N:=N
 s₀:=s
 H₀:=H
 env:=envOfC qual scope s.heap.objs.size f cd
 outer:=outer
 stack:=envOfC qual scope s.heap.objs.size f cd::outer
 ex:=[]
 calm:=false
 fn:=fun _=>true
 pn:=[]
 xe:=fun e s'=>wpAny (model P w) (A.deeper (envOfC qual scope s.heap.objs.size f cd)) (leaving (envOfC qual scope s.heap.objs.size f cd) e) (fun _ s''=>CX outer H s E e s'') (fun e' s''=>CX outer H s E e' s'') s'


theorem Pg{CX:CXT}{P:Program}{w:World}{K:W.Frag}{mg:Str→Option Value}{base:Heap}{N ps:List Str}{qual:Str}{scope:Scope}{f:Addr}{cd:Value}{A:Around}{outer:List Env}{s s1:Shared}{H:Hp}{E:XK}{us:List Value}{vs:List V}(S:FnScope N ps scope)(e0:Env0 P w K mg base A outer s H)(hl:vs.length=ps.length)(r:Vals vs us)(x:InCallC s s.heap.objs.size (bindL (envOfC qual scope s.heap.objs.size f cd).kindOf (ps.zip us) fun _=>none) (cellsFrom (s.heap.objs.size+1) scope.names []) (bindC (envOfC qual scope s.heap.objs.size f cd).kindOf (ps.zip us) fun _=>none) s1) :
  Inv (Jy CX P w K mg base N qual scope f cd A outer s H E) [] (start N vs) H s1:=by
 have hpl:ps.length≤N.length:=by have:=congrArg List.length S.pre;rw[List.length_take] at this;omega
 obtain⟨h1,tk,rfl,hk⟩:=x.done;have noA:∀b:Addr,b ∉ (Jy CX P w K mg base N qual scope f cd A outer s H E).ex:=fun b z=>absurd (show b∈([]:List Addr) from z) (by simp)
 refine⟨⟨e0.mod,S.kind,rfl,rfl,Nat.le_refl _,fun y z c h1 h2=>?_,fun y hy=>?_,fun y c _ h=>?_,fun z=>(by cases z),Around.frames_deeper e0.frames,.inr ⟨rfl,rfl⟩,fun b z=>absurd z (noA b),e0.bs,e0.bsz,fun b _ _=>noA b,fun b z=>absurd z (noA b),e0.funs,e0.frf⟩,
  rfl,e0.bare,Un.kept hk,⟨_,x.toInCall.ns,fun i y v h1 h2 h3=>?_⟩,fun y c h=>⟨_,x.cell y c h⟩,e0.hok.fresh (Nat.le_refl _),fun y c h=>?_,fun p hp=>absurd (show p∈([]:List (Addr×Obj)) from hp) (by simp),e0.hok.kept hk,?_⟩
 ·exact name_of_addr x.apart (PySem.mem_of_lookup h1) (PySem.mem_of_lookup h2)
 ·have hy:scope.names.lookup y=some .cell∨scope.names.lookup y=some .free:=hy;rcases hy with hy|hy
  ·exact Fd hy
  ·exact absurd rfl (S.nofree _ (PySem.mem_of_lookup hy))
 ·exact Nat.le_of_lt (x.above y c (PySem.mem_of_lookup h))
 ·have hi:i<vs.length:=by
   unfold start at h2
   by_cases hi:i<vs.length
   ·exact hi
   ·rw[List.getElem?_append_right (by simpa using hi)] at h2
    rw[List.getElem?_replicate] at h2
    split at h2<;>cases h2
  have ha:vs[i]? = some v:=by
   unfold start at h2;rw[List.getElem?_append_left (by simpa using hi),List.getElem?_map] at h2
   cases e:vs[i]? with
   |none=>rw[e] at h2;cases h2
   |some a=>rw[e] at h2;cases h2;rfl
  obtain⟨u,hu,rv⟩:=r.get ha;have hp:ps[i]? = some y:=by
   rw[←S.pre,List.getElem?_take_of_lt (by omega)];exact h1
  have ndP:ps.Nodup:=by rw[←S.pre];exact S.nd.sublist (List.take_sublist _ _)
  refine⟨u,rv,?_⟩;rcases S.par y (List.mem_of_getElem? hp) with k|k
  ·exact .inl ⟨k,F4 ndP hp hu k⟩
  ·obtain⟨c,e⟩:=Fd (n:=s.heap.objs.size+1) k;refine .inr ⟨.inl k,c,e,?_⟩;have q:=x.cell y c e;rw[F5 ndP hp hu (by show scope.names.lookup y≠_;rw[k];decide)] at q
   exact q
 ·exact e0.hok.fresh (Nat.le_of_lt (x.above y c (PySem.mem_of_lookup h)))
 ·unfold start;show _=N.length;rw[List.length_append,List.length_map,List.length_replicate];omega


theorem Aek{CX:CXT}{P:Program}{w:World}{K:W.Frag}{mg:Str→Option Value}{base:Heap}{k:Nat}{f:Addr}{name qual:Str}{params:Arguments}{body:List Stmt}{scope:Scope}{dV kV doc pm cdv ct oc:Value}{an od:Option Addr}{osl:Array (Option Value)}{N ps:List Str}{sp:Sp}(lk:K.lookup f=some ⟨oc,od,.func (W.fnOf name qual params body scope dV kV doc pm an cdv ct),osl⟩)(hcd:W.codeIn K cdv qual=true)(S:FnScope N ps scope)(len:∀vs H Q E,sp vs H Q E→vs.length=ps.length)(hbody:∀(A:Around) (outer:List Env) (s:Shared) (H:Hp) (vs:List V) (Q:VK) (E:XK),RoomH k (A.deeper (envOfC qual scope s.heap.objs.size f cdv))→sp vs H Q E→
   ∃t,PSs (Jy CX P w K mg base N qual scope f cdv A outer s H E) body t∧t { nx:=fun _ H'=>Q .non H',rt:=Q } (start N vs) H) :
  FnH P w K mg base CX (k+1) f (W.fnOf name qual params body scope dV kV doc pm an cdv ct) ps sp:=by
 refine⟨len,fun A outer s H args us vs Q E hr e0 hb r hsp=>?_⟩;have hl:=len _ _ _ _ hsp;have KX:K.In s.heap:=e0.mod.kin.keeps fun b o e=>(e0.bs b o e).1;have lim:s.heap.NoLimit:=e0.mod.nolimit.keeps fun b o e=>(e0.bs b o e).1;have hkind:∀y∈ps.zip us,scope.names.lookup y.1=some .local∨(scope.names.lookup y.1=some .cell∧((cellsFrom (s.heap.objs.size+1) scope.names []).lookup y.1).isSome=true):=fun zz hy=>by
  obtain⟨n,v⟩:=zz;rcases S.par n (List.of_mem_zip hy).1 with q|q
  ·exact .inl q
  ·exact .inr ⟨q,W.cellsFrom_some _ _ _ (.inl q)⟩
 refine codeAny_call_function hr.depth (KX _ _ lk) rfl S.co S.gen rfl (W.codeRec_of KX hcd) (hb _ _ _ _ ?_);refine wpAny_newFunctionEnv_cells S.kind hkind fun env he s1 x=>?_;subst he;refine⟨lim.keeps x.toInCall.keep,codeAny_func ?_⟩;obtain⟨t,ht,hq⟩:=hbody A outer s H vs Q E (hr.deeper _) hsp;have I:Inv (Jy CX P w K mg base N qual scope f cdv A outer s H E) [] (start N vs) H s1:=Pg S e0 hl r x;refine wpAny_mono (ht [] s1 (start N vs) H _ I hq) (fun fl s' hs=>?_) fun e s' hs=>hs;have fin:∀{σ':St} {H':Hp} {v:V} {u:Value},Inv (Jy CX P w K mg base N qual scope f cdv A outer s H E) [] σ' H' s'→RelV v u→Q v H'→CE outer P w H s Q u s':=
  fun {σ' H' v u} J rv q=>⟨v,H',J.os,J.bare,J.base,J.hok,rv,q⟩
 cases fl with
 |ret u=>
  obtain⟨v,σ',H',J,rv,q⟩:=hs;exact fin J rv q
 |next=>
  obtain⟨σ',H',J,q⟩:=hs;exact fin (v:=V.non) (u:=Value.none) J rfl q
 |brk=>
  obtain⟨_,_,_,q⟩:=hs;exact False.elim q
 |cont=>
  obtain⟨_,_,_,q⟩:=hs;exact False.elim q

section
variable{X:Cx}{CX:CXT}{k:Nat}{f C:Addr}{fd:FuncData}{ps:List Str}{sp:Sp}{dvs:List V}{ds:List Value}{E:XK}{x m:Str}{p pos apos:Pos}{e o:Expr}{es:List Expr}{ta:TE}{t:TA}
theorem Yt{pins:List (Addr×Obj)}{σ:St}{H:Hp}{s:Shared}{Q:VK}{us:List Value}{vs:List V}(F:FnH X.prog X.w X.K X.mg X.base CX k f fd ps sp)(hr:RoomH k X.A)(hb:Binds X.K fd ps ds)(hd:Vals dvs ds)(hx:Cq CX X E)(I:Inv X pins σ H s)(r:Vals vs us)(h:sp (vs++dvs) H Q E):wpAny (model X.prog X.w) X.A (call (.ref f) us) (EP X pins σ Q) X.xe s:=by
 have r2:Vals (vs++dvs) (us++ds):=r.append hd;have hl:(us++ds).length=ps.length:=by rw[←r2.length];exact F.len _ _ _ _ h
 refine wpAny_call (codeAny_mono (F.run X.A X.stack s H ⟨us,[]⟩ (us++ds) (vs++dvs) Q E hr I.env0 (hb s us I.kIn hl) r2 h) fun r s' hq=>?_);cases r with
 |error e=>exact hx pins σ H s e s' I hq
 |ok fl=>
  cases fl with
  |ret u=>exact I.after hq
  |next=>exact False.elim hq
  |brk=>exact False.elim hq
  |cont=>exact False.elim hq


theorem Wm(F:FnH X.prog X.w X.K X.mg X.base CX k f fd ps sp)(hr:RoomH k X.A)(hg:Gl X x)(hm:X.mg x=some (.ref f))(hk:W.keepIn X.K (.ref f)=true)(hb:Binds X.K fd ps ds)(hd:Vals dvs ds)(hx:Cq CX X E)(ha:PA X (e::es) t)(hdb:(x == ("__debug__" : Str))=false:=by decide)(he:starEach (e::es) X.env=(false,eval e X.env)::starEach es X.env:=by rfl)(hpl:(backTo pos (starEach es X.env)).any (·.1)=false:=by rfl) :
  PE X (.Call (.Name x p) (e::es) [] pos) (Aa1 sp dvs E t):=by
 intro pins s σ H Q I h;refine wpAny_Call_Name_kw (D5 I hg hm ?_ hdb);refine W.callWith_K (h₀:=X.base) I.ok.mod.kin hk (thn (ha pos pins s σ H _ I h) fun us s1 ⟨vs,H1,I1,r,q⟩=>⟨I1.kIn,?_⟩) he hpl;exact Yt F hr hb hd hx I1 r q

end
end L2
namespace D3
open PySem PySem.Spec
open PyProof.Rows hiding St
open L2 hiding St
structure LamAt(K:W.Frag)(outer:List Env)(s:Shared)(H:Hp)(f:Addr)(q:Str)(params:Arguments)(body:Expr)(scope:Scope)(clos:List (Str×Addr))(pm:Value)(c:Addr)(ctv:Value)(N:List Str)(σ:L2.St):Prop where
 fn:H f=some (.frz (lamO q params body scope clos pm (.ref c) ctv) topO)
 code:∃oc u,H c=some (.frz oc u)∧CodeIs oc q
 sc:LamScope scope
 bind:bindArgs (W.kla_fn "<lambda>" q params body scope clos pm (.ref c) ctv) ⟨[],[]⟩=pure []
 cl:∀x c',clos.lookup x=some c'→(∃v,s.heap.IsCell c' v)∧H c'=none∧c' ∉ frs outer
 inj:∀x y c',clos.lookup x=some c'→clos.lookup y=some c'→x=y
 has:∀x,scope.names.lookup x=some .free→∃c',clos.lookup x=some c'
 val:∀(i:Nat) (x:Str) (v:V),N[i]? = some x→σ[i]? = some (some v)→∃c' u,scope.names.lookup x=some .free∧clos.lookup x=some c'∧s.heap.IsCell c' (some u)∧RelV v u
 len:σ.length=N.length
section
variable{X:Cx}{E:XK}{f c:Addr}{q:Str}{params:Arguments}{body:Expr}{scope:Scope}{clos:List (Str×Addr)}{pm ctv:Value}{N:List Str}{σ3:L2.St}{k i:Nat}{x:Str}{p pos:Pos}{t3:TE}
theorem Wl(hex:X.ex=[])(L:LamAt X.K X.outer X.s₀ X.H₀ f q params body scope clos pm c ctv N σ3)(hr:Room k X.A)(hx:Cq (CX1 X.prog X.w) X E)(hb:∀s H,PE (Ge (CX1 X.prog X.w) X.prog X.w X.K X.mg X.base N q scope f (.ref c) clos X.A X.stack s H E) body t3)(hN:X.N[i]? = some x:=by rfl)(hv:Vis X.env.scope x:=by first|exact Or.inl rfl|exact Or.inr (Or.inl rfl)|exact Or.inr (Or.inr rfl))(hd:(x == ("__debug__" : Str))=false:=by decide)(hcd:(x == ("__classdict__" : Str))=false:=by decide) :
  PE X (.Call (.Name x p) [] [] pos) (fun σ H Q=>σ[i]? = some (some (.ref f))∧t3 σ3 H Q):=by
 rintro pins s σ H Q I ⟨hσ,h⟩;refine wpAny_Call_Name_kw (thn (K5 hN hv hd hcd pins s σ H (fun v H1=>v=.ref f∧H1=H) I ⟨_,hσ,rfl,rfl⟩) fun u s1 zz=>?_);obtain⟨v,H1,I1,r,e1,e2⟩:=zz;subst e1 e2;obtain rfl:u=Value.ref f:=r;have no:∀b:Addr,b ∉ X.ex:=fun b=>by rw[hex];simp
 have fo:s1.heap.get? f=some (lamO q params body scope clos pm (.ref c) ctv):=(I1.hok f _ (I1.base.frzs _ _ _ L.fn)).1;obtain⟨oc,uc,hcH,vs,t,hd1,hd2⟩:=L.code;have co:s1.heap.get? c=some oc:=(I1.hok c _ (I1.base.frzs _ _ _ hcH)).1;have cellk:∀x c',clos.lookup x=some c'→∀v,X.s₀.heap.IsCell c' v→s1.heap.IsCell c' v:=fun x c' hx v ⟨o,a1,a2⟩=>⟨o,I1.base.keep _ _ a1 (L.cl x c' hx).2.1 (L.cl x c' hx).2.2 (no _),a2⟩;refine W.callWith_F0 ⟨_,_,_,_,fo⟩ (wpAny_call (codeAny_mono (Aag (E:=E) (t:=t3) (Q:=Q) (N:=N) (σ:=σ3) hr I1.env0 fo ⟨c,oc,vs,t,rfl,co,hd1,hd2⟩ L.sc L.bind (fun x c' hx=>?_) L.inj L.has (fun i x v h1 h2=>?_) L.len (hb s1 H1) h) fun r s' hq=>?_))
 ·obtain⟨⟨v,o,a1,a2⟩,b2,b3⟩:=L.cl x c' hx;exact⟨⟨v,cellk x c' hx v ⟨o,a1,a2⟩⟩,I1.base.free _ _ a1 b2 (no _)⟩
 ·obtain⟨c',u,a1,a2,a3,a4⟩:=L.val i x v h1 h2;exact⟨c',u,a1,a2,cellk x c' a2 _ a3,a4⟩
 ·cases r with
  |error e=>exact hx pins σ H1 s1 e s' I1 hq
  |ok fl=>
   cases fl with
   |ret u=>exact I1.after hq
   |next=>exact False.elim hq
   |brk=>exact False.elim hq
   |cont=>exact False.elim hq
end
section
variable{X:Cx}{CX:CXT}{k:Nat}{f:Addr}{fd:FuncData}{ps:List Str}{sp:List Env→Shared→Sp}{E:XK}{x:Str}{p pos:Pos}{e:Expr}{es:List Expr}{t:TA}
theorem Wk(F:FnS X.prog X.w X.K X.mg X.base CX k f fd ps sp)(hr:Room k X.A)(hm:X.mg x=some (.ref f))(hk:W.keepIn X.K (.ref f)=true)(hb:Binds X.K fd ps [])(hx:Cq CX X E)(ha:PA X (e::es) t)(hg:Gl X x:=by rfl)(hdb:(x == ("__debug__" : Str))=false:=by decide)(he:starEach (e::es) X.env=(false,eval e X.env)::starEach es X.env:=by rfl)(hpl:(backTo pos (starEach es X.env)).any (·.1)=false:=by rfl) :
  PE X (.Call (.Name x p) (e::es) [] pos) (fun σ H Q=>t σ H fun vs H1=>∀pins s1,Inv X pins σ H1 s1→sp X.stack s1 vs H1 Q E):=by
 intro pins s σ H Q I h;refine wpAny_Call_Name_kw (D5 I hg hm ?_ hdb);refine W.callWith_K (h₀:=X.base) I.ok.mod.kin hk (thn (ha pos pins s σ H _ I h) fun us s1 ⟨vs,H1,I1,r,q⟩=>⟨I1.kIn,?_⟩) he hpl;have q:=q pins s1 I1;have hl:us.length=ps.length:=by rw[←r.length];exact F.len _ _ _ _ _ _ q
 have bd:=hb s1 us I1.kIn (by rw[List.append_nil];exact hl)
 rw[List.append_nil] at bd;refine wpAny_call (codeAny_mono (F.run X.A X.stack s1 H1 ⟨us,[]⟩ us vs Q E hr I1.env0 bd r q) fun r s' hq=>?_);cases r with
 |error e=>exact hx pins σ H1 s1 e s' I1 hq
 |ok fl=>
  cases fl with
  |ret u=>exact I1.after hq
  |next=>exact False.elim hq
  |brk=>exact False.elim hq
  |cont=>exact False.elim hq
end
section
variable{P:Program}{w:World}{K:W.Frag}{mg:Str→Option Value}{base:Heap}
def Oo(P:Program)(w:World)(K:W.Frag)(mg:Str→Option Value)(base:Heap)(kr:Nat)(M:Addr)(spW:Sp):List Env→Shared→Sp:=fun outer s vs H Q _=>∃f q params body scope clos pm c ctv N σ3 t3 E1,vs=[V.ref f]∧LamAt K outer s H f q params body scope clos pm c ctv N σ3∧
 (∀A outer s H,Room kr A→PE (Ge (CX1 P w) P w K mg base N q scope f (.ref c) clos A outer s H E1) body t3)∧t3 σ3 H (fun v H'=>1≤sizeLine∧∀p,H' p=none→Q (.ref p) (upd H' p (.lst [v])))∧
 ∀C H' a o,Ext H H'→E1 (.ref C) none H'→H' a=none→T9 o C→∃x tl,ExcK K x C∧mroK K C=some (.ref C::tl)∧(Value.ref C::tl).contains (.ref M)=true∧spW [.ref a] (upd H' a (.frz o topO)) Q E0
abbrev Mx(cn mn en wn:Str)(p1 p2 p3 p4 p5 p6 p7 p8 p9 p10 p11:Pos):List Stmt:=
 [.Try [.Return (some (.List [.Call (.Name cn p1) [] [] p2] p3)) p4] [.ExceptHandler (some (.Name mn p5)) (some en) [.Return (some (.Call (.Name wn p6) [.Name en p7] [] p8)) p9] p10] [] [] p11]
theorem Wr{k kw:Nat}{f fw M:Addr}{fdw:FuncData}{name qual cn mn en wn:Str}{params:Arguments}{scope:Scope}{dV kV doc pm cdv ct oc:Value}{an od:Option Addr}{osl:Array (Option Value)}{spW:Sp}{tm:List Value}{p1 p2 p3 p4 p5 p6 p7 p8 p9 p10 p11:Pos}(lk:K.lookup f=some ⟨oc,od,.func (W.fnOf name qual params (Mx cn mn en wn p1 p2 p3 p4 p5 p6 p7 p8 p9 p10 p11) scope dV kV doc pm an cdv ct),osl⟩)(hcd:W.codeIn K cdv qual=true)(S:FnScope [cn,en] [cn] scope)(hM:ExcK K mn M)(hmg:mg mn=some (.ref M))(hmM:mroK K M=some (.ref M::tm))(hB:tm.contains (.type "BaseException")=true)(FW:FnH P w K mg base CX0 kw fw fdw [en] spW)(hmw:mg wn=some (.ref fw))(hkw:W.keepIn K (.ref fw)=true)(hbw:Binds K fdw [en] [])(hk1:kw+2≤k){kr:Nat}(hk2:kr≤k)(hc1:scope.names.lookup cn=some .local)(hc2:scope.names.lookup en=some .local)(hgm:∀L cd,(envOfC qual scope L f cd).kindOf mn=some .globalImplicit)(hgw:∀L cd,(envOfC qual scope L f cd).kindOf wn=some .globalImplicit)(d1:(cn == ("__debug__" : Str))=false)(d2:(cn == ("__classdict__" : Str))=false)(d3:(mn == ("__debug__" : Str))=false)(d4:(wn == ("__debug__" : Str))=false)(d5:(en == ("__debug__" : Str))=false)(d6:(en == ("__classdict__" : Str))=false) :
  FnS P w K mg base (CX1 P w) (k+1) f (W.fnOf name qual params (Mx cn mn en wn p1 p2 p3 p4 p5 p6 p7 p8 p9 p10 p11) scope dV kV doc pm an cdv ct) [cn] (Oo P w K mg base kr M spW):=by
 refine Aej lk hcd S (fun outer s vs H Q E z=>by obtain⟨_,_,_,_,_,_,_,_,_,_,_,_,_,e,_⟩:=z;rw[e];rfl) fun A outer s H vs Q E hr z=>?_
 obtain⟨fl,q,ps,body,sc,clos,pm',c,ctv,N,σ3,t3,E1,e,L,hb,ht,hE⟩:=z;subst e;have try_:=Ac2 (X:=C6 (CX1 P w) P w K mg base [cn,en] qual scope f cdv A outer s H E) (E:=E1) (M:=M) (mn:=mn) (n:=en) (i:=1) (np:=p5) (hpos:=p10) (pos:=p11) (b0:=.Return (some (.Call (.Name wn p6) [.Name en p7] [] p8)) p9) (suite:=[])
  (body:=[.Return (some (.List [.Call (.Name cn p1) [] [] p2] p3)) p4]) (tm:=tm) rfl rfl rfl rfl S.nd rfl hc2 hmg hM hmM hB (fun xe' pn' hx=>Gs (Os (Uo (Dg (Wl (i:=0) (x:=cn) (E:=E1) (t3:=t3) rfl L hr hx (fun s' H'=>hb _ _ s' H' (hr.mono hk2)) rfl (.inl hc1) d1 d2) pa_nil))))
  (fun e xe' pn'=>Gs (Os (Wm (dvs:=[]) (ds:=[]) FW (RoomH.of (hr.mono (by omega)) _) (hgw _ _) hmw hkw hbw .nil (E:=E0) (fun _ _ _ _ _ _ _ h=>h.elim) (Dg (K5 (i:=1) rfl (.inl hc2) d5 d6) pa_nil) d4))) (hgm _ _) d3
 refine⟨_,Gs try_,⟨rfl,ht⟩,fun C H' a o z0 z1 z2 z3=>?_⟩;obtain⟨x,tl,h1,h2,h3,h4⟩:=hE C H' a o z0 z1 z2 z3;exact⟨x,tl,h1,h2,h3,.ref a,rfl,h4⟩
end
def AllP{α:Type}(f:α→Prop):List α→Prop
 |[]=>True
 |a::l=>f a∧AllP f l
theorem AllP.get{α:Type}{f:α→Prop}:∀{l:List α},AllP f l→∀a∈l,f a
 |a::l,h,b,hb=>by
  rcases List.mem_cons.mp hb with rfl|hb
  ·exact h.1
  ·exact AllP.get h.2 b hb
def excIs(C:Addr)(H:Hp)(a:Addr):Prop:=∃o u,H a=some (.frz o u)∧T9 o C
def whX(K:W.Frag)(M:Addr)(wD:DSp)(Q:DK):DX:=fun c G=>∃C x tl,c=.ref C∧ExcK K x C∧mroK K C=some (.ref C::tl)∧(Value.ref C::tl).contains (.ref M)=true∧∀a,G a=none→wD [.ref a] (Ab G a (.any (excIs C))) Q noX
structure Said(P:Program)(w:World)(K:W.Frag)(mg:Str→Option Value)(base:Heap)(k kr:Nat)(x:Str)(M:Addr)(wD:DSp):Prop where
 ex:∃f fd cn,FnS P w K mg base (CX1 P w) k f fd [cn] (Oo P w K mg base kr M (Ak K wD))∧mg x=some (.ref f)∧W.keepIn K (.ref f)=true∧Binds K fd [cn] []
def nSaid(K:W.Frag)(M:Addr)(wD:DSp)(T:Addr)(q:Str)(idx:List Nat)(tb:DX→DTE):DTE:=fun σ G Q=>G T=some (.tbl q)∧
 tb (whX K M wD Q) (idx.map fun i=>(σ[i]?).join) G (fun d G'=>1≤sizeLine∧∀p,G' p=none→Q (.ref p) (Ab G' p (.lst [d])))
section
variable{X:Cx}
theorem Acq{k kr:Nat}{x:Str}{M T c0:Addr}{wD:DSp}{params:Arguments}{body:Expr}{scope:Scope}{clos:List (Str×Addr)}{N:List Str}{idx:List Nat}{tb:DX→DTE}{p lp pos:Pos}(S:Said X.prog X.w X.K X.mg X.base k kr x M wD)(hr:Room k X.A)(hcode:X.env.code=.ref c0)(hC:W.codeHdIn X.K c0 T=true)(hst:X.stack=X.env::X.outer)(hfr:X.env.frame=some X.env.locals)(hfn:∀x,X.fn x=true)(hb:∀E f c A outer s H,Room kr A→QE (Ge (CX1 X.prog X.w) X.prog X.w X.K X.mg X.base N (X.env.qual ++ "<lambda>") scope f (.ref c) clos A outer s H (Gb X.K E)) body (tb E))(hcl:closureFor scope X.env=pure clos)(hdef:defaultsOf params X.env=([],[]))(hsub:AllP (fun p:Str×Addr=>X.env.cells.lookup p.1=some p.2) clos)(hN:AllP (fun x:Str=>scope.names.lookup x=some .free∧X.env.kindOf x=some .cell∧clos.lookup x=X.env.cells.lookup x) N)(hix:idx.map (fun i=>X.N[i]?)=N.map some)(hfv:(scope.names.all fun p=>p.2 != .free||N.contains p.1)=true)(hS:LamScope scope)(hbind:∀q clos pm cv ctv,bindArgs (W.kla_fn "<lambda>" q params body scope clos pm cv ctv) ⟨[],[]⟩=pure [])(hg:Gl X x:=by rfl)(hdb:(x == ("__debug__" : Str))=false:=by decide)(he:starEach [.Lambda params body scope lp] X.env=(false,eval (.Lambda params body scope lp) X.env)::starEach [] X.env:=by rfl)(hpl:(backTo pos (starEach [] X.env)).any (·.1)=false:=by rfl) :
  QE X (.Call (.Name x p) [.Lambda params body scope lp] [] pos) (nSaid X.K M wD T (X.env.qual ++ "<lambda>") idx tb):=by
 obtain⟨fs,fd,cn,F,hm,hk,hbi⟩:=S.ex;refine(Wk (E:=Gb X.K noX) F hr hm hk hbi passF (Dg (Adh hdef hcl hcode hC) pa_nil he) hg hdb he hpl).imp fun σ H Q zz=>?_;obtain⟨σD,G,Q',rs,rg,⟨eT,h⟩,cl⟩:=zz;have key:∀H1 f c oc u ctv,Ext H H1→RelG X.K H1 G→H1 f=some (.frz (lamO (X.env.qual ++ "<lambda>") params body scope clos ((X.mg "__name__").getD .none) (.ref c) ctv) topO)→H1 c=some (.frz oc u)→CodeIs oc (X.env.qual ++ "<lambda>")→∀pins s1,Inv X pins σ H1 s1→
   Oo X.prog X.w X.K X.mg X.base kr M (Ak X.K wD) X.stack s1 [.ref f] H1 Q (Gb X.K noX):=fun H1 f c oc u ctv x1 rg1 hf hc hci pins s1 I=>by
  have nl:∀(i:Nat) y,N[i]? = some y→∃j,idx[i]? = some j∧X.N[j]? = some y:=fun i y e=>by
   have z:=congrArg (fun l=>l[i]?) hix;simp only[List.getElem?_map,e,Option.map_some] at z;cases q:idx[i]? with
   |none=>rw[q] at z;cases z
   |some j=>rw[q] at z;exact⟨j,rfl,by simpa using z⟩
  have il:idx.length=N.length:=by have:=congrArg List.length hix;simpa using this
  refine⟨f,_,params,body,scope,clos,_,c,ctv,N,idx.map fun i=>(σ[i]?).join,Ba X.K (tb (whX X.K M wD Q')),Gb X.K (whX X.K M wD Q'),rfl,⟨hf,⟨oc,u,hc,hci⟩,hS,hbind _ _ _ _ _,fun y c' e=>?_,fun y z c' e1 e2=>?_,fun y e=>?_,fun i y v e1 e2=>?_,by rw[List.length_map,il]⟩,fun A outer s H hr=>hb _ f c A outer s H hr,?_,fun C H' a o x2 ⟨G',rg2,C',y,tl,ec,hx,hmx,hin,h2⟩ ha ho=>?_⟩
  ·have e':=hsub.get _ (PySem.mem_of_lookup e);obtain⟨v,o,hv1,hv2⟩:=I.cell y c' e';refine⟨⟨v,o,hv1,hv2⟩,I.freeC y c' e',fun m=>?_⟩;rw[hst] at m;rcases(Fa hfr).mp m with z|z
   ·obtain⟨m,⟨o',es,ep,n1,n2,_⟩,_⟩:=I.loc;rw[←z,hv1] at n1;cases n1;rw[hv2] at n2;cases n2
   ·obtain⟨_,o',e2,_⟩:=I.ok.funs.mem z;exact absurd (Nat.lt_of_lt_of_le (Heap.lt_size e2) (I.ok.cab y c' (hfn y) e')) (Nat.lt_irrefl _)
  ·exact I.ok.inj y z c' (hsub.get _ (PySem.mem_of_lookup e1)) (hsub.get _ (PySem.mem_of_lookup e2))
  ·have z:=List.all_eq_true.mp hfv _ (PySem.mem_of_lookup e);have z:y∈N:=by simpa using z
   obtain⟨_,kc,el⟩:=hN.get y z;obtain⟨c',ec⟩:=I.ok.has y (.inl kc);exact⟨c',by rw[el];exact ec⟩
  ·obtain⟨j,ej,en⟩:=nl i y e1;rw[List.getElem?_map,ej] at e2;have e2:σ[j]? = some (some v):=by
    cases q:σ[j]? with
    |none=>simp[q] at e2
    |some w=>simp[q] at e2;rw[e2]
   obtain⟨f1,kc,el⟩:=hN.get y (List.mem_of_getElem? e1);obtain⟨m,n1,n2⟩:=I.loc;obtain⟨u,r,lk⟩:=n2 j y v en e2 (.inr (.inl kc));rcases lk with ⟨k1,_⟩|⟨_,c',k2,k3⟩
   ·rw[kc] at k1;cases k1
   ·exact⟨c',u,f1,by rw[el];exact k2,k3,r⟩
  ·refine⟨idx.map fun i=>(σD[i]?).join,G,_,⟨by simp,fun i d e=>?_⟩,rg1,h,fun d G' ⟨hl,q⟩ H2 x2 rg2 v dv=>⟨hl,fun p hp=>cl _ _ (q p (rg2.free hp)) _ (x1.trans (x2.trans (Ext.fresh hp))) (rg2.new hp ⟨[v],Af,.cons (dv.ext (Ext.fresh hp)) .nil⟩) _ (.ref p)⟩⟩
   rw[List.getElem?_map] at e ⊢;cases q:idx[i]? with
   |none=>rw[q] at e;cases e
   |some j=>
    rw[q] at e;have e:σD[j]? = some (some d):=by
     cases q:σD[j]? with
     |none=>simp[q] at e
     |some w=>simp[q] at e;rw[e]
    obtain⟨v,e1,dv⟩:=rs.2 j d e;exact⟨v,by simp[e1],dv.ext x1⟩
  ·cases ec;have x3:Ext H' (upd H' a (.frz o topO)):=Ext.fresh ha;refine⟨y,tl,hx,hmx,hin,[.ref a],_,Q',noX,.cons (.ref a) .nil,rg2.new (o:=.any (excIs C)) ha ⟨⟨o,topO,Af⟩,fun H3 x4=>⟨o,topO,x4.frz _ _ _ Af,ho⟩⟩,h2 a (rg2.free ha),fun d G1 q=>(cl d G1 q).go (x1.trans (x2.trans x3)),fun c G1 z=>z.elim⟩
 obtain⟨ps,e,ht,ok⟩:=rg T _ eT;refine⟨ps,e,ht,fun cv ctv f hf hn=>?_,fun c o ctv f hf hc hn hne hci=>?_⟩
 ·obtain⟨c,oc,u,rfl,hcH,hci⟩:=ok _ _ hf;exact key _ f c oc u ctv (Ext.fresh hn) (rg.tup hn) Af ((Ext.fresh hn).frz _ _ _ hcH) hci
 ·have nT:∀{b:Addr},H b=none→b≠T:=fun {b} n z=>by rw[z,e] at n;cases n
  have x1:Ext H (upd H T (.tbl (ps ++ #[rawInt lp.line,rawInt lp.col,.ref c]))):=Ext.tbl e;have c1:(upd H T (.tbl (ps ++ #[rawInt lp.line,rawInt lp.col,.ref c]))) c=none:=by rw[Ae (nT hc)];exact hc
  have x2:Ext _ (upd (upd H T (.tbl (ps ++ #[rawInt lp.line,rawInt lp.col,.ref c]))) c (.frz o topO)):=Ext.fresh c1;have f2:(upd (upd H T (.tbl (ps ++ #[rawInt lp.line,rawInt lp.col,.ref c]))) c (.frz o topO)) f=none:=by rw[Ae hne.symm,Ae (nT hn)];exact hn
  have x12:=x1.trans x2;have rg2:RelG X.K (upd (upd H T (.tbl (ps ++ #[rawInt lp.line,rawInt lp.col,.ref c]))) c (.frz o topO)) G:=fun b u eb=>by
   by_cases hb:b=T
   ·subst hb;rw[eT] at eb;cases eb;refine⟨ps ++ #[rawInt lp.line,rawInt lp.col,.ref c],by rw[Ae (nT hc).symm,Af],by simpa using TriplesOk_snoc _ _ _ _ ht,fun p cv q=>?_⟩
    rcases Td _ ht (by simpa using q) with q|q
    ·obtain⟨c',o',u',a1,a2,a3⟩:=ok p cv q;exact⟨c',o',u',a1,x12.frz _ _ _ a2,a3⟩
    ·exact⟨c,o,topO,q,Af,hci⟩
   ·exact((rg b u eb).upd x1 (.inr hb)).upd x2 (.inl c1)
  exact key _ f c o topO ctv (x12.trans (Ext.fresh f2)) (rg2.tup f2) Af ((Ext.fresh f2).frz _ _ _ Af) hci
end
structure ExcCl(K:W.Frag)(C:Addr):Prop where
 ga:W.findIn K (.ref C) "__getattribute__" = some (some (.builtin "BaseException.__getattribute__"))
 gt:W.findIn K (.ref C) "__getattr__" = some none
 cl:W.findIn K (.ref C) "__class__" = some (some (.builtin "object.__class__"))
 ob:W.mroIn K C (.type "object")=some true
 be:W.mroIn K C (.type "BaseException")=some true
theorem Vq{K:W.Frag}:W.specialIn K (.builtin "object.__class__") "__get__" = some (some (.builtin "getset_descriptor.__get__")):=by kernel_rfl
theorem Vp{K:W.Frag}:W.takesIn K (.builtin "object.__class__")=some true:=by kernel_rfl
def Jz(C a:Addr)(h:Heap):Prop:=∃o,h.get? a=some o∧o.cls=.ref C
section
variable{P:Program}{w:World}{A:Around}{E:Value→Shared→Prop}{K:W.Frag}{C a:Addr}{s:Shared}
theorem Ds{M:Model}{h:Heap}(p:Jz C a h):W.Looks M h (typeOf (.ref a)) (.ref C):=by
 obtain⟨o,e,c⟩:=p;exact c ▸ (W.Looks.ld e).andThen .now
theorem Aam{R:Result→Shared→Prop}(X:K.In s.heap)(I:Jz C a s.heap)(O:ExcCl K C)(h:R (.ok (.ret (.ref C))) s) :
  codeAny (model P w) A (.call (.builtin "getset_descriptor.__get__") ⟨[.builtin "object.__class__",.ref a,.ref C],[]⟩) R s:=by
 obtain⟨h1,h2,h3,h4,h5⟩:=s;have l0:=Ds (M:=model P w) I;have l1:=W.looks_mroIn (M:=model P w) X O.ob;have sl:=W.KF.slot_gs;refine codeAny_call_builtin sl.plain W.KF.entry_gs (sl.check _ _ _ _ _ _ _ _ W.KF.type_class (W.KF.args_gs _ _ _) ?_);unfold Builtin.«getset_descriptor.__get__» Builtin.Getset_descriptor.descrGet;rw[W.dga_obj];refine wpAny_bind (wpAny_pure ?_);unfold Builtin.Getset_descriptor.descrGetter Builtin.Getset_descriptor.descrCheckInstance;unfold Builtin.Getset_descriptor.descrNameAndClass isInstance;simp only[W.KF.owner_class]
 repeat lk
 refine⟨Code.quiet_builtin _ (by decide +kernel),codeAny_builtin W.KF.entry_class ?_⟩
 unfold Builtin.«object.__class__» shownTypeOf;repeat lk
 exact h
theorem Xl{M:Model}(X:K.In s.heap)(O:ExcCl K C):W.Looks M s.heap (Builtin.ObjectAttr.find (.ref a) (.ref C) "__class__") (.bind (.builtin "getset_descriptor.__get__") (.builtin "object.__class__")):=by
 have l1:=W.looks_findIn (M:=M) X O.cl;have l2:=W.looks_specialIn (M:=M) X (Vq (K:=K));have l3:=W.looks_takesIn (M:=M) X (Vp (K:=K));refine l1.andThen (W.Looks.andThen (f:=_) (show W.Looks M s.heap (Builtin.ObjectAttr.getOf (some (.builtin "object.__class__"))) _ from l2) ?_);refine W.Looks.andThen (a:=some (.builtin "getset_descriptor.__get__",.builtin "object.__class__")) ?_ (W.Looks.tag .now);exact l3.andThen .now
theorem Xm{tk:Tok}{Q:Fin→Shared→Prop}(X:K.In s.heap)(I:Jz C a s.heap)(O:ExcCl K C)(h:Q (.done (.ret (.ref C))) s) :
  wpAny (model P w) A (Builtin.«object.__getattribute__» ⟨[.ref a,.str "__class__" tk],[]⟩) Q E s:=by
 obtain⟨h1,h2,h3,h4,h5⟩:=s;have l0:=Ds (M:=model P w) I;have l1:=Xl (M:=model P w) (a:=a) (s:=⟨h1,h2,h3,h4,h5⟩) X O;refine wpAny_bind (wpAny_pure (wpAny_bind (wpAny_pure (wpAny_bind (l0.at (wpAny_bind (l1.at ?_)))))));show wpAny _ _ (holding [.builtin "object.__class__"] (call (.builtin "getset_descriptor.__get__") [.builtin "object.__class__",.ref a,.ref C]) >>= ret) _ _ _;exact wpAny_bind (wpAny_holding (wpAny_call (Aam (s:=⟨h1,h2,h3,h4,h5⟩) X I O (wpAny_pure h))))
theorem Sk{M:Model}{nm:Value}{Q:Unit→Shared→Prop}(X:K.In s.heap)(I:Jz C a s.heap)(O:ExcCl K C)(h:Q () s):wpAny M A (checkBuiltinCall "BaseException.__getattribute__" ⟨[.ref a,nm],[]⟩) Q E s:=by
 obtain⟨h1,h2,h3,h4,h5⟩:=s;have l0:=Ds (M:=M) I;have l1:=W.looks_mroIn (M:=M) X O.be;have ha:=F.args_bexc_ga (.ref a) nm;have hk:builtinKind "BaseException.__getattribute__" = some .slot:=by decide +kernel
 have hs:splitId "BaseException.__getattribute__" = some ("BaseException", "__getattribute__"):=by decide +kernel
 simp only[checkBuiltinCall,hk,hs];refine wpAny_bind (W.Looks.at (r:=true) (l0.andThen l1) ?_);rw[if_neg (by decide)]
 unfold argsOk at ha;cases q:Manifest.signature? "BaseException.__getattribute__" with
 |none=>exact wpAny_pure h
 |some sig=>
  simp only[q] at ha ⊢;rw[ha];exact wpAny_pure h
theorem Aan{Q:Option Value→Shared→Prop}(X:K.In s.heap)(I:Jz C a s.heap)(O:ExcCl K C)(h:Q (some (.ref C)) { s with toks:=s.toks+1 }):wpAny (model P w) A (getAttr? (.ref a) "__class__") Q E s:=by
 obtain⟨h1,h2,h3,h4,h5⟩:=s;have l0:=Ds (M:=model P w) I;have l1:=W.looks_findIn (M:=model P w) X O.ga;have l2:=W.looks_findIn (M:=model P w) X O.gt;unfold getAttr? getAttrBy?;refine wpAny_bind (wpAny_mkText (wpAny_bind (wpAny_attempt (wpAny_holding (wpAny_bind (l0.at (wpAny_bind (l1.at ?_))))))));have n:(onTheHeap (Value.ref C)&&Value.builtin "BaseException.__getattribute__" == Value.builtin "object.__getattribute__")=false:=by
  rw[show(Value.builtin "BaseException.__getattribute__" == Value.builtin "object.__getattribute__")=false from by decide +kernel,Bool.and_false]
 show wpAny _ _ (if (onTheHeap (Value.ref C)&&Value.builtin "BaseException.__getattribute__" == Value.builtin "object.__getattribute__")=true then _ else _) _ _ _;rw[n,if_neg (by decide)]
 unfold getAttrByItsOwn;refine wpAny_bind (l2.at (wpAny_bind (wpAny_attempt (wpAny_holding ?_))));show wpAny _ _ (boundAndCalled _ _ _) _ _ _;unfold boundAndCalled;rw[F.excAttr_ValueError.ga.bind];refine wpAny_bind (wpAny_pure (wpAny_call (codeAny_call_builtin F.excAttr_ValueError.ga.plain F.entry_bexc_ga (Sk (s:=⟨h1,h2,h3,h4+1,h5⟩) X I O (Xm (s:=⟨h1,h2,h3,h4+1,h5⟩) X I O ?_)))));show wpAny _ _ (handedOut (.ref C)) _ _ _;exact W.handed_on rfl (wpAny_pure h)
theorem Xb(O:ExcCl K C):W.KitX K (.ref a) (.ref C) (Jz C a):=by
 obtain⟨cd,hc,_⟩:=Option.bind_eq_some_iff.mp O.ob;have lk:∃b1 b2 b3,K.lookup C=some ⟨b1,b2,.cls cd,b3⟩:=by
  unfold W.clsIn at hc
  split at hc
  ·rename_i b1 b2 b3 b4 ho;cases hc;exact⟨_,_,_,ho⟩
  ·cases hc
 obtain⟨b1,b2,b3,lk⟩:=lk;refine⟨fun M h X p=>Ds p,fun M h X p A Q E s k q=>?_,fun h tp dd its n sl X e=>Bool.eq_false_iff.mpr fun q=>?_,fun X p k=>Aan X p O k⟩
 ·unfold isType loadHead;exact wpAny_bind (wpAny_loadPart (k _ _ (X _ _ lk)) (wpAny_pure q))
 ·cases beq_iff_eq.mp q;rw[X _ _ lk] at e;cases e
end
structure OwnK(K:W.Frag)(D:Addr):Prop where
 ty:W.typeIn K (.ref D)=some (.type "type")
 ob:W.mroIn K D (.type "object")=some true
section
variable{X:Cx}
theorem U7{pins:List (Addr×Obj)}{σ:List (Option V)}{H:Hp}{s:Shared}{Q:Value→Shared→Prop}{E:Value→Shared→Prop}{a C:Addr}{c:Value}{b:Bool}(I:Inv X pins σ H s)(O:ExcCl X.K C)(ha:excIs C H a)(hk:W.kitOne X.K (.ref C) c=some b)(h:∀tk,Q (.bool b) { s with toks:=tk }) :
  wpAny (model X.prog X.w) X.A (call (.builtin "isinstance") [.ref a,c]) Q E s:=by
 obtain⟨o,u,e,ho⟩:=ha;exact W.kia_one (Xb O) I.kIn ⟨o,(I.hok a _ e).1,ho.1⟩ hk (by intro z;cases z) h
def rIsE(K:W.Frag):DRC:=fun ds G Q=>∃a C D b,ds=[.ref a,.ref D]∧G a=some (.any (excIs C))∧ExcCl K C∧OwnK K D∧W.mroIn K C (.ref D)=some b∧(C=D→b=true)∧Q (.bl b) G
def rIsV(K:W.Frag):DRC:=fun ds G Q=>∃a C b,ds=[.ref a,.ty "ValueError"]∧G a=some (.any (excIs C))∧ExcCl K C∧W.mroIn K C (.type "ValueError")=some b∧Q (.bl b) G
theorem Aat:QC X (.builtin "isinstance") (rIsE X.K):=by
 rintro pins s σ H xs us Q I r ⟨ds,G,Q',dv,rg,⟨a,C,D,b,e,hG,O,hD,hm,hs,q⟩,cl⟩;subst e;obtain⟨v,w,rfl,d1,d2⟩:=dv.two;cases d1;cases d2;obtain⟨u1,u2,rfl,r1,r2⟩:=Es r;cases r1;cases r2;have hk:W.kitOne X.K (.ref C) (.ref D)=some b:=by
  unfold W.kitOne
  split
  ·rename_i z;rw[hs (Value.ref.inj (beq_iff_eq.mp z))]
  ·obtain⟨cd,hc,_⟩:=Option.bind_eq_some_iff.mp hD.ob;show(if _ then _ else _)=_;rw[if_pos (by rw[hD.ty,hc];rfl)]
   exact hm
 refine U7 I O ((rg a _ hG).2 H (Ext.refl H)) hk fun tk=>?_;exact⟨.bl b,H,I.tok _,rfl,cl _ G q H (Ext.refl H) rg _ (.bl _)⟩
theorem Aaa:W.kitMeta "ValueError" = true:=by decide +kernel
theorem Xs:QC X (.builtin "isinstance") (rIsV X.K):=by
 rintro pins s σ H xs us Q I r ⟨ds,G,Q',dv,rg,⟨a,C,b,e,hG,O,hm,q⟩,cl⟩;subst e;obtain⟨v,w,rfl,d1,d2⟩:=dv.two;cases d1;cases d2;obtain⟨u1,u2,rfl,r1,r2⟩:=Es r;cases r1;cases r2;have hk:W.kitOne X.K (.ref C) (.type "ValueError")=some b:=by
  unfold W.kitOne;rw[if_neg (fun z=>by cases beq_iff_eq.mp z)]
  show(if W.kitMeta "ValueError" = true then _ else none)=_;rw[if_pos Aaa];exact hm
 refine U7 I O ((rg a _ hG).2 H (Ext.refl H)) hk fun tk=>?_;exact⟨.bl b,H,I.tok _,rfl,cl _ G q H (Ext.refl H) rg _ (.bl _)⟩
end
def isT:Value→Bool
 |.bool b=>b
 |_=>false
theorem Lb:∀{bs:List Bool} {us:List Value},Vals (bs.map V.bl) us→us=bs.map Value.bool
 |[],_,.nil=>rfl
 |b::bs,_,.cons h t=>by
  have e:=Lb t;cases h;rw[e];rfl
theorem Lx{K:W.Frag}{H:Hp}:∀{bs:List Bool} {xs:List V},DVs K H (bs.map D.bl) xs→xs=bs.map V.bl
 |[],_,.nil=>rfl
 |b::bs,_,.cons h t=>by
  have e:=Lx t;cases h;rw[e];rfl
theorem cnt_t(bs:List Bool):(bs.map Value.bool).countP isT=bs.count true:=by
 induction bs with
 |nil=>rfl
 |cons b bs ih=>cases b<;>simp[List.countP_cons,isT,ih]
theorem eq_t{A:Around}{s:Shared}{bs:List Bool}(y:Value)(h:y∈(bs.map Value.bool).toArray):PySem.SeqAt.EqAt A s y (.bool true) (isT y):=by
 have h:y∈bs.map Value.bool:=by simpa using h
 obtain⟨b,_,rfl⟩:=List.mem_map.mp h;have z:=PySem.SeqAt.EqAt.bool_bool (A:=A) (s:=s) b true;cases b<;>exact z
section
variable{X:Cx}{e:Expr}{ta:DTE}
theorem R8:MtM X "list.count" (fun x vs H Q=>∃(l:Addr) (bs:List Bool),x=.ref l∧vs=[.bl true]∧H l=some (.lst (bs.map V.bl))∧Q (.int (bs.count true:Nat)) H):=by
 intro pins s σ H x vs v us Q I rx rv h;obtain⟨l,bs,rfl,rfl,hH,q⟩:=h;cases rx;obtain⟨u,rfl,ru⟩:=rv.one;cases ru;obtain⟨z,its,n,r,hl,e⟩:=I.lstM hH;obtain rfl:=Lb r;refine call_meets PySem.F.slot_list_count ⟨_,e,rfl⟩ PySem.F.entry_list_count (PySem.F.args_list_count_2 _ _) (PySem.SeqAt.list_countAt l _ n _ _ (.bool true) isT) ⟨e,fun y hy=>eq_t y hy,?_⟩;rw[cnt_t];exact⟨.int _,H,I.tok _,⟨_,rfl⟩,q⟩
theorem R6:MtM X "list.index" (fun x vs H Q=>∃(l:Addr) (bs:List Bool) (j:Nat),x=.ref l∧vs=[.bl true]∧H l=some (.lst (bs.map V.bl))∧bs[j]? = some true∧(∀m,m<j→bs[m]? = some false)∧Q (.int (j:Nat)) H):=by
 intro pins s σ H x vs v us Q I rx rv h;obtain⟨l,bs,j,rfl,rfl,hH,hj,hno,q⟩:=h;cases rx;obtain⟨u,rfl,ru⟩:=rv.one;cases ru;obtain⟨z,its,n,r,hl,e⟩:=I.lstM hH;obtain rfl:=Lb r;have jl:j<bs.length:=by
  rcases Nat.lt_or_ge j bs.length with q|q
  ·exact q
  ·rw[List.getElem?_eq_none q] at hj;cases hj
 have sz:bs.length≤sizeLine:=by simpa using z
 rw[sizeLine_eq] at sz;refine call_meets PySem.F.slot_list_index ⟨_,e,rfl⟩ PySem.F.entry_list_index (PySem.F.args_list_index_2 _ _) (PySem.SeqAt.list_indexAt l _ n _ _ (.bool true) isT j (by simpa using jl) (by omega) ?_ fun m hm hlt=>?_) ⟨e,fun y hy=>eq_t y hy,?_⟩
 ·have:bs[j]=true:=by rw[List.getElem?_eq_getElem jl] at hj;exact Option.some.inj hj
  simp[isT,this]
 ·have ml:m<bs.length:=by omega
  have:=hno m hlt
  rw[List.getElem?_eq_getElem ml] at this
  have:bs[m]=false:=Option.some.inj this
  simp[isT,this]
 ·exact⟨.int _,H,I.tok _,⟨_,rfl⟩,q⟩
def nCnt(to ta:DTE):DTE:=fun σ G Q=>to σ G fun x G1=>∃p,x=.ref p∧(∃ds,G1 p=some (.lst ds))∧ta σ G1 fun y G2=>y=.bl true∧∃bs:List Bool,G2 p=some (.lst (bs.map D.bl))∧Q (.int (bs.count true:Nat)) G2
def nIdx(to ta:DTE):DTE:=fun σ G Q=>to σ G fun x G1=>∃p,x=.ref p∧(∃ds,G1 p=some (.lst ds))∧ta σ G1 fun y G2=>y=.bl true∧∃(bs:List Bool) (j:Nat),G2 p=some (.lst (bs.map D.bl))∧bs[j]? = some true∧(∀m,m<j→bs[m]? = some false)∧Q (.int j) G2
theorem Acy{o:Expr}{to:DTE}{apos cpos:Pos}(ho:QE X o to)(ha:QE X e ta)(hbase:attributeBase o "count" X.env (eval o X.env)=eval o X.env:=by rfl)(hfew:((backTo cpos (starEach [e] X.env)).all (fun x=>!x.1)&&(backToKw cpos (keywordEach [] X.env)).all (fun x=>x.1.isSome)
   && decide (([e]:List Expr).length+([]:List Keyword).length+(if ([]:List Keyword).isEmpty then 0 else 1)<30))=true:=by rfl)(hline:(apos.endLine == cpos.line)=true:=by rfl)(hs:starEach [e] X.env=(false,eval e X.env)::starEach [] X.env:=by rfl)(hplain:(backTo cpos (starEach [] X.env)).any (·.1)=false:=by rfl) :
  QE X (.Call (.Attribute o "count" apos) [e] [] cpos) (nCnt to ta):=
 (P0 PySem.F.plainAttrs_list PySem.F.slot_list_count PySem.F.type_list_count R8 ho (Ev ha qa_nil hs) hbase hfew hline hs hplain).imp fun σ H Q zz=>by
 obtain⟨σD,G,Q',rs,rg,h,cl⟩:=zz;refine⟨σD,G,_,rs,rg,h,fun d G1 zz H1 x1 rg1 v dv=>?_⟩;obtain⟨p,ep,⟨ds,eg⟩,h1⟩:=zz;subst ep;cases dv;obtain⟨xs,ex,r⟩:=rg1 p _ eg;refine⟨.inl ⟨rfl,xs,.inl (.inl ex)⟩,σD,G1,fun ds' G2=>∃y,ds'=[y]∧y=.bl true∧∃bs:List Bool,G2 p=some (.lst (bs.map D.bl))∧Q' (.int (bs.count true:Nat)) G2,rs.ext x1,rg1,?_,?_⟩
 ·show ta σD G1 fun x G1=>Ji σD G1 fun xs G2=>_;exact cast (by congr 1;funext y G2;simp[Ji]) h1
 ·rintro ds' G2 ⟨y,rfl,rfl,bs,eg2,q⟩ H2 x2 rg2 vs dvs;obtain⟨v,rfl,dv⟩:=dvs.one;cases dv;obtain⟨xs2,ex2,r2⟩:=rg2 p _ eg2;rw[Lx r2] at ex2;exact⟨p,bs,rfl,rfl,ex2,cl _ _ q _ (x1.trans x2) rg2 _ (.int _)⟩
theorem Acu{o:Expr}{to:DTE}{apos cpos:Pos}(ho:QE X o to)(ha:QE X e ta)(hbase:attributeBase o "index" X.env (eval o X.env)=eval o X.env:=by rfl)(hfew:((backTo cpos (starEach [e] X.env)).all (fun x=>!x.1)&&(backToKw cpos (keywordEach [] X.env)).all (fun x=>x.1.isSome)
   && decide (([e]:List Expr).length+([]:List Keyword).length+(if ([]:List Keyword).isEmpty then 0 else 1)<30))=true:=by rfl)(hline:(apos.endLine == cpos.line)=true:=by rfl)(hs:starEach [e] X.env=(false,eval e X.env)::starEach [] X.env:=by rfl)(hplain:(backTo cpos (starEach [] X.env)).any (·.1)=false:=by rfl) :
  QE X (.Call (.Attribute o "index" apos) [e] [] cpos) (nIdx to ta):=
 (P0 PySem.F.plainAttrs_list PySem.F.slot_list_index PySem.F.type_list_index R6 ho (Ev ha qa_nil hs) hbase hfew hline hs hplain).imp fun σ H Q zz=>by
 obtain⟨σD,G,Q',rs,rg,h,cl⟩:=zz;refine⟨σD,G,_,rs,rg,h,fun d G1 zz H1 x1 rg1 v dv=>?_⟩;obtain⟨p,ep,⟨ds,eg⟩,h1⟩:=zz;subst ep;cases dv;obtain⟨xs,ex,r⟩:=rg1 p _ eg;refine⟨.inl ⟨rfl,xs,.inl (.inl ex)⟩,σD,G1,fun ds' G2=>∃y,ds'=[y]∧y=.bl true∧∃(bs:List Bool) (j:Nat),G2 p=some (.lst (bs.map D.bl))∧bs[j]? = some true∧(∀m,m<j→bs[m]? = some false)∧Q' (.int j) G2,rs.ext x1,rg1,?_,?_⟩
 ·show ta σD G1 fun x G1=>Ji σD G1 fun xs G2=>_;exact cast (by congr 1;funext y G2;simp[Ji]) h1
 ·rintro ds' G2 ⟨y,rfl,rfl,bs,j,eg2,hj,hno,q⟩ H2 x2 rg2 vs dvs;obtain⟨v,rfl,dv⟩:=dvs.one;cases dv;obtain⟨xs2,ex2,r2⟩:=rg2 p _ eg2;rw[Lx r2] at ex2;exact⟨p,bs,j,rfl,rfl,ex2,hj,hno,cl _ _ q _ (x1.trans x2) rg2 _ (.int _)⟩
end
section
variable{P:Program}{w:World}{K:W.Frag}{mg:Str→Option Value}{base:Heap}
theorem okH{x qual:Str}{st:Stmt}{f:Addr}{fd:FuncData}{N ps:List Str}{k:Nat}{sp:DSp}(F:Fun K x qual st f fd)(S:FnScope N ps (Ad st))(len:∀ds G Q E,sp ds G Q E→ds.length=ps.length)(hbody:∀(cdv:Value) (A:Around) (outer:List Env) (s:Shared) (H:Hp) (XE:XK) (ds:List D) (G:Gp) (Q:DK) (E:DX),RoomH k (A.deeper (envOfC qual (Ad st) s.heap.objs.size f cdv))→sp ds G Q E→
   ∃t,QSs (Jy CX0 P w K mg base N qual (Ad st) f cdv A outer s H XE).nox (Bv st) t∧t { nx:=fun _ G'=>Fq Q .non G',rt:=Fq Q } (Cd N ds) G):FnH P w K mg base CX0 (k+1) f fd ps (Ak K sp):=by
 obtain⟨oc,od,kV,doc,pm,an,cdv,ct,osl,rfl,lk,hcd⟩:=F.ex;refine Aek lk hcd S (fun vs H Q E ⟨ds,G,Q',E',dv,rg,h,_⟩=>by rw[←dv.length];exact len ds G Q' E' h) fun A outer s H vs Q E hr ⟨ds,G,Q',E',dv,rg,h,cl,_⟩=>?_
 obtain⟨t,ht,hq⟩:=hbody cdv A outer s H E ds G Q' E' hr h;exact⟨_,PSs.nox ht,Cd N ds,G,_,Ea dv,rg,hq,⟨fun σD G1 ⟨G2,sb,q⟩ H1 x1 rg1 σ rs=>cl _ G2 q H1 x1 (rg1.ext' sb) _ .non,fun d G1 ⟨G2,sb,q⟩ H1 x1 rg1 v dv=>cl _ G2 q H1 x1 (rg1.ext' sb) _ dv,fun _ _ z=>z.elim,fun _ _ z=>z.elim⟩⟩
end
theorem Yr:Slot "reversed" "__init__" "object.__init__":=.of (owner:="object") (n:="__init__") (by rw[typeLookup_type,builtinLookup_eq_fast];kernel_rfl) (by decide +kernel) (by decide +kernel) (by decide +kernel)
 (by first|exact .inl (by decide +kernel)|exact .inr (by decide +kernel)) (by rw[isSubtype_type];kernel_rfl)
theorem Rq:TypeCalled "reversed" "reversed.__new__" "object.__init__":=⟨by decide +kernel,F.create_reversed,⟨_,_,F.mro_reversed⟩,F.made_reversed,by decide +kernel,F.sub_reversed_self,Yr⟩
theorem Yp:typeLookup (.type "tuple") "__reversed__" = pure none:=by rw[typeLookup_type,builtinLookup_eq_fast];kernel_rfl
def rvO(t:Addr)(i:Int):Obj:={ cls:=.type "reversed",data:=.fields #[.ref t,rawInt i] }
section
variable{P:Program}{w:World}{A:Around}{E:Value→Shared→Prop}{s:Shared}{t:Addr}{items:Array Value}
theorem Acb{Q:Value→Shared→Prop}(ht:IsTup s.heap t items)(hz:(items.size:Int)<2 ^ 63)(h:∀tk,Q (.ref s.heap.objs.size) { s with heap:=s.heap.push (rvO t ((items.size:Int)-1)),toks:=tk }) :
  wpAny (model P w) A (Builtin.«reversed.__new__» ⟨[.type "reversed",.ref t],[]⟩) (fun fin s'=>∃v,fin=.done (.ret v)∧Q v s') E s:=by
 unfold Builtin.«reversed.__new__»;refine wpAny_bind (wpAny_of_eq (newClass_reversed _) (wpAny_bind (wpAny_of_eq (a:=()) (by first|rfl|kernel_rfl) (wpAny_bind (wpAny_of_eq (a:=()) (by first|rfl|kernel_rfl) ?_)))))
 refine wpAny_bind (wpAny_specialOf ht.typeIs Yp ?_);show wpAny _ _ (_ >>= _) _ _ _
 k_delta "hasItemSlot"
 refine wpAny_bind (wpAny_bind (wpAny_isInstance (T:="tuple") (b:=false) ht.typeIs (by rw[isSubtype_type];kernel_rfl) ?_))
 show wpAny _ _ (specialOf _ _ >>= _) _ _ _;refine wpAny_bind (wpAny_specialOf ht.typeIs PySem.F.slot_tuple_getitem.lookup ?_);refine wpAny_pure ?_;show wpAny _ _ (call (Value.builtin "len") [Value.ref t] >>= _) _ _ _;refine wpAny_bind (PyProof.Rows.len_tuple ht hz ?_);refine wpAny_bind (wpAny_of_eq (a:=some (items.size:Int)) rfl ?_);refine wpAny_bind ?_;unfold Builtin.SmallTypes.newRecord;refine wpAny_newObj_type (wpAny_pure ⟨_,rfl,h _⟩)
theorem Ys{Q:Value→Shared→Prop}(ht:IsTup s.heap t items)(hz:(items.size:Int)<2 ^ 63)(h:∀tk,Q (.ref s.heap.objs.size) { s with heap:=s.heap.push (rvO t ((items.size:Int)-1)),toks:=tk }) :
  wpAny (model P w) A (call (.type "reversed") [.ref t]) Q E s:=by
 refine callType_new Rq (by decide +kernel) (F.typeCall_reversed_1 _) (F.newCall_reversed_1 _) (fun obj=>PySem.F.args_object_init_2 _ _) F.entry_reversed_new (S:=fun _ R s=>IsTup s.heap t items∧∀tk,R (.ok (.ret (.ref s.heap.objs.size))) { s with heap:=s.heap.push (rvO t ((items.size:Int)-1)),toks:=tk }) (Meets.of_wp fun prog w A R s hs=>?_) ⟨ht,fun tk=>⟨⟨_,Heap.get?_push_size _ rfl,rfl⟩,h tk⟩⟩
 exact Acb hs.1 hz hs.2
end
def IsRv(h:Heap)(a t:Addr)(i:Int):Prop:=∃o,h.get? a=some o∧o.cls=.type "reversed"∧o.data=.fields #[.ref t,rawInt i]
theorem rv_snext:Slot "reversed" "__next__" "reversed.__next__":=.of (owner:="reversed") (n:="__next__") (by rw[typeLookup_type,builtinLookup_eq_fast];kernel_rfl) (by decide +kernel) (by decide +kernel) (by decide +kernel)
 (by first|exact .inl (by decide +kernel)|exact .inr (by decide +kernel)) (by rw[isSubtype_type];kernel_rfl)
theorem My:Slot "reversed" "__iter__" "reversed.__iter__":=.of (owner:="reversed") (n:="__iter__") (by rw[typeLookup_type,builtinLookup_eq_fast];kernel_rfl) (by decide +kernel) (by decide +kernel) (by decide +kernel)
 (by first|exact .inl (by decide +kernel)|exact .inr (by decide +kernel)) (by rw[isSubtype_type];kernel_rfl)
theorem Mz:entryFor table "reversed.__next__" = some Builtin.«reversed.__next__»:=entryFor_of_tree (by kernel_rfl)
theorem Vs:entryFor table "reversed.__iter__" = some Builtin.«dict_keyiterator.__iter__»:=
 entryFor_alias (id':="dict_keyiterator.__iter__") (by kernel_rfl) (by first|rfl|decide +kernel|(unfold String.splitOn;simp +decide [String.splitOnAux])) (by decide +kernel) (by kernel_rfl)
theorem M0(a:Value):argsOk "reversed.__next__" ⟨[a],[]⟩:=by unfold argsOk;kernel_rfl
theorem Vt(a:Value):argsOk "reversed.__iter__" ⟨[a],[]⟩:=by unfold argsOk;kernel_rfl
section
variable{P:Program}{w:World}{A:Around}{E:Value→Shared→Prop}{s:Shared}{a t:Addr}{items:Array Value}
theorem IsRv.typeIs{i:Int}(x:IsRv s.heap a t i):s.TypeIs (.ref a) "reversed":=let ⟨o,ho,hc,_⟩:=x;⟨o,ho,hc⟩
theorem IsRv.at{h h':Heap}{i:Int}(x:IsRv h a t i)(k:∀o,h.get? a=some o→h'.get? a=some o):IsRv h' a t i:=let ⟨o,ho,hc⟩:=x;⟨o,k o ho,hc⟩
theorem Qc{i:Int}{Q:Value→Shared→Prop}(hit:IsRv s.heap a t i)(h:Q (.ref a) s):wpAny (model P w) A (pyIter (.ref a)) Q E s:=by
 refine wpAny_pyIter_slot hit.typeIs My (wpAny_call_entry My hit.typeIs Vs ?_ (Vt _));show wpAny _ _ (ret (.ref a)) _ _ s;exact wpAny_pure ⟨_,rfl, "reversed",_,hit.typeIs,rv_snext.lookup,h⟩
theorem Yq{i:Nat}{x:Value}{Q:Option Value→Shared→Prop}(hit:IsRv s.heap a t (i:Int))(ht:IsTup s.heap t items)(hz:(items.size:Int)<2 ^ 63)(hx:items[i]? = some x)(hQ:∀h' tk,IsRv h' a t ((i:Int)-1)→Heap.SameBut a s.heap h'→Q (some x) { s with heap:=h',toks:=tk }):wpAny (model P w) A (pyNext (.ref a)) Q E s:=by
 obtain⟨o,ho,hc,hd⟩:=id hit;have hl:i<items.size:=by
  rcases Nat.lt_or_ge i items.size with z|z
  ·exact z
  ·rw[Array.getElem?_eq_none z] at hx;cases hx
 unfold pyNext;refine wpAny_bind (wpAny_attempt (wpAny_callSpecial?_slot (name:=Str.ofString "__next__") hit.typeIs rv_snext (wpAny_call_entry rv_snext hit.typeIs Mz ?_ (M0 _))));unfold Builtin.«reversed.__next__»;refine wpAny_bind (wpAny_of_eq (a:=(Value.ref a,[])) rfl (wpAny_bind (wpAny_field ho hd (x:=.ref t) rfl (wpAny_bind (wpAny_field ho hd (x:=rawInt (i:Int)) rfl ?_)))));show wpAny _ _ (if (i:Int)<0 then _ else _) _ _ s;rw[if_neg (by omega)]
 show wpAny _ _ (specialOf (.ref t) "__getitem__" >>= _) _ _ s;refine wpAny_bind (wpAny_specialOf ht.typeIs PySem.F.slot_tuple_getitem.lookup ?_);show wpAny _ _ (mkInt (i:Int) >>= _) _ _ s;refine wpAny_bind (wpAny_mkInt (wpAny_bind (wpAny_attempt (PyProof.Rows.getItem_tuple (s:={ s with toks:=s.toks+1 }) ht (by omega) (by omega) (j:=i) ?_ hx ?_))))
 ·unfold seqIndex?;simp;omega
 refine wpAny_bind (wpAny_field (s:={ s with toks:=s.toks+1 }) ho hd (x:=rawInt (i:Int)) rfl ?_);show wpAny _ _ (setField (.ref a) 1 _ >>= _) _ _ _;refine wpAny_bind (wpAny_setField (s:={ s with toks:=s.toks+1 }) ho hd (by simp) (wpAny_pure ⟨x,rfl,wpAny_pure (hQ _ _ ⟨_,Heap.get?_update_self _ ho (Obj.isFreed_of_fields (Obj.data_mapFields hd _)),(Obj.cls_mapFields ..).trans hc,?_⟩ (Heap.SameBut.update ..))⟩))
 rw[Obj.data_mapFields hd];simp
theorem Acd{Q:Option Value→Shared→Prop}(hh:A.handled=none)(hit:IsRv s.heap a t (-1))(hQ:∀h',Heap.ExtBut a s.heap h'→Q none { s with heap:=h' }):wpAny (model P w) A (pyNext (.ref a)) Q E s:=by
 obtain⟨o,ho,hc,hd⟩:=id hit;unfold pyNext;refine wpAny_bind (wpAny_attempt (wpAny_callSpecial?_slot (name:=Str.ofString "__next__") hit.typeIs rv_snext (wpAny_call_entry rv_snext hit.typeIs Mz ?_ (M0 _))));unfold Builtin.«reversed.__next__»;refine wpAny_bind (wpAny_of_eq (a:=(Value.ref a,[])) rfl (wpAny_bind (wpAny_field ho hd (x:=.ref t) rfl (wpAny_bind (wpAny_field ho hd (x:=rawInt (-1)) rfl ?_)))));show wpAny _ _ (if (-1:Int)<0 then _ else _) _ _ s;rw[if_pos (by decide)]
 refine wpAny_bind (wpAny_rule ?_)
 k_delta "reversedEnd"
 refine wpAny_bind (wpAny_bind (wpAny_setField ho hd (by simp) ?_))
 have h1:=Heap.get?_update_self (Obj.mapFields (·.setIfInBounds 1 (rawInt (-1)))) ho (Obj.isFreed_of_fields (Obj.data_mapFields hd _));refine wpAny_setField h1 (Obj.data_mapFields hd _) (by simp) ?_
 refine wpAny_bind ?_;show wpAny _ _ (newExc (.type "StopIteration") [] >>= _) _ _ _;refine wpAny_bind ?_;simp only[newExc,newTuple];refine wpAny_bind (wpAny_newObj_type (wpAny_bind (m:=firstArgMember _ _) (wpAny_of_eq (a:=Value.none) (by first|rfl|(simp only[firstArgMember];rfl)) (wpAny_newObj_type ?_ (by size_fits)))) (by size_fits))
 simp only[raiseNew];refine wpAny_bind (wpAny_handled ?_)
 first|rw[show A.in1.handled=none from hh]|rw[hh]
 refine wpAny_bind (wpAny_pure (wpAny_throw ?_));refine wpAny_bind (wpAny_isInstance (T:="StopIteration") (b:=true) ⟨_,Heap.get?_push_size _ rfl,rfl⟩ isSubtype_stop ?_);have e0:Heap.ExtBut a s.heap ((s.heap.update a (Obj.mapFields (·.setIfInBounds 1 (rawInt (-1))))).update a (Obj.mapFields (·.setIfInBounds 0 Value.none))):=fun b o hb e=>(Heap.SameBut.update ..).extBut b o hb ((Heap.SameBut.update ..).extBut b o hb e);exact wpAny_pure (hQ _ ((e0.push _).push _))
end
def Itv(K:W.Frag)(a:Addr)(n:Nat):It:=
 ⟨fun i H=>i<n∧∃xs,SqT K H a xs∧xs.length=n,fun i H x H'=>H'=H∧∀xs,SqT K H a xs→xs[n-1-i]? = some x,fun i H=>n≤i⟩
theorem Vl{P:Program}{w:World}{K:W.Frag}{tg:Expr}(a it:Addr)(n:Nat):Turn P w K tg (Itv K a n) [it] it (fun i h=>i≤n∧IsRv h it a ((n:Int)-1-i)) where
 mem:=by simp
 obj:=fun i h st b hb=>by
  have e:b=it:=by simpa using hb
  subst e;obtain⟨_,o,e,c,d⟩:=st;exact⟨o,e,fun v z=>by rw[d] at z;cases z⟩
 keep:=fun i h h' st k=>⟨st.1,st.2.at fun o e=>k it (by simp) o e⟩
 item:=by
  intro X hP hw hK hc i pins s σ H E I hf st hg;subst hP hw hK;obtain⟨hi,xs,hq,hl⟩:=hg;obtain⟨its,rv,p,hz⟩:=I.tuple hq;have hx:xs[n-1-i]? = some (xs[n-1-i]'(by omega)):=List.getElem?_eq_getElem (by omega)
  obtain⟨u,hu,ru⟩:=rv.get hx;obtain⟨f0,f1,f2,f3,f4,f5⟩:=hf it (by simp)
  have st':IsRv s.heap it a ((n-1-i:Nat):Int):=by
   have:=st.2
   rwa [show(n:Int)-1-i=((n-1-i:Nat):Int) by omega] at this
  have hz2:((its.toArray.size:Nat):Int)<2 ^ 63:=by
   have:=rv.length
   rw[sizeLine_eq] at hz;simp only[List.size_toArray];omega
  refine Yq st' (show s.heap.IsTuple a its.toArray from p) hz2 (x:=u) (by simpa using hu) fun h' tk st2 sb=>?_
  have I1:Inv X pins σ H { s with heap:=h',toks:=tk }:=I.turned (t':=tk) (fun b o hb e=>(sb.2 b hb).trans e) f0 f1 f3 f4 f5;have st3:IsRv h' it a ((n:Int)-1-((i+1:Nat):Int)):=by
   rwa [show((n-1-i:Nat):Int)-1=(n:Int)-1-((i+1:Nat):Int) by omega] at st2
  obtain⟨o,e,c,d⟩:=id st2;exact⟨u,rfl,Mp (s:={ s with heap:=h',toks:=tk }) e c d (by decide) ⟨_,H,I1,ru,⟨rfl,fun ys hy=>by rw[I.tuple_inj hy hq];exact hx⟩,⟨hi,st3⟩,fun b hb=>(hf b hb).1⟩⟩
 done:=by
  intro X hP hw hK hc i pins s σ H E I hf st hg;subst hP hw hK;have hg:n≤i:=hg;have e:i=n:=Nat.le_antisymm st.1 hg;subst e;obtain⟨f0,f1,f2,f3,f4,f5⟩:=hf it (by simp)
  have st':IsRv s.heap it a (-1):=by
   have:=st.2
   rwa [show(i:Int)-1-i = -1 by omega] at this
  exact Acd (I.ok.hd hc) st' fun h' eb=>⟨rfl,I.turned (t':=s.toks) (fun b o hb e=>eb b o hb e) f0 f1 f3 f4 f5⟩
 self:=fun _ _ _ _ _ st h=>Qc st.2 h
theorem Xx:bootBuiltins "reversed" = some (.type "reversed"):=by decide +kernel
section
variable{X:Cx}{tg e:Expr}
def iRev(K:W.Frag)(tA:TA):TI:=fun σ H R=>tA σ H fun vs H1=>∃a xs,vs=[.ref a]∧SqT K H1 a xs∧R (Itv K a xs.length) H1
theorem Ac7{tA:TA}{p pos:Pos}(hg:Gl X "reversed")(hm:X.mg "reversed" = none)(ha:PA X [e] tA)(hs:starEach [e] X.env=[(false,eval e X.env)]:=by rfl):PI X tg (.Call (.Name "reversed" p) [e] [] pos) (iRev X.K tA):=by
 intro pins s σ H R I h;refine Call_ (Df I hg hm Xx (PyProof.Rows.callWith_type1 (thn (ha pos pins s σ H _ I h) fun us s1 ⟨vs,H1,I1,r1,q1⟩=>?_) hs rfl));obtain⟨a,xs,e,hq,q⟩:=q1;subst e;cases r1 with
 |cons r rr=>
  cases rr;cases r;obtain⟨its,rv,p,hz⟩:=I1.tuple hq;have hl:=rv.length;have hz2:((its.toArray.size:Nat):Int)<2 ^ 63:=by
   rw[sizeLine_eq] at hz;simp only[List.size_toArray];omega
  refine Ys (show s1.heap.IsTuple a its.toArray from p) hz2 fun tk=>?_;have hr:IsRv (s1.heap.push (rvO a ((its.toArray.size:Int)-1))) s1.heap.objs.size a ((xs.length:Int)-1-((0:Nat):Int)):=⟨_,Heap.get?_push_size _ rfl,rfl,by
   show Data.fields #[_,rawInt _]=_;rw[show((its.toArray.size:Nat):Int)-1=(xs.length:Int)-1-((0:Nat):Int) by simp[hl]]⟩
  refine Qc (s:={ s1 with heap:=s1.heap.push (rvO a ((its.toArray.size:Int)-1)),toks:=tk }) hr ?_;refine⟨s1.heap.objs.size,[s1.heap.objs.size],_,_,H1,rfl,I1.kept (t':=tk) fun b o e=>Heap.get?_push_of_some _ e,Vl a _ xs.length,⟨Nat.zero_le _,hr⟩,fun b hb=>?_,q⟩;have e:b=s1.heap.objs.size:=by simpa using hb
  subst e;exact I1.fpOk (Nat.le_refl _) (I1.hok.fresh (Nat.le_refl _))
end
section
variable{X:Cx}{a:Expr}{body:List Stmt}{pos:Pos}
def Abe(tA:DTA)(g:DTG)(tb:DTS):DTS:=fun D σ G=>tA σ G fun ds G1=>∃xs,ds=[.tup xs]∧Ku xs.reverse (fun _=>True) g tb D σ G1
theorem Yz{tg:Expr}{g:DTG}{tb:DTS}{tA:DTA}{p p2:Pos}(hp:PassesOwn (model X.prog X.w) X.A X.env X.xe)(hc:X.calm=true)(hm:X.mg "reversed" = none)(ha:QA X [a] tA)(hg:QG X tg g)(hb:QSs X body tb)(hgl:Gl X "reversed":=by rfl)(hst:starEach [a] X.env=[(false,eval a X.env)]:=by rfl)(hs:∀x,foldedSetIterable (.Call (.Name "reversed" p) [a] [] p2) X.env x=pure x:=by intro _;rfl) :
  QS X (.For tg (.Call (.Name "reversed" p) [a] [] p2) body [] pos) (Abe tA g tb):=(K3 hp hc (Ac7 hgl hm ha hst) hg hb hs).imp fun E σ H zz=>by
 obtain⟨σD,G,D,rs,rg,h,cl⟩:=zz;refine⟨σD,G,_,rs,rg,h,fun ds G1 zz H1 x1 rg1 vs dv=>?_⟩;obtain⟨xs,ej,L⟩:=zz;subst ej;obtain⟨v,rfl,r⟩:=dv.one;cases r with
 |@tup _ a vs e r=>
  have hl:xs.length=vs.length:=r.length;refine⟨a,vs,rfl,.inl (.inl e),Fw (J:=Itv X.K a vs.length) (rs.ext x1) rg1 (cl.go x1) (fun H' G' x' rg' _=>?_) L⟩;have e':=x'.tup _ _ e;have r':=DVs.ext x' r;refine⟨fun i hi=>⟨by simp at hi;omega,vs,.inl (.inl e'),rfl⟩,fun i x H2 hi y=>?_,by show vs.length≤_;simp[hl]⟩
  rw[List.length_reverse] at hi;obtain⟨e1,e2⟩:=y
  have:=e2 vs (.inl (.inl e'))
  obtain⟨d,hd,dx⟩:=r'.get' this;refine⟨e1,d,?_,dx⟩;rw[List.getElem?_reverse (by omega),hl]
  exact hd
end
end D3
namespace D3
open PySem PySem.Spec
open PyProof.Rows hiding St
open L2 hiding St
open PySem.W (kdl_call kdl_dict)
section
variable{P:Program}{w:World}{A:Around}{E:Value→Shared→Prop}{s:Shared}
theorem Vm{l:Addr}{vs:List Value}{ns:List Int}{Q:Value→Shared→Prop}(hh:A.handled=none)(hl:s.heap.IsList l vs.toArray)(hi:IntsAre vs ns)(h:∀(h':Heap) (t tk:Tok),(∀b o,s.heap.get? b=some o→h'.get? b=some o)→Q (.int ns.sum t) { s with heap:=h',toks:=tk }):wpAny (model P w) A (call (.builtin "sum") [.ref l]) Q E s:=by
 obtain⟨xs,e⟩:=hi.allInts.items;have hns:ns=xs.toList.map (·.1):=by rw[←hi.numsOf,←nums_intItems,←e]
 rw[e] at hl;refine sum_intListG hh hl fun h' tk t' hk=>?_
 have:=h h' t' tk hk
 rw[preSum_eq,List.take_of_length_le (by simp),←hns]
 exact this
theorem Ul(ns:List Int):∀j,j≤ns.length→preSum (fun i=>ns.getD i 0) j=(ns.take j).sum
 |0,_=>by simp[preSum]
 |j+1,h=>by
  have hj:j<ns.length:=by omega
  have e:ns.take (j+1)=ns.take j++[ns[j]]:=by rw[List.take_add_one,List.getElem?_eq_getElem hj];rfl
  have e2:ns.getD j 0=ns[j]:=by simp[List.getD,List.getElem?_eq_getElem hj]
  rw[preSum,Ul ns j (by omega),e,List.sum_append,e2]
  simp
end
theorem Uq{α β:Type}{F:α→β→Prop}:∀{l:List α} {m:List β},l.length=m.length→(∀(i:Nat) a b,l[i]? = some a→m[i]? = some b→F a b)→Paired F l m
 |[],[],_,_=>.nil
 |[],_::_,h,_=>by cases h
 |_::_,[],h,_=>by cases h
 |_::_,_::_,h,k=>.cons (k 0 _ _ rfl rfl) (Uq (by simpa using h) fun i a b h1 h2=>k (i+1) a b h1 h2)
theorem Mo{κ:Type}:∀{kvs:List (κ×V)} {vs:List (κ×Value)} (i:Nat) {q:κ×Value},KV kvs vs→vs[i]? = some q→∃p,kvs[i]? = some p∧p.1=q.1∧RelV p.2 q.2
 |_,_,0,_,.cons h _,e=>by cases e;exact⟨_,rfl,h⟩
 |_,_,i+1,_,.cons _ t,e=>Mo i t e
 |_,_,0,_,.nil,e=>by cases e
 |_,_,_+1,_,.nil,e=>by cases e
section
variable{X:Cx}{o e:Expr}{to:DTE}{apos cpos pos p:Pos}
theorem Ss(hc:X.calm=true):CallR X (.builtin "sum") (fun xs H Q=>∃(l:Addr) (ns:List Int),xs=[.ref l]∧SqL X.K H l (ns.map V.int)∧Q (.int ns.sum) H):=by
 intro pins s σ H xs us Q I r h;obtain⟨l,ns,rfl,hl,q⟩:=h;obtain⟨u,rfl,rx⟩:=By r;cases rx;obtain⟨its,rv,pl,_⟩:=I.list hl;exact Vm (I.ok.hd hc) pl.isList (D3.Eb rv) fun h' t tk k=>⟨.int _,H,I.kept k,⟨t,rfl⟩,q⟩
theorem Aep(hc:X.calm=true):QC X (.builtin "sum") (fun ds G Q=>∃d,ds=[d]∧∃p,d=.ref p∧∃ns:List Int,G p=some (.lst (ns.map D.int))∧Q (.int ns.sum) G):=(Ss hc).imp fun xs H Q zz=>by
 obtain⟨ds,G,Q',dv,rg,⟨d,e,p,ep,ns,eg,q⟩,cl⟩:=zz;subst e ep;obtain⟨v,rfl,h⟩:=dv.one;cases h;obtain⟨ys,eh,r⟩:=rg p _ eg;rw[Dc r] at eh;exact⟨p,ns,rfl,.inl (.inl eh),cl _ _ q _ (Ext.refl H) rg _ (.int _)⟩
theorem Sr(hc:X.calm=true):CallR X (.builtin "sum") (fun xs H Q=>∃(v a:Addr) (kvs:List (Key×V)) (ns:List Int),xs=[.ref v]∧H v=some (.frz (Tr a) topO)∧H a=some (.dK kvs)∧kvs.map (·.2)=ns.map V.int∧Q (.int ns.sum) H):=by
 intro pins s σ H xs us Q I r h;obtain⟨v,a,kvs,ns,rfl,hv,ha,hn,q⟩:=h;obtain⟨u,rfl,rx⟩:=By r;cases rx;obtain⟨_,hd,vs,rel,dd⟩:=Ee I.hok ha;obtain⟨ep,hat⟩:=dd.dictAt;have hvv:s.heap.IsValuesView v a:=⟨_,(I.hok v _ hv).1,rfl,rfl⟩;have hh:=I.ok.hd hc;have hlen:vs.length=ns.length:=by
  have h1:kvs.length=vs.length:=Paired.length rel;have h2:=congrArg List.length hn;simp only[List.length_map] at h2;omega
 refine call_sum_walkG (wpAny_pyIter_values hvv hat ⟨_,_,_,_,_,_,fun i=>ns.getD i 0,rfl,Walks.dictValues (A:=X.A.in1) hh _ a (Nat.ne_of_lt hat.lt_size) vs ep,⟨⟨_,Heap.get?_push_size _ rfl,rfl,rfl⟩,hat.push _⟩,fun b hb=>?_,fun i z ⟨k,hz⟩=>?_,fun h' tk t' hk=>?_⟩)
 ·show b<(s.heap.push _).objs.size;rw[Heap.size_push];simp only[List.mem_cons,List.not_mem_nil,or_false] at hb;rcases hb with rfl|rfl
  ·exact Nat.lt_succ_self _
  ·exact Nat.lt_succ_of_lt hat.lt_size
 ·obtain⟨p,e1,e2,e3⟩:=Mo i rel hz;have e4:(kvs.map (·.2))[i]? = some p.2:=by rw[List.getElem?_map,e1];rfl
  rw[hn,List.getElem?_map] at e4;obtain⟨n,e5,e6⟩:=Option.map_eq_some_iff.mp e4;rw[←e6] at e3;obtain⟨t,e7⟩:=e3;exact⟨t,by have e8:z=Value.int n t:=e7;rw[e8];simp[List.getD,e5]⟩
 ·rw[hlen,Ul ns _ (Nat.le_refl _),List.take_length];exact⟨.int _,H,I.kept (t':=tk) fun b o e=>hk b o (by simp;exact Nat.ne_of_lt (Heap.lt_size e)) (Heap.get?_push_of_some _ e),⟨t',rfl⟩,q⟩
def Aa5(to:DTE):DTE:=fun σ G Q=>to σ G fun x G1=>∃p,x=.ref p∧∃kvs,G1 p=some (.dkk kvs)∧∃ns:List Int,kvs.map (·.2)=ns.map D.int∧Q (.int ns.sum) G1
theorem Nm{K:W.Frag}{H:Hp}:∀{kvs:List (Key×D)} {ks:List (Key×V)} {ns:List Int},Paired (fun(p:Key×D) (q:Key×V)=>p.1=q.1∧DV K H p.2 q.2) kvs ks→kvs.map (·.2)=ns.map D.int→ks.map (·.2)=ns.map V.int
 |[],_,ns,.nil,e=>by
  cases ns with
  |nil=>rfl
  |cons n r=>cases e
 |(k,d)::r,_,ns,.cons (b:=q) h t,e=>by
  cases ns with
  |nil=>cases e
  |cons n ns=>
   simp only[List.map_cons,List.cons.injEq] at e ⊢;have h2:=h.2;rw[e.1] at h2;cases q with
   |mk k' v=>
    dsimp only at h2 ⊢;cases h2;exact⟨rfl,Nm t e.2⟩
theorem Acp(hc:X.calm=true)(hm:X.mg "sum" = none)(ho:QE X o to)(hg:Gl X "sum":=by rfl)(hbase:attributeBase o "values" X.env (eval o X.env)=eval o X.env:=by rfl)(hline:(apos.endLine == cpos.line)=true:=by rfl)(he:starEach [.Call (.Attribute o "values" apos) [] [] cpos] X.env=(false,eval (.Call (.Attribute o "values" apos) [] [] cpos) X.env)::starEach [] X.env:=by rfl)(hpl:(backTo pos (starEach [] X.env)).any (·.1)=false:=by rfl) :
  QE X (.Call (.Name "sum" p) [.Call (.Attribute o "values" apos) [] [] cpos] [] pos) (Aa5 to):=
 (M8 (Sr hc) hg hm (by decide +kernel) (Dg (Rv ho hbase hline) pa_nil he) (by decide) (by decide) he hpl).imp fun σ H Q zz=>by
 obtain⟨σD,G,Q',rs,rg,h,cl⟩:=zz;refine⟨σD,G,_,rs,rg,h,fun d G1 zz H1 x1 rg1 v dv=>?_⟩;obtain⟨p,ep,kvs,eg,ns,en,q⟩:=zz;subst ep;cases dv;obtain⟨ks,ek,r⟩:=rg1 p _ eg;refine⟨p,ks,rfl,ek,fun v hv=>⟨v,p,ks,ns,rfl,Af,by rw[Ae (Aj ek hv)];exact ek,Nm r en,cl _ _ q _ (x1.trans (Ext.fresh hv)) (rg1.tup hv) _ (.int _)⟩⟩
theorem No{K:W.Frag}{H:Hp}:∀{kvs:List (Key×D)} {ks:List (Key×V)},Paired (fun(p:Key×D) (q:Key×V)=>p.1=q.1∧DV K H p.2 q.2) kvs ks→∀{H':Hp},DVs K H' (kvs.map fun p=>kD p.1) (ks.map fun p=>kV p.1)
 |_,_,.nil,_=>.nil
 |(k,d)::_,(k',v)::_,.cons h t,_=>by
  have e:k=k':=h.1;subst e;refine .cons ?_ (No t);cases k with
  |inl i=>exact .int i
  |inr x=>exact .str x
theorem Pm(hc:X.calm=true):CallR X (.type "list") (fun xs H Q=>∃(a:Addr) (kvs:List (Key×V)),xs=[.ref a]∧H a=some (.dK kvs)∧∀l,H l=none→Q (.ref l) (upd H l (.lst (kvs.map fun p=>kV p.1)))):=by
 intro pins s σ H xs us Q I r h;obtain⟨a,kvs,rfl,ha,q⟩:=h;obtain⟨u,rfl,rx⟩:=By r;cases rx;obtain⟨hz,hd,vs,rel,dd⟩:=Ee I.hok ha;obtain⟨ep,hat⟩:=dd.dictAt;have hl:kvs.length=vs.length:=Paired.length rel;refine kdl_call (kdl_dict (knd:=Ap X.prog X.w) (kvs:=vs) (ep:=ep) hd) (I.ok.hd hc) hat (by omega) fun h' tk acc c hk hS hI=>?_
 have rv:Vals (kvs.map fun p=>kV p.1) acc.toList:=by
  refine Uq (by have:=hI.1;simp only[List.length_map,Array.length_toList];omega) fun i x y e1 e2=>?_
  obtain⟨k,z,h1,h2⟩:=hI.2 i y (by rw[←Array.getElem?_toList];exact e2)
  obtain⟨p,h3,h4,_⟩:=Mo i rel h1;rw[List.getElem?_map,h3] at e1;cases e1;dsimp only at h4 ⊢;rw[h4];rcases Az h2 with ⟨j,t,rfl,rfl⟩|⟨j,t,rfl,rfl⟩
  ·exact⟨t,rfl⟩
  ·exact⟨t,rfl⟩
 refine⟨.ref s.heap.objs.size,_,I.laid (t':=tk) hk (Nat.le_refl _) (show ObjOk X.prog X.w _ h' _ (.lst (kvs.map fun p=>kV p.1)) from⟨by rw[List.length_map];exact hz,acc.toList,c,rv,by simpa using hS⟩),rfl,q _ (I.hok.fresh (Nat.le_refl _))⟩
theorem Q7(hc:X.calm=true):QC X (.type "list") (fun ds G Q=>∃d,ds=[d]∧∃p,d=.ref p∧∃kvs,G p=some (.dkk kvs)∧∀l,G l=none→Q (.ref l) (Ab G l (.lst (kvs.map fun q=>kD q.1)))):=(Pm hc).imp fun xs H Q zz=>by
 obtain⟨ds,G,Q',dv,rg,⟨d,e,p,ep,kvs,eg,q⟩,cl⟩:=zz;subst e ep;obtain⟨v,rfl,h⟩:=dv.one;cases h;obtain⟨ks,ek,r⟩:=rg p _ eg;exact⟨p,ks,rfl,ek,fun l hl=>cl _ _ (q l (rg.free hl)) _ (Ext.fresh hl) (rg.new hl ⟨_,Af,No r⟩) _ (.ref l)⟩
theorem Q1{K:W.Frag}{H:Hp}:∀{ds:List D} {vs:List V},DVs K H ds vs→DVs K H ds.reverse vs.reverse
 |_,_,.nil=>.nil
 |_,_,.cons h t=>by rw[List.reverse_cons,List.reverse_cons];exact(Q1 t).append (.cons h .nil)
def Aa7(to:DTE):DTE:=fun σ G Q=>to σ G fun x G1=>∃p,x=.ref p∧∃ds,G1 p=some (.lst ds)∧Q .non (Ab G1 p (.lst ds.reverse))
theorem Acr(ho:QE X o to)(hbase:attributeBase o "reverse" X.env (eval o X.env)=eval o X.env:=by rfl)(hline:(apos.endLine == cpos.line)=true:=by rfl):QE X (.Call (.Attribute o "reverse" apos) [] [] cpos) (Aa7 to):=
 (Adk PySem.F.plainAttrs_list PySem.F.slot_list_reverse PySem.F.type_list_reverse Pa ho hbase hline).imp fun σ H Q zz=>by
 obtain⟨σD,G,Q',rs,rg,h,cl⟩:=zz;refine⟨σD,G,_,rs,rg,h,fun d G1 zz H1 x1 rg1 v dv=>?_⟩;obtain⟨p,ep,ds,eg,q⟩:=zz;subst ep;cases dv;obtain⟨xs,ex,r⟩:=rg1 p _ eg;refine⟨.inl ⟨rfl,xs,.inl (.inl ex)⟩,p,xs,rfl,rfl,ex,cl _ _ q _ (x1.trans (C3 ex)) (rg1.lstw ex (Q1 r)) _ .non⟩
end
end D3
namespace D3
open PySem PySem.Spec
open PyProof.Rows
def Tq(P:Program)(w:World)(A:Around)(E:Value→Shared→Prop)(s:Shared)(kd:SortKind)(ok:Keyed→Prop)(rk:Keyed→Int):Prop:=
 ∀(x y:Keyed) (st:SortSt) (Q:Option Bool→SortSt→Prop),kindOf st=kd→ok x→ok y→Q (some (decide (rk x<rk y))) st→wpS (model P w) A E s (lt' x y) Q st
def Kq(rk:Keyed→Int)(arr:Array Keyed)(i:Nat):Int:=rk (arr.getD i (.none,.none))
section
variable{P:Program}{w:World}{A:Around}{E:Value→Shared→Prop}{s:Shared}{kd:SortKind}{ok:Keyed→Prop}{rk:Keyed→Int}
theorem Nn{arr:Array Keyed}{i:Nat}{st:SortSt}{Q:Keyed→SortSt→Prop}(h:i<arr.size)(q:Q (arr.getD i (.none,.none)) st):wpS (model P w) A E s (elem' arr i) Q st:=by
 have e:arr[i]? = some (arr.getD i (.none,.none)):=by simp[h]
 rw[elem'_eq,e];exact wpS_pure q
theorem ok_at{arr:Array Keyed}{i:Nat}(h:i<arr.size)(okA:∀x∈arr,ok x):ok (arr.getD i (.none,.none)):=by
 have e:arr.getD i (.none,.none)=arr[i]:=by simp[h]
 rw[e];exact okA _ (Array.getElem_mem h)
end
end D3
namespace D3
section
variable{α:Type}{rk:α→Int}
def Up(rk:α→Int)(l:List α):Prop:=l.Pairwise fun x y=>rk x≤rk y
def Merged(rk:α→Int)(la lb res:List α):Prop:=res.Perm (la++lb)∧Up rk res
theorem Yh{l:List α}(u:Up (fun x=>- rk x) l):Up rk l.reverse:=by
 rw[Up,List.pairwise_reverse];exact u.imp fun {a b} h=>by have h : - rk a≤- rk b:=h;omega
theorem Merged.back{la lb res:List α}(h:Merged (fun x=>- rk x) la.reverse lb.reverse res):Merged rk la lb res.reverse:=by
 refine⟨?_,Yh h.2⟩
 have:=h.1
 rw[←List.reverse_append] at this;exact(List.reverse_perm res).trans (this.trans ((List.reverse_perm _).trans List.perm_append_comm))
end
end D3
namespace D3
open PySem PySem.Spec
open PyProof.Rows
section
variable{rk:Keyed→Int}{a b out:Array Keyed}{ia ib k:Nat}
theorem Op{a:Array Keyed}{i:Nat}(h:i<a.size):Kq rk a i=rk (a.toList[i]'(by simpa using h)):=by
 unfold Kq;simp[h]
end
structure Like(st st':SortSt):Prop where
 kind:kindOf st'=kindOf st
 arr:arrOf st'=arrOf st
 pend:pendingOf st'=pendingOf st
 failed:failedOf st'=failedOf st
theorem Like.trans{st st' st'':SortSt}(h:Like st st')(h2:Like st' st''):Like st st'':=⟨h2.kind.trans h.kind,h2.arr.trans h.arr,h2.pend.trans h.pend,h2.failed.trans h.failed⟩
section
variable{P:Program}{w:World}{A:Around}{E:Value→Shared→Prop}{s:Shared}{kd:SortKind}{ok:Keyed→Prop}{rk:Keyed→Int}
theorem Hc{M:Model}{α:Type}{c:Prop}[Decidable c]{x y:StateT SortSt Sem α}{Q:α→SortSt→Prop}{st:SortSt}(h1:c→wpS M A E s x Q st)(h2:¬c→wpS M A E s y Q st):wpS M A E s (if c then x else y) Q st:=by
 by_cases z:c
 ·rw[if_pos z];exact h1 z
 ·rw[if_neg z];exact h2 z
end
section
variable{rk:Keyed→Int}{a b out:Array Keyed}{na nb:Nat}
end
section
variable{P:Program}{w:World}{A:Around}{E:Value→Shared→Prop}{s:Shared}{kd:SortKind}{ok:Keyed→Prop}{rk:Keyed→Int}
end
def Kj:Nat→Nat→StateT SortSt Sem (Option Nat):=sortPriv% PySem.Builtin.countRun
structure Bas(rk:Keyed→Int)(kd:SortKind)(ok:Keyed→Prop)(a0:Array Keyed)(st:SortSt):Prop where
 kind:kindOf st=kd
 perm:(arrOf st).Perm a0
 fail:failedOf st=none
 okA:∀x∈a0,ok x
 dist:(a0.toList.map rk).Nodup
section
variable{P:Program}{w:World}{A:Around}{E:Value→Shared→Prop}{s:Shared}{kd:SortKind}{ok:Keyed→Prop}{rk:Keyed→Int}{a0:Array Keyed}{st:SortSt}
theorem Bas.size(b:Bas rk kd ok a0 st):(arrOf st).size=a0.size:=b.perm.size_eq
theorem Bas.oks(b:Bas rk kd ok a0 st):∀x∈arrOf st,ok x:=fun x hx=>b.okA x (b.perm.mem_iff.mp hx)
theorem Bas.ne(b:Bas rk kd ok a0 st){i j:Nat}(hij:i<j)(hj:j<(arrOf st).size):Kq rk (arrOf st) i≠Kq rk (arrOf st) j:=by
 have nd:((arrOf st).toList.map rk).Nodup:=((Array.perm_iff_toList_perm.mp b.perm).map rk).nodup_iff.mpr b.dist;rw[Op (show i<(arrOf st).size by omega),Op hj]
 have:=List.pairwise_iff_getElem.mp nd i j (by simp;omega) (by simp;omega) hij
 simpa using this
theorem W6{i j:Nat}{Q:Option Bool→SortSt→Prop}(ask:Tq P w A E s kd ok rk)(b:Bas rk kd ok a0 st)(hi:i<a0.size)(hj:j<a0.size)(q:Q (some (decide (Kq rk (arrOf st) i<Kq rk (arrOf st) j))) st):wpS (model P w) A E s (ltAt' i j) Q st:=by
 have e:=b.size;rw[ltAt'_eq];refine wpS_bind (wpS_get ?_);refine wpS_bind (Nn (by omega) (wpS_bind (Nn (by omega) ?_)))
 exact ask _ _ _ _ b.kind (ok_at (by omega) b.oks) (ok_at (by omega) b.oks) q
structure Ahead(lo:Nat)(st st':SortSt):Prop where
 at_:∀i,i<lo→(arrOf st')[i]? = (arrOf st)[i]?
 pend:pendingOf st'=pendingOf st
theorem Ahead.trans{lo:Nat}{st st' st'':SortSt}(h:Ahead lo st st')(g:Ahead lo st' st''):Ahead lo st st'':=⟨fun i hi=>(g.at_ i hi).trans (h.at_ i hi),g.pend.trans h.pend⟩
end
section
variable{P:Program}{w:World}{A:Around}{E:Value→Shared→Prop}{s:Shared}{kd:SortKind}{ok:Keyed→Prop}{rk:Keyed→Int}
def PairAt(h:Heap)(v:Value)(ij:Int×Int):Prop:=∃a o t u n,v=.ref a∧h.get? a=some o∧o.cls=.type "tuple"∧o.data=.seq #[.int ij.1 t,.int ij.2 u] n
end
def RawD(h:Heap)(d:Addr)(es:Array DictEntry)(ep:Nat):Prop:=∃o,h.get? d=some o∧o.ExactDict∧o.data=.dict es ep
theorem RawD.keep{h g:Heap}{d:Addr}{es:Array DictEntry}{ep:Nat}(r:RawD h d es ep)(k:∀o,h.get? d=some o→g.get? d=some o):RawD g d es ep:=let ⟨o,a,b⟩:=r;⟨o,k o a,b⟩
theorem RawD.lt{h:Heap}{d:Addr}{es:Array DictEntry}{ep:Nat}(r:RawD h d es ep):d<h.objs.size:=let ⟨_,a,_⟩:=r;Heap.lt_size a
section
variable{P:Program}{w:World}{A:Around}{E:Value→Shared→Prop}{s:Shared}{d it:Addr}{es:Array DictEntry}{ep i:Nat}
theorem RawD.ty(r:RawD s.heap d es ep):s.TypeIs (.ref d) "dict":=let ⟨o,a,b,_⟩:=r;⟨o,a,b.1⟩
end
end D3
namespace D3
open PySem PySem.Spec
open PyProof.Rows hiding St
open L2 hiding St
section
variable{P:Program}{w:World}{A:Around}{E:Value→Shared→Prop}{s:Shared}{d:Addr}{es:Array DictEntry}{ep:Nat}
end
def T7(k:Int×Int):List Key:=[.inl k.1,.inl k.2]
def Bc(k:Int×Int):D:=.tup [.int k.1,.int k.2]
def A6(a b:Int×Int):Prop:=a.1<b.1∨(a.1=b.1∧a.2<b.2)
open Classical in
section
variable{X:Cx}
end
section
variable{X:Cx}{k:Nat}
theorem Uj(hr:Room k X.A):X.A.units+1<cLine:=by have:=hr.un;omega
end
theorem Eh:entryFor table "dict.update.loop" = some Builtin.«dict.update.loop»:=entryFor_of_tree (by kernel_rfl)
theorem B5:plainId "dict.update.loop" = true:=by decide +kernel
theorem L9:typeLookup (.type "list") "keys" = pure none:=by rw[typeLookup_type,builtinLookup_eq_fast];kernel_rfl
theorem N2{P:Program}{w:World}{A:Around}{E:Value→Shared→Prop}{s:Shared}{a:Addr}{o:Obj}{xs:Array Value}{k:Nat}{Q:Option Value→Shared→Prop}(hx:s.heap.get? a=some o)(hc:o.cls=.type "list")(hdat:o.data=.seq xs k)(hd:o.dict=none)(hA:A.handled=none)(h:∀h' tk,(∀b o,s.heap.get? b=some o→h'.get? b=some o)→Q none { s with heap:=h',toks:=tk }):wpAny (model P w) A (getAttr? (.ref a) "keys") Q E s:=by
 obtain⟨c,dct,dat,sl⟩:=o;simp only at hc hdat hd;subst hc hdat hd;obtain⟨hp,g,d,tk,os⟩:=s;have hT:∀tk',(⟨hp,g,d,tk',os⟩:Shared).TypeIs (.ref a) "list":=fun _=>⟨_,hx,rfl⟩;have f1:=sub_AttributeError;have f3:=F.slot_list_getattribute.lookup;have f4:=F.slot_list_getattribute.bind (.ref a);have f5:=am_list_getattr_none;have miss:=meets_getattribute_miss_list a xs k sl "keys" (hmiss:=L9) (hname:=by decide)
 unfold getAttr? getAttrBy? getAttrBy
 repeat (any_goals (first|assumption|exact hT _|((with_reducible show wpAny _ _ (call (Value.builtin "list.__getattribute__") _ _) _ _ _);refine call_meets F.slot_list_getattribute (hT _) am_entry_list_getattribute (F.args_list_getattribute_2 _ _) (miss _) ⟨hx,hA,fun h' tk' e hx'=>?_⟩)|wp_step))
 obtain⟨t',u',he⟩:=hx'.there;show wpAny _ _ (getattributeRaised _ _ _ _ _ _ _) _ _ _;unfold getattributeRaised;have hE:∀tk',(⟨h',g,d,tk',os⟩:Shared).TypeIs (.ref e) "AttributeError":=fun _=>⟨_,he,rfl⟩
 repeat (any_goals (first|assumption|exact hE _|exact h _ _ hx'.of.keeps|wp_step))
theorem Bf{α β:Type}{R:α→β→Prop}:∀{as:List α} {bs:List β} {i:Nat} {a:α},Paired R as bs→as[i]? = some a→∃b,bs[i]? = some b∧R a b
 |_,_,_,_,.nil,e=>by simp at e
 |_,_,0,_,.cons h _,e=>by simp at e;subst e;exact⟨_,rfl,h⟩
 |_,_,i+1,a,.cons _ t,e=>by
  obtain⟨b,h1,h2⟩:=Bf (i:=i) (a:=a) t (by simpa using e)
  exact⟨b,by simpa using h1,h2⟩
section
variable{X:Cx}{pins:List (Addr×Obj)}{σ:L2.St}{H:Hp}{p a it:Addr}{ys:List V}{es:List (List Key×V)}
end
section
variable{X:Cx}{n:Nat}{a b:Expr}{ta tb:DTE}{pos:Pos}
end
def fiv(m i:Nat):Nat:=(i*5+1) % (m+1)
def orb(m:Nat):Nat→Nat→List Nat
 |0,_=>[]
 |n+1,i=>i::orb m n (fiv m i)
def Oc(m:Nat):Nat→Nat→Nat
 |0,i=>i
 |n+1,i=>Oc m n (fiv m i)
theorem Ln(m:Nat):∀(n i e:Nat),e∈orb m n i→∃k,k<n∧Oc m k i=e
 |0,_,_,h=>by simp[orb] at h
 |n+1,i,e,h=>by
  rcases List.mem_cons.mp h with rfl|h
  ·exact⟨0,by omega,rfl⟩
  ·obtain⟨k,hk,e⟩:=Ln m n _ e h;exact⟨k+1,by omega,e⟩
theorem Fb(m:Nat):∀(a b i:Nat),Oc m (a+b) i=Oc m b (Oc m a i)
 |0,b,i=>by rw[Nat.zero_add];rfl
 |a+1,b,i=>by rw[show a+1+b=(a+b)+1 by omega];exact Fb m a b _
structure Round(m:Nat):Prop where
 all:∀e,e<m+1→e∈orb m (m+1) 0
 rnd:Oc m (m+1) 0=0
theorem Round.to{m:Nat}(R:Round m){i e:Nat}(hi:i≤m)(he:e≤m):∃k,k≤m∧Oc m k i=e:=by
 obtain⟨a,ha,ea⟩:=Ln m _ _ _ (R.all i (by omega))
 obtain⟨b,hb,eb⟩:=Ln m _ _ _ (R.all e (by omega))
 by_cases h:a≤b
 ·refine⟨b-a,by omega,?_⟩
  rw[←ea,←Fb,show a+(b-a)=b by omega,eb]
 ·refine⟨(m+1-a)+b,by omega,?_⟩
  rw[←ea,←Fb,show a+(m+1-a+b)=(m+1)+b by omega,Fb,R.rnd,eb]
def cn(n:Nat):Int×Int:=(((n / 9:Nat):Int),((n % 9:Nat):Int))
structure SOkC(w:World)(es:Array (Int×Value))(t:SetTable)(L:List (Int×Value)):Prop where
 tok:TOk w t
 fit:t.fits es.size=true
 pm:es.toList.Perm L
 bnd:∀x∈t.place.toList,x≤t.mask
 msk:t.mask=7∧L.length≤4∨t.mask=31∧L.length≤18∨t.mask=127∧L.length≤76∨t.mask=511∧L.length≤300
section
variable{P:Program}{w:World}{A:Around}{E:Value→Shared→Prop}{s:Shared}{es:Array (Int×Value)}{t:SetTable}{L:List (Int×Value)}
theorem SOkC.len(h:SOkC w es t L):es.size=L.length:=by rw[←h.pm.length_eq,Array.length_toList]
theorem SOkC.base(h:SOkC w es t L):SBase w es t:=⟨h.tok,h.fit,by rw[h.len];have:=h.msk;show L.length<4096;omega⟩
end
section
variable{P:Program}{w:World}{A:Around}{R:Result→Shared→Prop}{E:Value→Shared→Prop}{s:Shared}
def AreC(P:Program)(w:World)(h:Heap)(cs:List (Int×Int))(vs:List Value)(no:List Addr):Prop:=∀p∈cs.zip vs,∃b,p.2=.ref b∧b ∉ no∧IsTupleKey (intKind P w) h [p.1.1,p.1.2] b
theorem AreC.keep{h g:Heap}{cs:List (Int×Int)}{vs:List Value}{no:List Addr}(a:AreC P w h cs vs no)(k:∀b o,b ∉ no→h.get? b=some o→g.get? b=some o):AreC P w g cs vs no:=fun p hp=>by
 obtain⟨b,e,hn,o,items,n,ho,hr⟩:=a p hp;exact⟨b,e,hn,o,items,n,k b o hn ho,hr⟩
end
section
variable{P:Program}{w:World}{A:Around}{E:Value→Shared→Prop}{s:Shared}
end
def Ez(H:Hp)(bs:List Addr)(cs:List (Int×Int)):Prop:=Paired (fun b m=>H b=some (.tup [.int m.1,.int m.2])) bs cs
section
variable{X:Cx}{pins:List (Addr×Obj)}{σ:L2.St}{H:Hp}{s:Shared}{bs:List Addr}{cs:List (Int×Int)}
theorem Wo(I:Inv X pins σ H s){b:Addr}{m:Int×Int}(e:H b=some (.tup [.int m.1,.int m.2])):PairAt s.heap (.ref b) m:=by
 obtain⟨_,its,rv,ox,hx,hc,n,hd⟩:=(show ObjOk X.prog X.w H s.heap b (.tup _) from I.hok _ _ e);obtain⟨_,_,rfl,⟨t1,rfl⟩,⟨t2,rfl⟩⟩:=Es rv;exact⟨_,ox,t1,t2,n,rfl,hx,hc,hd⟩
end
section
variable{X:Cx}
theorem Fz{K:W.Frag}{H:Hp}:∀{cs:List (Int×Int)} {xs:List V},DVs K H (cs.map Bc) xs→∃bs:List Addr,xs=bs.map V.ref∧Ez H bs cs
 |[],_,.nil=>⟨[],rfl,.nil⟩
 |c::r,_,.cons (.tup (a:=a) e z) t=>by
  obtain⟨bs,e1,c1⟩:=Fz t;cases z with
  |cons h1 t1=>
   cases h1;cases t1 with
   |cons h2 t2=>
    cases h2;cases t2;exact⟨a::bs,by rw[e1];rfl,.cons e c1⟩
end
section
variable{X:Cx}{e:Expr}{te:DTE}{pos:Pos}{n:Nat}
end
def A5:List Int→List Int→Bool
 |[],[]=>false
 |[],_::_=>true
 |_::_,[]=>false
 |x::r,y::q=>if x=y then A5 r q else decide (x<y)
section
variable{P:Program}{w:World}{A:Around}{E:Value→Shared→Prop}{s:Shared}
theorem Jk{x y:List Int}{a b:Addr}{Q:Fin→Shared→Prop}(hx:IsTupleKey (intKind P w) s.heap x a)(hy:IsTupleKey (intKind P w) s.heap y b)(h:Q (.done (.ret (.bool (A5 x y)))) s) :
  wpAny (model P w) A (Builtin.«tuple.__lt__» ⟨[.ref a,.ref b],[]⟩) Q E s:=by
 have hTb:=hy.typeIs;obtain⟨oa,xs,na,hoa,_,hda,hia⟩:=hx;obtain⟨ob,ys,nb,hob,_,hdb,hib⟩:=hy;show wpAny _ _ (isInstance (.ref b) (.type "tuple") >>= _) _ _ s;refine wpAny_bind (wpAny_isInstance hTb isSubtype_tuple_tuple ?_);simp only[Bool.not_true,Bool.false_eq_true,if_false];refine wpAny_bind (wpAny_tupleItemsOf hoa hda ?_);refine wpAny_bind (wpAny_tupleItemsOf hob hdb ?_);refine wpAny_bind ?_;refine wpAny_forIn_list _
  (fun rest r s'=>r.1=none∧s'=s∧∃x' y' xs' ys',rest=List.zip xs' ys'∧ItemsAre (intKind P w) x' xs'∧ItemsAre (intKind P w) y' ys'∧A5 x' y'=A5 x y∧decide (xs'.length<ys'.length)=decide (xs.size<ys.size))
  _ ?_ ?_ _ _ ⟨rfl,rfl,x,y,xs.toList,ys.toList,rfl,hia,hib,rfl,by simp⟩
 ·rintro⟨u,v⟩ rest r s' ⟨hr,rfl,x',y',xs',ys',hz,hx',hy',hdec,hlen⟩;cases hx' with
  |nil=>simp at hz
  |@cons k1 u' x'' xs'' h1 hx''=>
   cases hy' with
   |nil=>simp at hz
   |@cons k2 v' y'' ys'' h2 hy''=>
    simp only[List.zip_cons_cons,List.cons.injEq,Prod.mk.injEq] at hz;obtain⟨⟨rfl,rfl⟩,rfl⟩:=hz;refine wpAny_bind ((intKind P w).eqBool (a:=k1) (b:=k2) h1 h2 ?_)
    by_cases hk:k1=k2
    ·subst hk;rw[decide_eq_true rfl];simp only[Bool.not_true,Bool.false_eq_true,if_false];refine wpAny_pure ⟨rfl,rfl,x'',y'',xs'',ys'',rfl,hx'',hy'',?_,by simpa using hlen⟩
     rw[←hdec,A5,if_pos rfl]
    ·rw[decide_eq_false hk];simp only[Bool.not_false,if_true];have hf:A5 x y=decide (k1<k2):=by rw[←hdec,A5,if_neg hk]
     rw[hf] at h;obtain⟨t1,rfl⟩:=Value.isInt_shape h1;obtain⟨t2,rfl⟩:=Value.isInt_shape h2;refine wpAny_bind (wpAny_rule (wpAny_bind (show wpAny _ _ (compareOp .Lt (.int k1 t1) (.int k2 t2)) _ _ _ from wpAny_lt_int ?_)));exact wpAny_bind (wpAny_pure (wpAny_pure (wpAny_pure h)))
 ·rintro⟨r1,r2⟩ s' ⟨hr,rfl,x',y',xs',ys',hz,hx',hy',hdec,hlen⟩;simp only at hr;subst hr;refine wpAny_pure ?_;have hfin:decide (xs.size<ys.size)=A5 x y:=by
   rw[←hdec,←hlen];cases hx' with
   |nil=>
    cases hy' with
    |nil=>rfl
    |cons _ _=>simp[A5]
   |cons _ _=>
    cases hy' with
    |nil=>simp[A5]
    |cons _ _=>simp at hz
  show Q (.done (.ret (.bool (decide (xs.size<ys.size))))) s';rw[hfin];exact h
theorem Ht{x y:List Int}{a b:Addr}{Q:Value→Shared→Prop}(hu:A.units<cLine)(hx:IsTupleKey (intKind P w) s.heap x a)(hy:IsTupleKey (intKind P w) s.heap y b)(h:Q (.bool (A5 x y)) s):wpAny (model P w) A (richCompare .Lt (.ref a) (.ref b)) Q E s:=
 wpAny_richCompare_same_room (op:=.Lt) hx.typeIs hy.typeIs F.slot_tuple_lt (wpAny_call_entry F.slot_tuple_lt hx.typeIs F.entry_tuple_lt (Jk hx hy ⟨_,rfl,(fun e=>nomatch e),h⟩) (F.args_tuple_lt_2 _ _)) hu
end
instance (a b:Int×Int):Decidable (A6 a b):=inferInstanceAs (Decidable (_∨_))
theorem Sb{a b:Int×Int}:A5 [a.1,a.2] [b.1,b.2]=decide (A6 a b):=by
 rw[Bool.eq_iff_iff,decide_eq_true_eq];unfold A6;simp only[A5]
 by_cases h1:a.1=b.1
 ·rw[if_pos h1]
  by_cases h2:a.2=b.2
  ·rw[if_pos h2];constructor
   ·intro z;cases z
   ·intro z;omega
  ·rw[if_neg h2,decide_eq_true_eq];omega
 ·rw[if_neg h1,decide_eq_true_eq];omega
theorem PairAt.key{P:Program}{w:World}{h:Heap}{v:Value}{p:Int×Int}(x:PairAt h v p):∃a,v=.ref a∧IsTupleKey (intKind P w) h [p.1,p.2] a:=by
 obtain⟨a,o,t,u,n,e,x2,x3,x4⟩:=x;exact⟨a,e,o,_,n,x2,x3,x4,.cons (intKind_is _ _ _ _) (.cons (intKind_is _ _ _ _) .nil)⟩
section
variable{X:Cx}{n:Nat}
theorem Iv{P:Program}{w:World}:∀{ns:List Int} {its:List Value},Vals (ns.map V.int) its→ItemsAre (intKind P w) ns its
 |[],_,.nil=>.nil
 |n::r,_,.cons ⟨t,rfl⟩ h=>.cons (intKind_is _ _ _ _) (Iv h)
end
def Yd(P:Program)(w:World)(A:Around)(Hv:Heap→Prop)(V:Nat→Value→Prop)(bt:Nat→Nat→Bool):Prop:=
 ∀i j vi vj (s:Shared) (Q:Value→Shared→Prop) (E:Value→Shared→Prop),Hv s.heap→V i vi→V j vj→Q (.bool (bt i j)) s→wpAny (model P w) A (richCompare .Lt vi vj) Q E s
section
variable{P:Program}{w:World}{A:Around}{R:Result→Shared→Prop}{it S:Addr}{fp wr:List Addr}{n:Nat}{V:Nat→Value→Prop}{st:Nat→Heap→Prop}{bt:Nat→Nat→Bool}{kw:List (Str×Value)}{Hv:Heap→Prop}
abbrev MnEnd(R:Result→Shared→Prop)(V:Nat→Value→Prop)(bt:Nat→Nat→Bool)(n:Nat)(wr:List Addr)(S:Addr)(s:Shared):Prop:=
 ∀v g tk,V (argBest bt (n-1)) v→(∀b o,b ∉ wr→b≠S→s.heap.get? b=some o→g.get? b=some o)→R (.ok (.ret v)) { s with heap:=g,toks:=tk }
theorem D4:(toString "min" ++ toString ".loop" : String) = "min.loop":=by decide
theorem Z6(W:Walks P w A.in1 it fp wr n V st)(cmp:Yd P w A.in1 Hv V bt)(hv:∀h h',Hv h→(∀b o,b ∉ wr→b≠S→h.get? b=some o→h'.get? b=some o)→Hv h')(off:S ∉ fp)(k:Nat):∀(j:Nat) (s:Shared) (best:Value) (c:Nat),n-(j+1)=k→j+1≤n→Hv s.heap→st (j+1) s.heap→V (argBest bt j) best→
  s.heap.get? S=some (seqObj "list" #[best,best] c)→MnEnd R V bt n wr S s→codeAny (model P w) A (.builtin "min.loop" ⟨[.ref it,.none,.ref S],kw⟩) R s:=by
 have offW:S ∉ wr:=fun z=>off (W.sub _ z)
 induction k with
 |zero=>
  intro j s best c e1 e2 hH h0 hb hS fin;have e3:j+1=n:=by omega
  refine codeAny_builtin F.entry_min_loop ?_;rw[Around.under_plainId F.plain_min_loop _];show wpAny _ A.in1 (seqItems? (.ref S) >>= _) _ _ s;refine wpAny_bind (wpAny_seqItems hS rfl ?_);show wpAny _ A.in1 (tryCatch (pyNext (.ref it)) _ >>= _) _ _ s;refine wpAny_bind (wpAny_tryCatch (W.done s _ _ (e3 ▸ h0) fun g tk kp=>?_));show wpAny _ A.in1 (updateSeq S (fun _=>#[]) >>= _) _ _ _;refine wpAny_bind (wpAny_updateSeq (kp S _ offW hS) rfl (wpAny_bind (wpAny_letGo (wpAny_pure ?_))));exact fin best _ tk (by rw[←e3];exact hb) fun b o nw nS e=>(Heap.get?_update_other _ _ (Ne.symm nS)).trans (kp b o nw e)
 |succ k ih=>
  intro j s best c e1 e2 hH h0 hb hS fin;have e3:j+1<n:=by omega
  refine codeAny_builtin F.entry_min_loop ?_;rw[Around.under_plainId F.plain_min_loop _];show wpAny _ A.in1 (seqItems? (.ref S) >>= _) _ _ s;refine wpAny_bind (wpAny_seqItems hS rfl ?_);show wpAny _ A.in1 (tryCatch (pyNext (.ref it)) _ >>= _) _ _ s;refine wpAny_bind (wpAny_tryCatch (W.item (j+1) s _ _ e3 h0 fun v g tk hv1 h1 kp=>?_));have hS2:=kp S _ offW hS;show wpAny _ A.in1 (tryCatch (holding [v,v] (richCompare .Lt v best >>= _)) _ >>= _) _ _ _;refine wpAny_bind (wpAny_tryCatch (wpAny_holding (wpAny_bind (cmp (j+1) (argBest bt j) v best _ _ _ (hv _ _ hH fun b o nw _ e=>kp b o nw e) hv1 hb (wpAny_bind (wpAny_holding (wpAny_truthy_bool (wpAny_bind (wpAny_letGo (wpAny_pure ?_))))))))));cases q:bt (j+1) (argBest bt j) with
  |true=>
   simp only[if_true];refine wpAny_bind (wpAny_updateSeq hS2 rfl (wpAny_bind (wpAny_letGo ?_)));rw[D4];refine wpAny_pure ⟨plainId_quiet F.plain_min_loop _,ih (j+1) _ v _ (by omega) e3 (hv _ _ hH fun b o nw nS e=>(Heap.get?_update_other _ _ (Ne.symm nS)).trans (kp b o nw e)) (W.frame _ _ _ h1 fun b hf o e=>?_) (by simp only[argBest,q,if_true];exact hv1) (Heap.get?_update_self _ hS2 rfl) fun v' g' tk' hv' kp'=>?_⟩
   ·exact(Heap.get?_update_other _ _ fun z:S=b=>off (by rw[z];exact hf)).trans e
   ·exact fin v' g' tk' hv' fun b o nw nS e=>kp' b o nw nS ((Heap.get?_update_other _ _ (Ne.symm nS)).trans (kp b o nw e))
  |false=>
   simp only[Bool.false_eq_true,if_false];refine wpAny_bind (wpAny_letGo ?_);rw[D4];refine wpAny_pure ⟨plainId_quiet F.plain_min_loop _,ih (j+1) _ best c (by omega) e3 (hv _ _ hH fun b o nw _ e=>kp b o nw e) h1 (by simp only[argBest,q,Bool.false_eq_true,if_false];exact hb) hS2 fun v' g' tk' hv' kp'=>?_⟩
   exact fin v' g' tk' hv' fun b o nw nS e=>kp' b o nw nS (kp b o nw e)
theorem Nc(W:Walks P w A.in1 it fp wr n V st)(cmp:Yd P w A.in1 Hv V bt)(hv:∀h h',Hv h→(∀b o,b ∉ wr→b≠S→h.get? b=some o→h'.get? b=some o)→Hv h')(off:S ∉ fp)(hn:0<n){s:Shared}{c:Nat}(hH:Hv s.heap)(h0:st 0 s.heap)(hS:s.heap.get? S=some (seqObj "list" #[] c))(fin:MnEnd R V bt n wr S s) :
  codeAny (model P w) A (.builtin "min.loop" ⟨[.ref it,.none,.ref S],kw⟩) R s:=by
 have offW:S ∉ wr:=fun z=>off (W.sub _ z);refine codeAny_builtin F.entry_min_loop ?_;rw[Around.under_plainId F.plain_min_loop _];show wpAny _ A.in1 (seqItems? (.ref S) >>= _) _ _ s;refine wpAny_bind (wpAny_seqItems hS rfl ?_);show wpAny _ A.in1 (tryCatch (pyNext (.ref it)) _ >>= _) _ _ s;refine wpAny_bind (wpAny_tryCatch (W.item 0 s _ _ hn h0 fun v g tk hv1 h1 kp=>?_));have hS2:=kp S _ offW hS;show wpAny _ A.in1 (updateSeq S (fun _=>#[v,v]) >>= _) _ _ _;refine wpAny_bind (wpAny_updateSeq hS2 rfl ?_);rw[D4];refine wpAny_pure ⟨plainId_quiet F.plain_min_loop _,Z6 W cmp hv off _ 0 _ v _ rfl hn (hv _ _ hH fun b o nw nS e=>(Heap.get?_update_other _ _ (Ne.symm nS)).trans (kp b o nw e)) (W.frame _ _ _ h1 fun b hf o e=>?_) hv1 (Heap.get?_update_self _ hS2 rfl) fun v' g' tk' hv' kp'=>?_⟩
 ·exact(Heap.get?_update_other _ _ fun z:S=b=>off (by rw[z];exact hf)).trans e
 ·exact fin v' g' tk' hv' fun b o nw nS e=>kp' b o nw nS ((Heap.get?_update_other _ _ (Ne.symm nS)).trans (kp b o nw e))
theorem Z7{d:Value}{k:Str}(W:Walks P w A.in1 it fp wr 0 V st)(off:S ∉ fp){s:Shared}{c:Nat}(h0:st 0 s.heap)(hS:s.heap.get? S=some (seqObj "list" #[] c))(fin:∀g tk,(∀b o,b ∉ wr→s.heap.get? b=some o→g.get? b=some o)→R (.ok (.ret d)) { s with heap:=g,toks:=tk }) :
  codeAny (model P w) A (.builtin "min.loop" ⟨[.ref it,.none,.ref S],[(k,d)]⟩) R s:=by
 refine codeAny_builtin F.entry_min_loop ?_;rw[Around.under_plainId F.plain_min_loop _];show wpAny _ A.in1 (seqItems? (.ref S) >>= _) _ _ s;refine wpAny_bind (wpAny_seqItems hS rfl ?_);show wpAny _ A.in1 (tryCatch (pyNext (.ref it)) _ >>= _) _ _ s;refine wpAny_bind (wpAny_tryCatch (W.done s _ _ h0 fun g tk kp=>?_));show wpAny _ A.in1 (rule _ >>= _) _ _ _;exact wpAny_bind (wpAny_rule (wpAny_pure (fin g tk kp)))
end
section
variable{P:Program}{w:World}{A:Around}{E:Value→Shared→Prop}{s:Shared}
def D9(P:Program)(w:World)(N:Nat)(vs:List Value)(ps:List (Int×Int))(h:Heap):Prop:=∀(i:Nat) v p,vs[i]? = some v→ps[i]? = some p→∃a,v=.ref a∧a<N∧IsTupleKey (intKind P w) h [p.1,p.2] a
def btP(ps:List (Int×Int))(i j:Nat):Bool:=decide (A6 (ps.getD i (0,0)) (ps.getD j (0,0)))
theorem Ad4{a:Int×Int}:¬A6 a a:=by unfold A6;omega
theorem Ad3{a b c:Int×Int}(h:A6 a b)(h2:A6 b c):A6 a c:=by unfold A6 at *;omega
theorem Km(ps:List (Int×Int)):∀n,argBest (btP ps) n≤n∧∀j,j≤n→¬A6 (ps.getD j (0,0)) (ps.getD (argBest (btP ps) n) (0,0))
 |0=>⟨Nat.le_refl _,fun j hj=>by obtain rfl:j=0:=Nat.le_zero.mp hj;exact Ad4⟩
 |n+1=>by
  obtain⟨h1,h2⟩:=Km ps n;rw[argBest]
  by_cases hb:btP ps (n+1) (argBest (btP ps) n)=true
  ·rw[if_pos hb];refine⟨Nat.le_refl _,fun j hj z=>?_⟩;have hb':A6 (ps.getD (n+1) (0,0)) (ps.getD (argBest (btP ps) n) (0,0)):=of_decide_eq_true hb
   by_cases e:j=n+1
   ·subst e;unfold A6 at z;omega
   ·exact h2 j (by omega) (Ad3 z hb')
  ·rw[if_neg hb];refine⟨by omega,fun j hj z=>?_⟩
   by_cases e:j=n+1
   ·subst e;exact hb (decide_eq_true z)
   ·exact h2 j (by omega) z
theorem So{N:Nat}{vs:List Value}{ps:List (Int×Int)}(hl:vs.length=ps.length)(hu:A.units<cLine):Yd P w A (D9 P w N vs ps) (fun i v=>vs.toArray[i]? = some v) (btP ps):=by
 intro i j vi vj s Q E hH hi hj q;have hi':vs[i]? = some vi:=by simpa using hi
 have hj':vs[j]? = some vj:=by simpa using hj
 have li:i<ps.length:=by rw[←hl];exact(List.getElem?_eq_some_iff.mp hi').1
 have lj:j<ps.length:=by rw[←hl];exact(List.getElem?_eq_some_iff.mp hj').1
 obtain⟨a,rfl,_,ka⟩:=hH i vi _ hi' (List.getElem?_eq_getElem li);obtain⟨b,rfl,_,kb⟩:=hH j vj _ hj' (List.getElem?_eq_getElem lj);refine Ht hu ka kb ?_;have e:btP ps i j=A5 [ps[i].1,ps[i].2] [ps[j].1,ps[j].2]:=by
  rw[Sb];unfold btP;rw[List.getD_eq_getElem?_getD,List.getD_eq_getElem?_getD,List.getElem?_eq_getElem li,List.getElem?_eq_getElem lj];rfl
 rw[←e];exact q
theorem Qo{l:Addr}{vs:List Value}{ps:List (Int×Int)}{kw:List (Str×Value)}{R:Result→Shared→Prop}(hh:A.handled=none)(hu:A.units+1<cLine)(hl:s.heap.IsList l vs.toArray)(hlen:vs.length=ps.length)(hH:D9 P w s.heap.objs.size vs ps s.heap)(hne:0<ps.length)(fin:∀(g:Heap) (tk:Tok) (v:Value) (i:Nat) (M:Int×Int),(∀b o,s.heap.get? b=some o→g.get? b=some o)→vs[i]? = some v→ps[i]? = some M→(∀a∈ps,¬A6 a M)→R (.ok (.ret v)) { s with heap:=g,toks:=tk }) :
  codeAny (model P w) A (.builtin "min.loop" ⟨[.ref s.heap.objs.size,.none,.ref (s.heap.objs.size+1)],kw⟩) R { s with heap:=(s.heap.push { cls:=.type "list_iterator",data:=.fields #[.ref l,.int 0 0] }).push { cls:=.type "list",data:=.seq ([]:List Value).toArray } }:=by
 have hlt:l<s.heap.objs.size:=by obtain⟨o,e,_⟩:=hl;exact Heap.lt_size e
 have W:=Walks.list (prog:=P) (w:=w) (A:=A.in1) hh s.heap.objs.size l (Nat.ne_of_lt hlt) vs.toArray;have k2:∀b o,s.heap.get? b=some o→((s.heap.push { cls:=.type "list_iterator",data:=.fields #[.ref l,.int 0 0] }).push { cls:=.type "list",data:=.seq ([]:List Value).toArray }).get? b=some o:=fun b o e=>Heap.get?_push_of_some _ (Heap.get?_push_of_some _ e);have off:s.heap.objs.size+1 ∉ [s.heap.objs.size,l]:=by
  simp only[List.mem_cons,List.not_mem_nil,or_false,not_or];exact⟨Nat.succ_ne_self _,Nat.ne_of_gt (Nat.lt_succ_of_lt hlt)⟩
 have hS:((s.heap.push { cls:=.type "list_iterator",data:=.fields #[.ref l,.int 0 0] }).push { cls:=.type "list",data:=.seq ([]:List Value).toArray }).get? (s.heap.objs.size+1)=some (seqObj "list" #[] 0):=by
  have:=Heap.get?_push_size (h:=s.heap.push { cls:=.type "list_iterator",data:=.fields #[.ref l,.int 0 0] }) (o:={ cls:=.type "list",data:=.seq ([]:List Value).toArray }) rfl
  rw[Heap.size_push] at this;exact this
 have hvsz:vs.toArray.size=ps.length:=by simp[hlen]
 have hsz:vs.toArray.size-1<ps.length:=by omega
 refine Nc (Hv:=D9 P w s.heap.objs.size vs ps) W (So hlen hu) (fun h h' hv kp i v p e1 e2=>?_) off (by omega) (fun i v p e1 e2=>?_) ⟨⟨_,Heap.get?_push_of_some _ (Heap.get?_push_size _ rfl),rfl,rfl⟩,(hl.push _).push _⟩ hS fun v g tk hv kp=>?_
 ·obtain⟨a,e,hlt',o,items,n,ho,hr⟩:=hv i v p e1 e2;exact⟨a,e,hlt',o,items,n,kp a o (by simp only[List.mem_singleton];exact Nat.ne_of_lt hlt') (Nat.ne_of_lt (Nat.lt_succ_of_lt hlt')) ho,hr⟩
 ·obtain⟨a,e,hlt',o,items,n,ho,hr⟩:=hH i v p e1 e2;exact⟨a,e,hlt',o,items,n,k2 a o ho,hr⟩
 ·obtain⟨h1,h2⟩:=Km ps (vs.toArray.size-1);have hlb:argBest (btP ps) (vs.toArray.size-1)<ps.length:=by omega
  refine fin g tk v _ (ps[argBest (btP ps) (vs.toArray.size-1)]) (fun b o e=>?_) (by simpa using hv) (List.getElem?_eq_getElem hlb) fun a ha=>?_
  ·have hb:=Heap.lt_size e;exact kp b o (by simp only[List.mem_singleton];exact Nat.ne_of_lt hb) (Nat.ne_of_lt (Nat.lt_succ_of_lt hb)) (k2 b o e)
  ·obtain⟨j,hj,rfl⟩:=List.getElem_of_mem ha
   have:=h2 j (by omega)
   rw[List.getD_eq_getElem?_getD,List.getD_eq_getElem?_getD,List.getElem?_eq_getElem hj,List.getElem?_eq_getElem hlb] at this;exact this
theorem Z8{l:Addr}{vs:List Value}{ps:List (Int×Int)}{Q:Value→Shared→Prop}(hh:A.handled=none)(hu:A.units+1<cLine)(hl:s.heap.IsList l vs.toArray)(hlen:vs.length=ps.length)(hH:D9 P w s.heap.objs.size vs ps s.heap)(hne:0<ps.length)(q:∀(g:Heap) (tk:Tok) (v:Value) (i:Nat) (M:Int×Int),(∀b o,s.heap.get? b=some o→g.get? b=some o)→vs[i]? = some v→ps[i]? = some M→(∀a∈ps,¬A6 a M)→Q v { s with heap:=g,toks:=tk }) :
  wpAny (model P w) A (call (.builtin "min") [.ref l]) Q E s:=by
 refine call_function_tree F.kind_min F.plain_min F.entry_min (F.args_min1 _) ?_;show wpAny _ A.in1 (Builtin.Builtins.bindParams "min" ["key", "default"] 0 ⟨[],[]⟩ >>= _) _ _ s;refine wpAny_bind (wpAny_of_eq (show Builtin.Builtins.bindParams "min" ["key", "default"] 0 ⟨[],[]⟩=pure [none,none] from rfl) ?_);refine wpAny_bind (wpAny_pure ?_);refine wpAny_bind (wpAny_pyIter_list hl ?_);refine wpAny_bind (wpAny_newObj_type ?_);rw[D4,Heap.size_push];exact wpAny_pure ⟨plainId_quiet F.plain_min_loop _,Qo hh hu hl hlen hH hne q⟩
theorem Z9(x d:Value):argsOk "min" ⟨[x],[(Str.ofString "default",d)]⟩:=by unfold argsOk;kernel_rfl
theorem W3{l:Addr}{vs:List Value}{ps:List (Int×Int)}{d:Value}{Q:Value→Shared→Prop}(hh:A.handled=none)(hu:A.units+1<cLine)(hl:s.heap.IsList l vs.toArray)(hlen:vs.length=ps.length)(hH:D9 P w s.heap.objs.size vs ps s.heap)(h0:ps=[]→∀g tk,(∀b o,s.heap.get? b=some o→g.get? b=some o)→Q d { s with heap:=g,toks:=tk })(q:∀(g:Heap) (tk:Tok) (v:Value) (i:Nat) (M:Int×Int),(∀b o,s.heap.get? b=some o→g.get? b=some o)→vs[i]? = some v→ps[i]? = some M→(∀a∈ps,¬A6 a M)→Q v { s with heap:=g,toks:=tk }) :
  wpAny (model P w) A (call (.builtin "min") [.ref l] [(Str.ofString "default",d)]) Q E s:=by
 refine Su F.kind_min F.plain_min F.entry_min (Z9 _ _) ?_;show wpAny _ A.in1 (Builtin.Builtins.bindParams "min" ["key", "default"] 0 ⟨[],[(Str.ofString "default",d)]⟩ >>= _) _ _ s;refine wpAny_bind (wpAny_of_eq (show Builtin.Builtins.bindParams "min" ["key", "default"] 0 ⟨[],[(Str.ofString "default",d)]⟩=pure [none,some d] from rfl) (wpAny_bind (wpAny_pure ?_)));refine wpAny_bind (wpAny_pyIter_list hl ?_);refine wpAny_bind (wpAny_newObj_type ?_);rw[D4,Heap.size_push];rcases Nat.eq_zero_or_pos ps.length with z|z
 ·have hlt:l<s.heap.objs.size:=by obtain⟨o,e,_⟩:=hl;exact Heap.lt_size e
  have W:=Walks.list (prog:=P) (w:=w) (A:=A.in1) hh s.heap.objs.size l (Nat.ne_of_lt hlt) vs.toArray;have hv0:vs.toArray.size=0:=by simp[hlen,z]
  rw[hv0] at W;have off:s.heap.objs.size+1 ∉ [s.heap.objs.size,l]:=by
   simp only[List.mem_cons,List.not_mem_nil,or_false,not_or];exact⟨Nat.succ_ne_self _,Nat.ne_of_gt (Nat.lt_succ_of_lt hlt)⟩
  have hS:((s.heap.push { cls:=.type "list_iterator",data:=.fields #[.ref l,.int 0 0] }).push { cls:=.type "list",data:=.seq ([]:List Value).toArray }).get? (s.heap.objs.size+1)=some (seqObj "list" #[] 0):=by
   have:=Heap.get?_push_size (h:=s.heap.push { cls:=.type "list_iterator",data:=.fields #[.ref l,.int 0 0] }) (o:={ cls:=.type "list",data:=.seq ([]:List Value).toArray }) rfl
   rw[Heap.size_push] at this;exact this
  refine wpAny_pure ⟨plainId_quiet F.plain_min_loop _,Z7 W off ⟨⟨_,Heap.get?_push_of_some _ (Heap.get?_push_size _ rfl),rfl,rfl⟩,(hl.push _).push _⟩ hS fun g tk kp=>?_⟩;refine h0 (List.eq_nil_of_length_eq_zero z) g tk fun b o e=>?_;exact kp b o (by simp only[List.mem_singleton];exact Nat.ne_of_lt (Heap.lt_size e)) (Heap.get?_push_of_some _ (Heap.get?_push_of_some _ e))
 ·exact wpAny_pure ⟨plainId_quiet F.plain_min_loop _,Qo hh hu hl hlen hH z q⟩
end
section
variable{X:Cx}{e:Expr}{p pos:Pos}{n:Nat}
theorem M9{pins:List (Addr×Obj)}{σ:L2.St}{H:Hp}{s:Shared}(I:Inv X pins σ H s){bs:List Addr}{cs:List (Int×Int)}(c:Ez H bs cs):D9 X.prog X.w s.heap.objs.size (bs.map Value.ref) cs s.heap:=fun i v m e1 e2=>by
 rw[List.getElem?_map] at e1;obtain⟨b,eb,rfl⟩:=Option.map_eq_some_iff.mp e1;obtain⟨m',em,hc⟩:=Bf c eb;rw[e2] at em;cases em;obtain⟨a,ea,k⟩:=PairAt.key (P:=X.prog) (w:=X.w) (Wo I hc);cases ea;obtain⟨o,_,_,ho,_⟩:=id k;exact⟨b,rfl,Heap.lt_size ho,k⟩
theorem Dz:∀{bs:List Addr} {its:List Value},Vals (bs.map V.ref) its→its=bs.map Value.ref
 |[],_,.nil=>rfl
 |_::_,_,.cons rfl t=>by rw[Dz t];rfl
theorem Sw(hc:X.calm=true)(hr:Room n X.A):CallR X (.builtin "min") (fun xs H Q=>∃(l:Addr) (bs:List Addr) (cs:List (Int×Int)),xs=[.ref l]∧SqL X.K H l (bs.map V.ref)∧Ez H bs cs∧0<cs.length∧∀b M,H b=some (.tup [.int M.1,.int M.2])→M∈cs→(∀a∈cs,¬A6 a M)→Q (.ref b) H):=by
 intro pins s σ H xs us Q I r h;obtain⟨l,bs,cs,rfl,hl,c,hn,q⟩:=h;obtain⟨u,rfl,rx⟩:=By r;cases rx;obtain⟨its,rv,pl,_⟩:=I.list hl;obtain rfl:=Dz rv;refine Z8 (I.ok.hd hc) (by have:=hr.un;omega) pl.isList (by rw[List.length_map];exact Paired.length c) (M9 I c) hn fun g tk v i M k e1 e2 h2=>?_
 rw[List.getElem?_map] at e1;obtain⟨b,eb,rfl⟩:=Option.map_eq_some_iff.mp e1;obtain⟨m',em,hcm⟩:=Bf c eb;rw[e2] at em;cases em;exact⟨.ref b,H,I.kept k,rfl,q b M hcm (List.mem_of_getElem? e2) h2⟩
theorem c_minP(hc:X.calm=true)(hr:Room n X.A):QC X (.builtin "min") (fun ds G Q=>∃d,ds=[d]∧∃p,d=.ref p∧∃cs:List (Int×Int),G p=some (.lst (cs.map Bc))∧0<cs.length∧∀M∈cs,(∀a∈cs,¬A6 a M)→Q (Bc M) G):=(Sw hc hr).imp fun xs H Q zz=>by
 obtain⟨ds,G,Q',dv,rg,⟨d,e,p,ep,cs,eg,hn,q⟩,cl⟩:=zz;subst e ep;obtain⟨v,rfl,h⟩:=dv.one;cases h;obtain⟨ys,eh,r⟩:=rg p _ eg;obtain⟨bs,rfl,c⟩:=Fz r;exact⟨p,bs,cs,rfl,.inl (.inl eh),c,hn,fun b M hb h1 h2=>cl _ _ (q M h1 h2) _ (Ext.refl H) rg _ (.tup hb (.cons (.int _) (.cons (.int _) .nil)))⟩
def Ab1(te:TE):TE:=fun σ H Q=>te σ H fun x H1=>∃(l:Addr) (bs:List Addr) (cs:List (Int×Int)),x=.ref l∧SqL X.K H1 l (bs.map V.ref)∧Ez H1 bs cs∧(cs=[]→Q .non H1)∧∀b M,H1 b=some (.tup [.int M.1,.int M.2])→M∈cs→(∀a∈cs,¬A6 a M)→Q (.ref b) H1
theorem We{te:TE}{kp np:Pos}{j:Nat}(hc:X.calm=true)(hr:Room n X.A)(hg:Gl X "min")(hm:X.mg "min" = none)(he:PE X e te)(hs:starEach [e] X.env=[(false,eval e X.env)]:=by rfl):PE X (.Call (.Name "min" p) [e] [⟨some "default",.Constant .none j np,kp⟩] pos) (Ab1 (X:=X) te):=by
 intro pins s σ H Q I h;refine wpAny_Call_Name_kw (Df I hg hm boot_min ?_ (by decide) (by decide))
 have ha:PA X [e] (Py te X7):=Dg he pa_nil hs;have hkw:PK X [⟨some "default",.Constant .none j np,kp⟩] (Py (tC .non) X7):=Zg Um Ac6;refine PyProof.Rows.callWith_kw (thn (ha pos pins s σ H (fun vs H1=>match vs with
   |[x]=>∃(l:Addr) (bs:List Addr) (cs:List (Int×Int)),x=.ref l∧SqL X.K H1 l (bs.map V.ref)∧Ez H1 bs cs∧(cs=[]→Q .non H1)∧∀b M,H1 b=some (.tup [.int M.1,.int M.2])→M∈cs→(∀a∈cs,¬A6 a M)→Q (.ref b) H1
   |_=>False) I h) fun us s1 ⟨vs,H1,I1,r1,q1⟩=>?_) (by rw[hs];rfl) (by rw[hs];rfl) rfl rfl
 match vs,r1,q1 with
 |[x],.cons (b:=u) rx .nil,⟨l,bs,cs,ex,hl,c,q0,q⟩=>
  subst ex;obtain rfl:u=Value.ref l:=rx;refine thn (hkw pos pins s1 σ H1 (fun zs H2=>zs=[.non]∧H2=H1) I1 ⟨rfl,rfl⟩) fun ws s2 zz=>?_;obtain⟨zs,H2,I2,r2,ez,eH⟩:=zz;subst ez eH;obtain⟨z,rfl,rz⟩:=By r2;obtain rfl:z=Value.none:=rz;obtain⟨its,rv,pl,_⟩:=I2.list hl;obtain rfl:=Dz rv;refine W3 (I2.ok.hd hc) (by have:=hr.un;omega) pl.isList (by rw[List.length_map];exact Paired.length c) (M9 I2 c) (fun e0 g tk k=>⟨.non,H2,I2.kept k,rfl,q0 e0⟩) fun g tk v i M k e1 e2 h2=>?_
  rw[List.getElem?_map] at e1;obtain⟨b,eb,rfl⟩:=Option.map_eq_some_iff.mp e1;obtain⟨m',em,hcm⟩:=Bf c eb;rw[e2] at em;cases em;exact⟨.ref b,H2,I2.kept k,rfl,q b M hcm (List.mem_of_getElem? e2) h2⟩
def Uu(te:DTE):DTE:=fun σ G Q=>te σ G fun x G1=>∃p,x=.ref p∧∃cs:List (Int×Int),G1 p=some (.lst (cs.map Bc))∧(cs=[]→Q .non G1)∧∀M∈cs,(∀a∈cs,¬A6 a M)→Q (Bc M) G1
theorem Y2{te:DTE}{kp np:Pos}{j:Nat}(hc:X.calm=true)(hr:Room n X.A)(hm:X.mg "min" = none)(he:QE X e te)(hg:Gl X "min":=by rfl)(hs:starEach [e] X.env=[(false,eval e X.env)]:=by rfl):QE X (.Call (.Name "min" p) [e] [⟨some "default",.Constant .none j np,kp⟩] pos) (Uu te):=
 (We hc hr hg hm he hs).imp fun σ H Q zz=>by
  obtain⟨σD,G,Q',rs,rg,h,cl⟩:=zz;refine⟨σD,G,_,rs,rg,h,fun x G1 zz H1 x1 rg1 v dv=>?_⟩;obtain⟨l,ex,cs,eg,q0,q⟩:=zz;subst ex;cases dv;obtain⟨ys,eh,r⟩:=rg1 l _ eg;obtain⟨bs,rfl,c⟩:=Fz r;exact⟨l,bs,cs,rfl,.inl (.inl eh),c,fun e0=>cl _ _ (q0 e0) _ x1 rg1 _ .non,fun b M hb h1 h2=>cl _ _ (q M h1 h2) _ x1 rg1 _ (.tup hb (.cons (.int _) (.cons (.int _) .nil)))⟩
end
def ItI(a:Addr)(o:Obj)(ks:List (Key×V)):It:=⟨fun i H=>H a=some (.frz o (.dK ks))∧i<ks.length,fun i H x H'=>∃p k v,H p=none∧ks[i]? = some (k,v)∧x=.ref p∧H'=upd H p (.tup [kV k,v]),fun i H=>H a=some (.frz o (.dK ks))∧i=ks.length⟩
theorem Qt{P:Program}{w:World}{k:Key}{key:Value}(h:(Ap P w).is k key=true):RelV (kV k) key:=by
 rcases Az h with ⟨j,t,rfl,rfl⟩|⟨j,t,rfl,rfl⟩
 ·exact⟨t,rfl⟩
 ·exact⟨t,rfl⟩
theorem O4{P:Program}{w:World}{K:W.Frag}{elts:List Expr}{kk:Nat}{tp:Pos}{a it:Addr}{o:Obj}{es:Array DictEntry}{ep:Nat}{ks:List (Key×V)}(hd:o.data=.dict es ep) :
  Turn P w K (.Tuple elts kk tp) (ItI a o ks) [it] it (fun i h=>∃ok ov,IsItemIter h it a i ks.length ep ok ov) where
 mem:=by simp
 obj:=fun i h zz b hb=>by
  obtain⟨ok,ov,st⟩:=zz;have e:b=it:=by simpa using hb
  subst e;exact⟨_,st,fun v z=>by cases z⟩
 keep:=fun i h h' ⟨ok,ov,st⟩ k=>⟨ok,ov,k it (by simp) _ st⟩
 item:=by
  rintro X hP hw hK hc i pins s σ H E I hf ⟨ok,ov,st⟩ hg;subst hP hw hK;obtain⟨hg,hi⟩:=(show H a=some (.frz o (.dK ks))∧i<ks.length from hg);obtain⟨h1,h2⟩:=(show ObjOk X.prog X.w H s.heap a (.frz o (.dK ks)) from I.hok a _ hg);obtain⟨_,_,vs,rel,ob,es',ep',q1,q2,q3,q4⟩:=h2;rw[h1] at q1;cases q1;rw[hd] at q3;cases q3;have hlen:ks.length=vs.length:=Paired.length rel;have hx:vs[i]? = some (vs[i]'(by omega)):=List.getElem?_eq_getElem (by omega)
  obtain⟨p,e1,e2,e3⟩:=Mo i rel hx;obtain⟨f0,f1,f2,f3,f4,f5⟩:=hf it (by simp)
  rw[hlen] at st;generalize (vs[i]'(by omega))=q at *
  obtain⟨qk,qv⟩:=q;obtain⟨pk,pv⟩:=p;dsimp only at e2 e3;subst e2;refine wpAny_pyNext_items_item (knd:=Ap X.prog X.w) (kvs:=vs) st ⟨o,es,h1,q2,hd,q4⟩ hx fun key h' hkey hio htup hsz keep=>⟨_,rfl,wpAny_letOwnedTupleGo_items (s:={ s with heap:=h' }) hio fun h3 hit3 sb=>?_⟩;have hlt:it<s.heap.objs.size:=Heap.lt_size st;have I1:Inv X pins σ (upd H s.heap.objs.size (.tup [kV pk,pv])) { s with heap:=s.heap.push { cls:=.type "tuple",data:=.seq #[key,qv] } }:=
   I.laid (t':=s.toks) (fun b u e=>Heap.get?_push_of_some _ e) (Nat.le_refl _) ⟨szl (show 2≤1000 by decide),[key,qv],.cons (Qt hkey) (.cons e3 .nil),⟨_,Heap.get?_push_size _ rfl,rfl,_,rfl⟩⟩
  have hn1:(upd H s.heap.objs.size (.tup [kV pk,pv])) it=none:=by rw[Ae (Nat.ne_of_lt hlt)];exact f0
  have I2:=I1.turned (t':=s.toks) (h':=h3) (fun b u hb e=>?_) hn1 f1 f3 f4 f5
  ·refine⟨.ref s.heap.objs.size,_,I2,rfl,⟨s.heap.objs.size,pk,pv,I.hok.fresh (Nat.le_refl _),e1,rfl,rfl⟩,⟨_,_,by rw[hlen];exact hit3⟩,fun b hb=>?_⟩
   have e:b=it:=by simpa using hb
   subst e;exact hn1
  ·refine sb.extBut _ _ hb ?_;rcases Heap.get?_push_cases e with ⟨rfl,rfl⟩|e
   ·exact htup
   ·exact keep b u hb e
 done:=by
  rintro X hP hw hK hc i pins s σ H E I hf ⟨ok,ov,st⟩ hg;subst hP hw hK;obtain⟨hg,hi⟩:=(show H a=some (.frz o (.dK ks))∧i=ks.length from hg);obtain⟨h1,h2⟩:=(show ObjOk X.prog X.w H s.heap a (.frz o (.dK ks)) from I.hok a _ hg);obtain⟨_,_,vs,rel,ob,es',ep',q1,q2,q3,q4⟩:=h2;rw[h1] at q1;cases q1;rw[hd] at q3;cases q3;have hlen:ks.length=vs.length:=Paired.length rel;obtain⟨f0,f1,f2,f3,f4,f5⟩:=hf it (by simp)
  rw[hi,hlen] at st;exact wpAny_pyNext_items_end (knd:=Ap X.prog X.w) (kvs:=vs) (I.ok.hd hc) st ⟨o,es,h1,q2,hd,q4⟩ (List.getElem?_eq_none (Nat.le_refl _)) fun h' eb=>⟨rfl,I.turned (t':=s.toks) (fun b u hb e=>eb b u hb e) f0 f1 f3 f4 f5⟩
 self:=fun _ _ _ _ _ ⟨ok,ov,st⟩ h=>Aaj st h
def Aeg(to:TE):TI:=fun σ H R=>Ts Cp to σ H fun y H2=>∃v a ks,y=.ref v∧H2 v=some (.frz (Cp a) topO)∧H2 a=some (.dK ks)∧∀ob,R (ItI a ob ks) (upd H2 a (.frz ob (.dK ks)))
theorem Wb{X:Cx}{o:Expr}{elts:List Expr}{kk:Nat}{tp:Pos}{to:TE}{apos cpos:Pos}(hc:X.calm=true)(ho:PE X o to)(hbase:attributeBase o "items" X.env (eval o X.env)=eval o X.env)(hline:(apos.endLine == cpos.line)=true):PI X (.Tuple elts kk tp) (.Call (.Attribute o "items" apos) [] [] cpos) (Aeg to):=by
 intro pins s σ H R I h;refine thn (Wg (to:=to) ho hbase hline pins s σ H _ I h) fun u s1 zz=>?_;obtain⟨y,H2,I2,ry,v,a,ks,ey,ev,ea,q⟩:=zz;subst ey;obtain rfl:u=Value.ref v:=ry;have hv:s1.heap.get? v=some (Cp a):=(show ObjOk X.prog X.w H2 s1.heap v (.frz (Cp a) topO) from I2.hok v _ ev).1;obtain⟨_,hd,vs,rel,ob,es,ep,q1,q2,q3,q4⟩:=Ee I2.hok ea;have hlen:ks.length=vs.length:=Paired.length rel;refine wpAny_pyIter_items (knd:=Ap X.prog X.w) (kvs:=vs) ⟨_,hv,rfl,rfl⟩ ⟨ob,es,q1,q2,q3,q4⟩ ?_;have I3:Inv X pins σ H2 { s1 with heap:=s1.heap.push { cls:=.type "dict_itemiterator",data:=.fields #[.none,.bool false,.ref a,.int 0 0,.int vs.length 0,.int ep 0,.none,.none] } }:=I2.kept (t':=s1.toks) fun b u e=>Heap.get?_push_of_some _ e;have I4:=Inv.freeze I3 ea (Heap.get?_push_of_some _ q1);have na:s1.heap.objs.size≠a:=Nat.ne_of_gt (Heap.lt_size q1);refine⟨s1.heap.objs.size,[s1.heap.objs.size],_,ItI a ob ks,_,rfl,I4,O4 q3,⟨.none,.none,by rw[hlen];exact Heap.get?_push_size _ rfl⟩,fun b hb=>?_,q ob⟩
 have e:b=s1.heap.objs.size:=by simpa using hb
 subst e;have f:=I2.fpOk (H':=H2) (Nat.le_refl s1.heap.objs.size) (I2.hok.fresh (Nat.le_refl _));exact⟨by rw[Ae na];exact f.1,f.2⟩
section
variable{X:Cx}{elt o:Expr}{ifs:List Expr}{scope:Scope}{pos apos cpos tp:Pos}{elts:List Expr}{kk:Nat}{to te:DTE}{tf:DTT}{g:DTG}{T M:List Str}
def U4(q:Key×D):D:=.tup [kD q.1,q.2]
def Uz(n:Nat)(to:DTE)(g:DTG)(tf:DTT)(te:DTE):DTE:=fun σ G Q=>to σ G fun x G1=>∃a,x=.ref a∧∃kvs,G1 a=some (.dkk kvs)∧∀p,G1 p=none→Ef n p (kvs.map U4) (fun _=>True) g tf te σ (Ab (Fj G1 a) p (.lst [])) Q
theorem U8{K:W.Frag}{H:Hp}{kvs:List (Key×D)}{ks:List (Key×V)}(r:Paired (Ent Key K H) kvs ks){i:Nat}{k:Key}{v:V}(e:ks[i]? = some (k,v)):∃d,kvs[i]? = some (k,d)∧DV K H d v:=by
 induction r generalizing i with
 |nil=>simp at e
 |@cons x y xs ys h t ih=>
  cases i with
  |zero=>
   simp only[List.getElem?_cons_zero,Option.some.injEq] at e;subst e;obtain⟨h1,h2⟩:=h;exact⟨x.2,by simp only[List.getElem?_cons_zero];exact congrArg some (Prod.ext h1 rfl),h2⟩
  |succ i=>simpa using ih (by simpa using e)
theorem D7{K:W.Frag}{H H':Hp}(x:Ext H H'):∀{kvs:List (Key×D)} {ks:List (Key×V)},Paired (Ent Key K H) kvs ks→Paired (Ent Key K H') kvs ks
 |_,_,.nil=>.nil
 |_,_,.cons h t=>.cons ⟨h.1,h.2.ext x⟩ (D7 x t)
theorem Abl{K:W.Frag}{H:Hp}(k:Key):DV K H (kD k) (kV k):=by
 cases k with
 |inl i=>exact .int i
 |inr x=>exact .str x
theorem Y9(hc:X.calm=true)(ok:CompOz X scope (Bi X.env.cells scope.names []) T M)(ho:QE X o to)(hg:QGz X scope T M (.Tuple elts kk tp) g)(hf:QFz X scope T M ifs tf)(he:QEz X scope T M elt te)(hbase:attributeBase o "items" X.env (eval o X.env)=eval o X.env:=by rfl)(hline:(apos.endLine == cpos.line)=true:=by rfl)(hs:∀x,foldedSetIterable (.Call (.Attribute o "items" apos) [] [] cpos) X.env x=pure x:=by intro _;rfl) :
  QE X (.ListComp elt [⟨.Tuple elts kk tp,.Call (.Attribute o "items" apos) [] [] cpos,ifs,0⟩] scope pos) (Uz T.length to g tf te):=
 (C8 (g:=Cn X.K g) (tf:=Cw X.K tf) (te:=Ba X.K te) hc ok (Wb hc ho hbase hline) hg hf he hs).imp fun σ H Q zz=>by
  obtain⟨σD,G,Q',rs,rg,h,cl⟩:=zz;refine⟨σD,G,_,rs,rg,h,fun x G1 zz H1 x1 rg1 v dv=>?_⟩;obtain⟨a,ex,kvs,ea,L⟩:=zz;subst ex;cases dv;obtain⟨ks,eh,r⟩:=rg1 a _ ea;refine⟨a,ks,rfl,eh,fun w hw=>⟨w,a,ks,rfl,Af,by rw[Ae (Aj eh hw)];exact eh,fun ob p hp=>?_⟩⟩
  have e2:(upd H1 w (.frz (Cp a) topO)) a=some (.dK ks):=by rw[Ae (Aj eh hw)];exact eh
  have x2:Ext H1 (upd H1 w (.frz (Cp a) topO)):=Ext.fresh hw;have x3:Ext (upd H1 w (.frz (Cp a) topO)) (upd (upd H1 w (.frz (Cp a) topO)) a (.frz ob (.dK ks))):=Em e2;have rg3:RelG X.K (upd (upd H1 w (.frz (Cp a) topO)) a (.frz ob (.dK ks))) (Fj G1 a):=fun b u eb=>by
   by_cases hb:b=a
   ·subst hb;rw[Fj,if_pos rfl] at eb;cases eb
   ·rw[Fj,if_neg hb] at eb;exact((rg1 b u eb).upd x2 (.inl hw)).upd x3 (.inr hb)
  have pG:G1 p=none:=by
   cases z:G1 p with
   |none=>rfl
   |some u=>
    by_cases hb:p=a
    ·subst hb;rw[Af] at hp;cases hp
    ·have:=rg3.free hp
     rw[Fj,if_neg hb,z] at this;cases this
  have hlen:kvs.length=ks.length:=Paired.length r;refine Bn (J:=ItI a ob ks) (rs.ext (x1.trans (x2.trans x3))) rg3 hp (fun d' G' q=>(cl d' G' q).go (x1.trans (x2.trans x3))) (fun H' G' x' rg' s'=>?_) (L p pG);have fz:H' a=some (.frz ob (.dK ks)):=x'.frz _ _ _ Af;have r':=D7 ((x2.trans x3).trans x') r;refine⟨fun i hi=>⟨fz,by rw[List.length_map] at hi;omega⟩,fun i x H'' hi y=>?_,⟨fz,by rw[List.length_map];exact hlen⟩⟩
  obtain⟨p',k,v,hp',ek,rfl,rfl⟩:=y;obtain⟨d,ed,dv⟩:=U8 r' ek;exact⟨Ext.fresh hp',fun G r=>r.tup hp',_,by rw[List.getElem?_map,ed];rfl,.tup Af (.cons (Abl k) (.cons (dv.ext (Ext.fresh hp')) .nil))⟩
end
section
variable{X:Cx}{n:Nat}
theorem Rk(hr:Room n X.A):PSet X (fun o i v H Q=>∃a kvs k,o=.ref a∧H a=some (.dK kvs)∧i=kV k∧kvs.length<sizeLine∧Q (upd H a (.dK (Ch kvs k v)))):=by
 intro pins s σ H o i v ov iv u Q I ro ri rv h;obtain⟨a,kvs,k,rfl,ea,rfl,hl,q⟩:=h;obtain rfl:ov=Value.ref a:=ro;exact Sl (Uj hr) I (DPut.k ea hl) ri rv fun s' I'=>⟨_,I',q⟩
def Abp:J2:=fun o i v G Q=>∃p,o=.ref p∧∃k,Ks i=some k∧∃kvs,G p=some (.dkk kvs)∧kvs.length<sizeLine∧Q (Ab G p (.dkk (Jh kvs k v)))
theorem s_dictK(hr:Room n X.A):QSet X Abp:=(Rk hr).imp fun o i v H Q zz=>by
 obtain⟨d1,d2,d3,G,Q',h1,h2,h3,rg,⟨p,e1,k,ek,kvs,eg,hl,q⟩,cl⟩:=zz;subst e1;cases h1;obtain⟨ks,eh,r⟩:=rg p _ eg;exact⟨p,ks,k,rfl,eh,D6 ek h2,by rw[←Ls r];exact hl,cl _ q _ (Em eh) (rg.dkW eh (Lr h3 r))⟩
end
section
variable{X:Cx}{a:Expr}{elts:List Expr}{kk:Nat}{tp p pos:Pos}{body:List Stmt}
end
section
variable{X:Cx}{n:Nat}{o e f:Expr}{td ty tx:DTE}{apos cpos:Pos}
def Abd(td ty tx:DTE):DTE:=fun σ G Q=>td σ G fun x G1=>∃p,x=.ref p∧(∃kvs,G1 p=some (.dkk kvs))∧ty σ G1 fun y G2=>tx σ G2 fun z G3=>∃kvs,G3 p=some (.dkk kvs)∧∃k,Ks y=some k∧Q ((Ck kvs k).getD z) G3
theorem Acw(hr:Room n X.A)(ho:QE X o td)(he:QE X e ty)(hf:QE X f tx)(hbase:attributeBase o "get" X.env (eval o X.env)=eval o X.env:=by rfl)(hfew:((backTo cpos (starEach [e,f] X.env)).all (fun x=>!x.1)&&(backToKw cpos (keywordEach [] X.env)).all (fun x=>x.1.isSome)
   && decide (([e,f]:List Expr).length+([]:List Keyword).length+(if ([]:List Keyword).isEmpty then 0 else 1)<30))=true:=by rfl)(hline:(apos.endLine == cpos.line)=true:=by rfl)(htr:backTo cpos (starEach [e,f] X.env)=[(false,eval e X.env),(false,eval f X.env)]:=by rfl) :
  QE X (.Call (.Attribute o "get" apos) [e,f] [] cpos) (Abd td ty tx):=
 (Wi (Uj hr) ho he hf ⟨hbase,hfew,hline,htr⟩).imp fun σ H Q zz=>by
 obtain⟨σD,G,Q',rs,rg,h,cl⟩:=zz;refine⟨σD,G,_,rs,rg,h,fun x G1 zz H1 x1 rg1 v dv=>?_⟩;obtain⟨p,ep,⟨kvs,eg⟩,h1⟩:=zz;subst ep;cases dv;obtain⟨ks,eh,_⟩:=rg1 p _ eg;refine⟨p,rfl,.inl ⟨ks,.inl eh⟩,σD,G1,_,rs.ext x1,rg1,h1,fun y G2 h2 H2 x2 rg2 v2 dv2=>?_⟩;refine⟨σD,G2,_,(rs.ext x1).ext x2,rg2,h2,fun z G3 zz H3 x3 rg3 v3 dv3=>?_⟩;obtain⟨kvs3,eg3,k,ek,q⟩:=zz;obtain⟨ks3,eh3,r3⟩:=rg3 p _ eg3;refine⟨Cv ks3 k,?_,?_⟩
 ·rw[D6 ek (dv2.ext x3)];exact .k eh3
 ·rcases Gw (k:=k) r3 with ⟨e1,e2⟩|⟨d',w,e1,e2,dw⟩
  ·rw[e1] at q;rw[e2];exact cl _ _ q _ ((x1.trans x2).trans x3) rg3 _ dv3
  ·rw[e1] at q;rw[e2];exact cl _ _ q _ ((x1.trans x2).trans x3) rg3 _ dw
end
section
variable{X:Cx}{pins:List (Addr×Obj)}{σ:L2.St}{H:Hp}{s:Shared}{a:Addr}{E:Value→Shared→Prop}
end
section
variable{X:Cx}{n:Nat}
def dEmp(neg:Bool):DR2:=fun x y G Q=>∃p q ds,x=.ref p∧y=.ref q∧G p=some (.lst ds)∧G q=some (.lst [])∧Q (.bl (if neg=true then !ds.isEmpty else ds.isEmpty)) G
theorem o_neE(hr:Room n X.A):QOp X (compareOp .NotEq) (dEmp true):=by
 rintro pins s σ H x y v u Q I rx ry ⟨dx,dy,G,Q',hx,hy,rg,⟨p,q,ds,ep,eq,eg,eg2,h⟩,cl⟩;subst ep eq;cases hx;cases hy;obtain rfl:v=Value.ref p:=rx;obtain rfl:u=Value.ref q:=ry;obtain⟨xs,eh,r⟩:=rg p _ eg;obtain⟨ys,eh2,r2⟩:=rg q _ eg2;cases r2;obtain⟨its,rv,pl,_⟩:=I.list (.inl (.inl eh));obtain⟨its2,rv2,pl2,_⟩:=I.list (.inl (.inl eh2));cases rv2;have fin:∀b:Bool,b = !ds.isEmpty→∃v H',Inv X pins σ H' s∧L2.RelV v (.bool b)∧Q v H':=fun b e=>by
  subst e;exact⟨.bl _,H,I,rfl,cl _ G h H (Ext.refl H) rg _ (.bl _)⟩
 cases r with
 |nil=>cases rv;exact SeqAt.RcNeAt.lists (e:=fun _=>true) pl.isList pl2.isList rfl (Gq hr (n:=0) (by decide)) (fun j h1 _=>absurd h1 (by simp)) _ _ _ _ (fin _ (by rfl))
 |cons h t=>cases rv;exact SeqAt.RcNeAt.lists_lengths pl.isList pl2.isList (by simp) (Gq hr (n:=0) (by decide)) _ _ _ _ (fin _ rfl)
end
def Jj(K:W.Frag)(kvs:List (Key×D)):GO:=.any fun H a=>∃ob ks,H a=some (.frz ob (.dK ks))∧Paired (Ent Key K H) kvs ks
theorem Qx{K:W.Frag}{H:Hp}{a:Addr}{kvs:List (Key×D)}(h:GOk K H a (Jj K kvs)):∃ob ks,H a=some (.frz ob (.dK ks))∧Paired (Ent Key K H) kvs ks:=h.2 H (Ext.refl H)
theorem Aei{K:W.Frag}{H:Hp}{a:Addr}{ob:Obj}{kvs:List (Key×D)}{ks:List (Key×V)}(e:H a=some (.frz ob (.dK ks)))(r:Paired (Ent Key K H) kvs ks):GOk K H a (Jj K kvs):=⟨⟨_,_,e⟩,fun H' x=>⟨ob,ks,x.frz _ _ _ e,D7 x r⟩⟩
section
variable{X:Cx}{n:Nat}{o i e:Expr}{to td ti:DTE}{pos:Pos}
def tFrz(t:TE):TE:=fun σ H Q=>t σ H fun v H1=>∃a ks,v=.ref a∧H1 a=some (.dK ks)∧∀ob,Q v (upd H1 a (.frz ob (.dK ks)))
theorem Adj{t:TE}(he:PE X e t):PE X e (tFrz t):=by
 intro pins s σ H Q I h;refine thn (he pins s σ H _ I h) fun u s1 zz=>?_;obtain⟨v,H1,I1,rv,a,ks,ev,ea,q⟩:=zz;obtain⟨_,_,vs,rel,ob,es,ep,q1,_⟩:=Ee I1.hok ea;exact⟨v,_,Inv.freeze I1 ea q1,rv,q ob⟩
def nFrz(K:W.Frag)(t:DTE):DTE:=fun σ G Q=>t σ G fun d G1=>∃a,d=.ref a∧∃kvs,G1 a=some (.dkk kvs)∧Q d (Ab G1 a (Jj K kvs))
theorem RelG.frz{K:W.Frag}{H:Hp}{G:Gp}{a:Addr}{ob:Obj}{kvs:List (Key×D)}{ks:List (Key×V)}(rg:RelG K H G)(e:H a=some (.dK ks))(r:Paired (Ent Key K H) kvs ks):RelG K (upd H a (.frz ob (.dK ks))) (Ab G a (Jj K kvs)):=fun b u eb=>by
 have x:Ext H (upd H a (.frz ob (.dK ks))):=Em e
 by_cases hb:b=a
 ·subst hb;rw[Aa] at eb;cases eb;exact Aei Af (D7 x r)
 ·rw[Ag hb] at eb;exact(rg b u eb).upd x (.inr hb)
theorem q_frz{K:W.Frag}(he:QE X e to)(hK:X.K=K:=by rfl):QE X e (nFrz K to):=(Adj he).imp fun σ H Q zz=>by
 obtain⟨σD,G,Q',rs,rg,h,cl⟩:=zz;subst hK;refine⟨σD,G,_,rs,rg,h,fun d G1 zz H1 x1 rg1 v dv=>?_⟩;obtain⟨a,ed,kvs,eg,q⟩:=zz;subst ed;cases dv;obtain⟨ks,eh,r⟩:=rg1 a _ eg;exact⟨a,ks,rfl,eh,fun ob=>cl _ _ q _ (x1.trans (Em eh)) (rg1.frz eh r) _ (.ref a)⟩
def Ab2(td ty:TE):TE:=fun σ H Q=>td σ H fun x H1=>ty σ H1 fun y H2=>∃a kvs k v,x=.ref a∧Rd H2 a (.dK kvs)∧y=kV k∧Cv kvs k=some v∧Q v H2
theorem Wf{td ty:TE}(ho:PE X o td)(hi:PE X i ty)(hs:To i):PE X (.Subscript o i pos) (Ab2 td ty):=by
 intro pins s σ H Q I h;refine P8 PySem.F.slot_dict_getitem.lookup hs (thn (ho pins s σ H _ I h) fun u s1 ⟨x,H1,I1,rx,q1⟩=>thn (hi pins s1 σ H1 _ I1 q1) fun iv s2 ⟨y,H2,I2,ry,a,kvs,k,v,ex,g,ek,ev,q2⟩=>?_);subst ex ek;obtain rfl:u=Value.ref a:=rx;obtain⟨_,hd,vs,rel,dd⟩:=P4 I2.hok g;exact⟨dd.typeIs,U2 (kvs:=kvs) ⟨hd,vs,rel,dd⟩ I2 ev ry fun w' s3 I3 rw'=>⟨v,H2,I3,rw',q2⟩⟩
def Uw(K:W.Frag)(td ty:DTE):DTE:=fun σ G Q=>td σ G fun x G1=>ty σ G1 fun y G2=>∃p,x=.ref p∧∃kvs,G2 p=some (Jj K kvs)∧∃k,Ks y=some k∧∃d,Ck kvs k=some d∧Q d G2
theorem Y4{K:W.Frag}(ho:QE X o td)(hi:QE X i ti)(hs:To i:=by intro _ _;rfl)(hK:X.K=K:=by rfl):QE X (.Subscript o i pos) (Uw K td ti):=(Wf ho hi hs).imp fun σ H Q zz=>by
 obtain⟨σD,G,Q',rs,rg,h,cl⟩:=zz;subst hK;refine⟨σD,G,_,rs,rg,h,fun x G1 h1 H1 x1 rg1 v dv=>?_⟩;refine⟨σD,G1,_,rs.ext x1,rg1,h1,fun y G2 zz H2 x2 rg2 v2 dv2=>?_⟩;obtain⟨p,ep,kvs,eg,k,ek,d,ed,q⟩:=zz;subst ep;cases dv;obtain⟨ob,ks,eh,r⟩:=Qx (rg2 p _ eg);rcases Gw (k:=k) r with ⟨e1,e2⟩|⟨d',w,e1,e2,dw⟩
 ·rw[ed] at e1;cases e1
 ·rw[ed] at e1;cases e1;exact⟨p,ks,k,w,rfl,.inr ⟨ob,eh⟩,D6 ek dv2,e2,cl _ _ q H2 (x1.trans x2) rg2 _ dw⟩
end
def ItK(a:Addr)(o:Obj)(ks:List (Key×V)):It:=⟨fun i H=>H a=some (.frz o (.dK ks))∧i<ks.length,fun i H x H'=>∃k v,ks[i]? = some (k,v)∧x=kV k∧H'=H,fun i H=>H a=some (.frz o (.dK ks))∧i=ks.length⟩
theorem Aai{P:Program}{w:World}{A:Around}{E:Value→Shared→Prop}{s:Shared}{it d:Addr}{i n ep:Nat}{Q:Value→Shared→Prop}(hit:s.heap.IsKeyIter it d i n ep)(h:Q (.ref it) s):wpAny (model P w) A (pyIter (.ref it)) Q E s:=by
 refine wpAny_pyIter_slot hit.typeIs PySem.F.slot_dict_keyiterator_iter (wpAny_call_entry PySem.F.slot_dict_keyiterator_iter hit.typeIs PySem.F.entry_dict_keyiterator_iter ?_ (PySem.F.args_dict_keyiterator_iter_1 _));exact wpAny_pure ⟨_,rfl, "dict_keyiterator",_,hit.typeIs,PySem.F.slot_dict_keyiterator_next.lookup,h⟩
theorem Rh{P:Program}{w:World}{K:W.Frag}{tg:Expr}{a it:Addr}{o:Obj}{es:Array DictEntry}{ep:Nat}{ks:List (Key×V)}(hd:o.data=.dict es ep) :
  Turn P w K tg (ItK a o ks) [it] it (fun i h=>h.IsKeyIter it a i ks.length ep) where
 mem:=by simp
 obj:=fun i h zz b hb=>by
  obtain⟨ob,ho,_,hdt⟩:=zz;have e:b=it:=by simpa using hb
  subst e;exact⟨_,ho,fun v z=>by rw[hdt] at z;cases z⟩
 keep:=fun i h h' ⟨ob,ho,r⟩ k=>⟨ob,k it (by simp) _ ho,r⟩
 item:=by
  intro X hP hw hK hc i pins s σ H E I hf st hg;subst hP hw hK;obtain⟨hg,hi⟩:=(show H a=some (.frz o (.dK ks))∧i<ks.length from hg);obtain⟨h1,h2⟩:=(show ObjOk X.prog X.w H s.heap a (.frz o (.dK ks)) from I.hok a _ hg);obtain⟨_,_,vs,rel,ob,es',ep',q1,q2,q3,q4⟩:=h2;rw[h1] at q1;cases q1;rw[hd] at q3;cases q3;have hlen:ks.length=vs.length:=Paired.length rel;have hx:vs[i]? = some (vs[i]'(by omega)):=List.getElem?_eq_getElem (by omega)
  obtain⟨p,e1,e2,e3⟩:=Mo i rel hx;obtain⟨f0,f1,f2,f3,f4,f5⟩:=hf it (by simp)
  rw[hlen] at st;generalize (vs[i]'(by omega))=q at *
  obtain⟨qk,qv⟩:=q;obtain⟨pk,pv⟩:=p;dsimp only at e2 e3;subst e2;refine wpAny_pyNext_dict_item (knd:=Ap X.prog X.w) (kvs:=vs) st ⟨o,es,h1,q2,hd,q4⟩ hx fun key h' hkey hit' sb=>⟨_,rfl,?_⟩;obtain⟨ob',ho',hcl',hdt'⟩:=id hit';refine Mp (s:={ s with heap:=h' }) ho' hcl' hdt' (by decide) ?_
  have I1:Inv X pins σ H { s with heap:=h' }:=I.turned (t':=s.toks) (fun b u hb e=>(sb.2 b hb).trans e) f0 f1 f3 f4 f5;refine⟨kV pk,H,I1,Qt hkey,⟨pk,pv,e1,rfl,rfl⟩,by rw[hlen];exact hit',fun b hb=>?_⟩
  have e:b=it:=by simpa using hb
  subst e;exact f0
 done:=by
  intro X hP hw hK hc i pins s σ H E I hf st hg;subst hP hw hK;obtain⟨hg,hi⟩:=(show H a=some (.frz o (.dK ks))∧i=ks.length from hg);obtain⟨h1,h2⟩:=(show ObjOk X.prog X.w H s.heap a (.frz o (.dK ks)) from I.hok a _ hg);obtain⟨_,_,vs,rel,ob,es',ep',q1,q2,q3,q4⟩:=h2;rw[h1] at q1;cases q1;rw[hd] at q3;cases q3;have hlen:ks.length=vs.length:=Paired.length rel;obtain⟨f0,f1,f2,f3,f4,f5⟩:=hf it (by simp)
  rw[hi,hlen] at st;exact wpAny_pyNext_dict_end (knd:=Ap X.prog X.w) (kvs:=vs) (I.ok.hd hc) st ⟨o,es,h1,q2,hd,q4⟩ (List.getElem?_eq_none (Nat.le_refl _)) fun h' eb=>⟨rfl,I.turned (t':=s.toks) (fun b u hb e=>eb b u hb e) f0 f1 f3 f4 f5⟩
 self:=fun _ _ _ _ _ st h=>Aai st h
def iKeys(to:TE):TI:=fun σ H R=>to σ H fun y H2=>∃a ob ks,y=.ref a∧H2 a=some (.frz ob (.dK ks))∧R (ItK a ob ks) H2
theorem Zh{X:Cx}{o tg:Expr}{to:TE}(ho:PE X o to):PI X tg o (iKeys to):=by
 intro pins s σ H R I h;refine thn (ho pins s σ H _ I h) fun u s1 zz=>?_;obtain⟨y,H2,I2,ry,a,ob,ks,ey,ea,q⟩:=zz;subst ey;obtain rfl:u=Value.ref a:=ry;obtain⟨h1,h2⟩:=(show ObjOk X.prog X.w H2 s1.heap a (.frz ob (.dK ks)) from I2.hok a _ ea);obtain⟨_,hd,vs,rel,ob',es,ep,q1,q2,q3,q4⟩:=h2;rw[h1] at q1;cases q1;have hlen:ks.length=vs.length:=Paired.length rel;refine wpAny_pyIter_dict (knd:=Ap X.prog X.w) (kvs:=vs) hd ⟨ob,es,h1,q2,q3,q4⟩ ?_;have I3:Inv X pins σ H2 { s1 with heap:=s1.heap.push { cls:=.type "dict_keyiterator",data:=.fields #[.ref a,.int 0 0,.int vs.length 0,.int ep 0] } }:=I2.kept (t':=s1.toks) fun b u e=>Heap.get?_push_of_some _ e;refine⟨s1.heap.objs.size,[s1.heap.objs.size],_,ItK a ob ks,H2,rfl,I3,Rh q3,⟨_,Heap.get?_push_size _ rfl,rfl,by rw[hlen];rfl⟩,fun b hb=>?_,q⟩
 have e:b=s1.heap.objs.size:=by simpa using hb
 subst e;exact I2.fpOk (H':=H2) (Nat.le_refl s1.heap.objs.size) (I2.hok.fresh (Nat.le_refl _))
section
variable{X:Cx}{elt o tg:Expr}{ifs:List Expr}{scope:Scope}{pos:Pos}{to te:DTE}{tf:DTT}{g:DTG}{T M:List Str}
def Uy(K:W.Frag)(n:Nat)(to:DTE)(g:DTG)(tf:DTT)(te:DTE):DTE:=fun σ G Q=>to σ G fun x G1=>∃a,x=.ref a∧∃kvs,G1 a=some (Jj K kvs)∧∀p,G1 p=none→Ef n p (kvs.map fun q=>kD q.1) (fun _=>True) g tf te σ (Ab G1 p (.lst [])) Q
theorem Y8{K:W.Frag}(hc:X.calm=true)(ok:CompOz X scope (Bi X.env.cells scope.names []) T M)(ho:QE X o to)(hg:QGz X scope T M tg g)(hf:QFz X scope T M ifs tf)(he:QEz X scope T M elt te)(hs:∀x,foldedSetIterable o X.env x=pure x:=by intro _;rfl)(hK:X.K=K:=by rfl) :
  QE X (.ListComp elt [⟨tg,o,ifs,0⟩] scope pos) (Uy K T.length to g tf te):=
 (C8 (g:=Cn X.K g) (tf:=Cw X.K tf) (te:=Ba X.K te) hc ok (Zh ho) hg hf he hs).imp fun σ H Q zz=>by
  obtain⟨σD,G,Q',rs,rg,h,cl⟩:=zz;subst hK;refine⟨σD,G,_,rs,rg,h,fun x G1 zz H1 x1 rg1 v dv=>?_⟩;obtain⟨a,ex,kvs,ea,L⟩:=zz;subst ex;cases dv;obtain⟨ob,ks,eh,r⟩:=Qx (rg1 a _ ea);refine⟨a,ob,ks,rfl,eh,fun p hp=>?_⟩;have hlen:kvs.length=ks.length:=Paired.length r;refine Bn (J:=ItK a ob ks) (rs.ext x1) rg1 hp (fun d' G' q=>(cl d' G' q).go x1) (fun H' G' x' rg' s'=>?_) (L p (rg1.free hp));have fz:H' a=some (.frz ob (.dK ks)):=x'.frz _ _ _ eh;have r':=D7 x' r;refine⟨fun i hi=>⟨fz,by rw[List.length_map] at hi;omega⟩,fun i x H'' hi y=>?_,⟨fz,by rw[List.length_map];exact hlen⟩⟩
  obtain⟨k,v,ek,rfl,rfl⟩:=y;obtain⟨d,ed,dv⟩:=U8 r' ek;exact⟨Ext.refl _,fun G r=>r,_,by rw[List.getElem?_map,ed];rfl,Abl k⟩
end
section
variable{X:Cx}{pins:List (Addr×Obj)}{σ:L2.St}{H:Hp}{s:Shared}{A:Around}{E:Value→Shared→Prop}
theorem Pk{a:Addr}{kvs:List (Key×V)}{k:Key}{v:V}{u r:Value}{Q:Unit→Shared→Prop}(I:Inv X pins σ H s)(e:H a=some (.dK kvs))(l:kvs.length<sizeLine)(ry:RelV (kV k) u)(rv:RelV v r)(h:∀s',Inv X pins σ (upd H a (.dK (Ch kvs k v))) s'→(∀c o,c≠a→s.heap.get? c=some o→s'.heap.get? c=some o)→Q () s'):wpAny (model X.prog X.w) A (dictSet a u r) Q E s:=by
 obtain⟨z,hd,vs,rel,dd⟩:=Ee I.hok e;have hz:vs.length≤sizeLine:=by rw[←rel.length];exact z
 have hl:(Ch kvs k v).length≤sizeLine:=by have:=Cb kvs k v;omega
 unfold dictSet;refine wpAny_holding (wpAny_bind ((Ap X.prog X.w).pyHash (Gd ry) ?_));refine wpAny_dictSetHashed_pairs (hsz:=hz) (Gd ry) dd fun h' dd' hs=>h _ ?_ fun c o hc eo=>(hs.2 c hc).trans eo;have he:∃q,h'.get? a=some q:=let ⟨q,_,_,hq,_⟩:=dd';⟨q,hq⟩;exact Gx (I.tok _) (by rw[e];exact True.intro) hs he (O0 hl hd (rel.put k rv) dd')
end
abbrev O1(H:Hp):List V→List (Key×V)→Prop:=Paired fun y e=>∃b,y=.ref b∧H b=some (.tup [kV e.1,e.2])
section
variable{X:Cx}{pins:List (Addr×Obj)}{σ:L2.St}{H:Hp}{p a it:Addr}{ys:List V}{es:List (Key×V)}
theorem Re{A:Around}{R:Result→Shared→Prop}(hu:A.units+1<cLine)(hh:A.handled=none)(hp:H p=none)(hy:SqL X.K H a ys)(pr:O1 H ys es)(hz:es.length<sizeLine)(q:∀s',Inv X pins σ (upd H p (.dK (El [] es))) s'→R (.ok (.ret .none)) s'):∀(m i:Nat) (s:Shared) (acc:List (Key×V)),m+i=ys.length→acc=El [] (es.take i)→Inv X pins σ (upd H p (.dK acc)) s→Dl X pins (upd H p (.dK acc)) it→s.heap.IsListIter it a i→
   codeAny (model X.prog X.w) A (.builtin "dict.update.loop" ⟨[.ref p,.ref it,rawInt i,.none],[]⟩) R s:=by
 have hne:∀{b:Addr} {o u:HO},H b=some o→upd H p u b=some o:=fun {b o u} e=>by rw[Ae (Aj e hp)];exact e
 have hy':∀u,SqL X.K (upd H p u) a ys:=fun u=>hy.elim (fun h=>.inl (h.elim (fun e=>.inl (hne e)) fun⟨o,e⟩=>.inr ⟨o,hne e⟩)) .inr;intro m
 induction m with
 |zero=>
  intro i s acc hm hacc I hf st;obtain⟨its,rv,pl,hz'⟩:=I.list (hy' _);obtain⟨f0,f1,f2,f3,f4,f5⟩:=hf;have hl:=rv.length;refine codeAny_builtin Eh ?_;rw[Around.under_plainId B5 _];unfold Builtin.«dict.update.loop»;refine wpAny_bind (wpAny_pyNext_list_end (A:=A.in1) hh st pl.isList (by simp;omega) fun h' eb=>?_)
  have I1:Inv X pins σ (upd H p (.dK acc)) { s with heap:=h' }:=I.turned (t':=s.toks) (fun b o hb e=>eb b o hb e) f0 f1 f3 f4 f5;show wpAny _ _ (Builtin.Dict.addKeywords p [] >>= _) _ _ _;refine wpAny_bind (wpAny_pure (wpAny_pure ?_));refine q _ ?_;have e:acc=El [] es:=by rw[hacc,List.take_of_length_le (by have:=Paired.length pr;omega)]
  rw[←e];exact I1
 |succ m ih=>
  intro i s acc hm hacc I hf st;obtain⟨its,rv,pl,hz'⟩:=I.list (hy' _);have hl:=rv.length;have hi:i<ys.length:=by omega
  obtain⟨y,hyi⟩:∃y,ys[i]? = some y:=⟨ys[i],by simp[hi]⟩
  obtain⟨u,hu',ru⟩:=rv.get hyi;obtain⟨e,hei,b,rfl,hb⟩:=Bf pr hyi;obtain rfl:u=Value.ref b:=ru;obtain⟨f0,f1,f2,f3,f4,f5⟩:=id hf;refine codeAny_builtin Eh ?_;rw[Around.under_plainId B5 _];unfold Builtin.«dict.update.loop»;refine wpAny_bind (wpAny_pyNext_list_item st pl.isList (x:=.ref b) (by simpa using hu') fun h' st' sb=>?_)
  have I1:Inv X pins σ (upd H p (.dK acc)) { s with heap:=h' }:=I.turned (t':=s.toks) (fun b o hb e=>(sb.2 b hb).trans e) f0 f1 f3 f4 f5;obtain⟨_,tits,tr,o,ho,hcl,n,hdt⟩:=(show ObjOk X.prog X.w _ h' b (.tup _) from I1.hok b _ (hne hb));obtain⟨c,v,rfl,rc,rv2⟩:=Es tr
  ·skip
   have hT:(⟨h',s.gens,s.drawn,s.toks,s.os⟩:Shared).TypeIs (.ref b) "tuple":=⟨_,ho,hcl⟩;show wpAny _ _ (holding _ _ >>= _) _ _ _;refine wpAny_bind (wpAny_holding (wpAny_bind (wpAny_tryCatch ?_)));unfold Builtin.Dict.pairItems;refine wpAny_bind (wpAny_typeOf hT ?_);rw[if_pos (by decide)]
   refine wpAny_bind (wpAny_seqItems ho hdt (wpAny_pure ?_));show wpAny _ _ (holding [c,v] (dictSet p c v)) _ _ _;have hlen:acc.length<sizeLine:=by
    have:=Eg (es.take i) []
    rw[←hacc,List.length_take] at this;simp at this;omega
   refine wpAny_holding (Pk I1 Af hlen rc rv2 fun s2 I2 kp=>?_);have hip:it≠p:=fun z=>by rw[z,Af] at f0;cases f0
   refine wpAny_pure ⟨plainId_quiet B5 _,?_⟩;rw[Yf] at I2;refine ih (i+1) s2 _ (by omega) ?_ I2 ⟨?_,f1,f2,f3,f4,f5⟩ (st'.at fun o e=>kp _ _ hip e)
   ·have et:es.take (i+1)=es.take i++[e]:=by rw[List.take_add_one,hei];rfl
    rw[et];show _=List.foldl _ _ _;rw[List.foldl_append,hacc];rfl
   ·rw[Ae hip];rw[Ae hip] at f0;exact f0
theorem Pn{k:Nat}(hcalm:X.calm=true)(hr:Room k X.A):CallR X (.type "dict") (fun xs H Q=>∃(a:Addr) (ys:List V) (es:List (Key×V)),xs=[.ref a]∧SqL X.K H a ys∧O1 H ys es∧es.length<sizeLine∧∀p,H p=none→Q (.ref p) (upd H p (.dK (El [] es)))):=by
 intro pins s σ H xs us Q I r h;obtain⟨a,ys,es,rfl,hy,pr,hz,q⟩:=h;obtain⟨u,rfl,rx⟩:=By r;cases rx;have hn:=I.hok.fresh (Nat.le_refl s.heap.objs.size);have I1:=I.laid (a:=s.heap.objs.size) (o:=.dK []) (h':=s.heap.push { cls:=.type "dict",data:=.dict #[] }) (t':=s.toks) (fun _ _ q=>Heap.get?_push_of_some _ q) (Nat.le_refl _) (Ie s.heap I.big);refine callType_codes (Q₁:=fun obj s₁=>obj=.ref s.heap.objs.size∧s₁={ s with heap:=s.heap.push { cls:=.type "dict",data:=.dict #[] } }) F.kt_called_dict (F.kt_typeCall_dict_1 _) F.entry_dict_init (kt_code_dict_new _ ⟨rfl,rfl⟩) ?_;rintro obj s₁ ⟨rfl,rfl⟩;have hty:({ s with heap:=s.heap.push { cls:=.type "dict",data:=.dict #[] } }:Shared).TypeIs (.ref s.heap.objs.size) "dict":=⟨_,Heap.get?_push_size _ rfl,rfl⟩;refine⟨hty,F.args_dict_init_2 _ _,?_⟩;unfold Builtin.«dict.__init__»;refine wpAny_bind ?_;unfold Builtin.Dict.selfAndRest;refine wpAny_bind (wpAny_notOrdered_dict hty ?_);show wpAny _ _ (pure (s.heap.objs.size,[Value.ref a])) _ _ _;refine wpAny_pure ?_;show wpAny _ _ (Builtin.Dict.updateFrom "dict.__init__" s.heap.objs.size (.ref a) [] .none) _ _ _;unfold Builtin.Dict.updateFrom;have hy1:SqL X.K (upd H s.heap.objs.size (.dK [])) a ys:=hy.elim (fun h=>.inl (h.elim (fun e=>.inl (by rw[Ae (Aj e hn)];exact e)) fun⟨o,e⟩=>.inr ⟨o,by rw[Ae (Aj e hn)];exact e⟩)) .inr
 obtain⟨its,rv,pl,hz'⟩:=I1.list hy1;obtain⟨o,n,ho,hcl,hdc,hdt⟩:=id pl;refine wpAny_bind (wpAny_typeOf (show({ s with heap:=s.heap.push { cls:=.type "dict",data:=.dict #[] } }:Shared).TypeIs (.ref a) "list" from⟨_,ho,hcl⟩) ?_);rw[if_pos (by decide)]
 refine wpAny_bind (N2 ho hcl hdt hdc (I.ok.hd hcalm) fun h2 tk kp2=>?_);have I2:Inv X pins σ (upd H s.heap.objs.size (.dK [])) { s with heap:=h2,toks:=tk }:=I1.kept (h':=h2) (t':=tk) kp2;obtain⟨its2,rv2,pl2,_⟩:=I2.list hy1;show wpAny _ _ (rule _ >>= _) _ _ _;refine wpAny_bind (wpAny_rule (wpAny_bind (wpAny_pyIter_list pl2.isList (wpAny_pure ⟨plainId_quiet B5 _,?_⟩))));have st0:Heap.IsListIter (h2.push { cls:=.type "list_iterator",data:=.fields #[.ref a,.int 0 0] }) h2.objs.size a 0:=⟨_,Heap.get?_push_size _ rfl,rfl,rfl⟩;have I3:Inv X pins σ (upd H s.heap.objs.size (.dK [])) { s with heap:=h2.push { cls:=.type "list_iterator",data:=.fields #[.ref a,.int 0 0] },toks:=tk }:=I2.kept (t':=tk) fun b o e=>Heap.get?_push_of_some _ e;have f3:Dl X pins (upd H s.heap.objs.size (.dK [])) h2.objs.size:=I2.fpOk (Nat.le_refl _) (I2.hok.fresh (Nat.le_refl _));have L:=fun R q=>Re (X:=X) (A:=X.A.in1) (R:=R) (p:=s.heap.objs.size) (it:=h2.objs.size) (pins:=pins) (σ:=σ) (show X.A.units+1+1<cLine by have:=hr.un;omega) (I.ok.hd hcalm) hn hy pr hz q ys.length 0 _ [] (by omega) rfl I3 f3 st0
 exact L _ fun s' I'=>⟨rfl,.ref s.heap.objs.size,_,I',rfl,q _ hn⟩
def Fm:List D→Option (List (Key×D))
 |[]=>some []
 |.tup [x,y]::r=>match Ks x,Fm r with
  |some k,some es=>some ((k,y)::es)
  |_,_=>none
 |_=>none
theorem J9{K:W.Frag}{H:Hp}:∀{ds:List D} {es:List (Key×D)} {vs:List V},Fm ds=some es→DVs K H ds vs→∃es':List (Key×V),O1 H vs es'∧Paired (Ent Key K H) es es'
 |[],_,_,e,.nil=>by cases e;exact⟨[],.nil,.nil⟩
 |.tup [x,y]::r,es,_,e,.cons h t=>by
  simp only[Fm] at e
  split at e
  ·rename_i k es' h1 h2;cases e;cases h with
   |tup e' rr=>
    obtain⟨v,w,rfl,dx,dy⟩:=rr.two;obtain⟨es2,p1,p2⟩:=J9 h2 t;rw[D6 h1 dx] at e';exact⟨(k,w)::es2,.cons ⟨_,rfl,e'⟩ p1,.cons ⟨rfl,dy⟩ p2⟩
  ·cases e
def Hf(acc es:List (Key×D)):List (Key×D):=es.foldl (fun acc e=>Jh acc e.1 e.2) acc
theorem Ix{K:W.Frag}{H:Hp}:∀{es:List (Key×D)} {es':List (Key×V)},Paired (Ent Key K H) es es'→∀{acc:List (Key×D)} {acc':List (Key×V)},Paired (Ent Key K H) acc acc'→Paired (Ent Key K H) (Hf acc es) (El acc' es')
 |_,_,.nil,_,_,r=>r
 |(a,x)::_,_,.cons (b:=(b,y)) h t,acc,acc',r=>by
  cases(show a=b from h.1);exact Ix t (Lr h.2 r)
theorem c_dictK{n:Nat}(hcalm:X.calm=true)(hr:Room n X.A):QC X (.type "dict") (fun ds G Q=>∃d,ds=[d]∧∃l,d=.ref l∧∃its,G l=some (.lst its)∧∃es,Fm its=some es∧es.length<sizeLine∧∀p,G p=none→Q (.ref p) (Ab G p (.dkk (Hf [] es)))):=
 (Pn hcalm hr).imp fun xs H Q zz=>by
 obtain⟨ds,G,Q',dv,rg,⟨d,e,l,el,its,eg,es,ee,hz,q⟩,cl⟩:=zz;subst e el;obtain⟨v,rfl,h⟩:=dv.one;cases h;obtain⟨ys,ey,r⟩:=rg l _ eg;obtain⟨es',p1,p2⟩:=J9 ee r;exact⟨l,ys,es',rfl,.inl (.inl ey),p1,by rw[←Ls p2];exact hz,fun p hp=>cl _ _ (q p (rg.free hp)) _ (Ext.fresh hp) (rg.new hp ⟨_,Af,D7 (Ext.fresh hp) (Ix p2 .nil)⟩) _ (.ref p)⟩
end
section
variable{X:Cx}{a e b:Expr}{ta:TA}{tA:DTA}{te tb:DTE}{p p0 p2 pos pos0:Pos}
def tRng1(ta:TA):TE:=fun σ H Q=>ta σ H fun vs H1=>∃j:Int,vs=[.int j]∧∀r,H1 r=none→Q (.ref r) (upd H1 r (.rng 0 j))
theorem Zj(hg:Gl X "range")(hm:X.mg "range" = none)(ha:PA X [a] ta)(hs:starEach [a] X.env=[(false,eval a X.env)])(hs2:starEach [] X.env=[]):PE X (.Call (.Name "range" p) [a] [] pos) (tRng1 ta):=by
 intro pins s σ H Q I h;refine Call_ (Df I hg hm boot_range (PyProof.Rows.callWith_type1 (thn (ha pos pins s σ H _ I h) fun us s1 ⟨vs,H1,I1,r1,q1⟩=>?_) (by rw[hs,hs2]) (by rw[hs2];rfl)))
 obtain⟨j,e,q⟩:=q1;subst e;obtain⟨u,rfl,ru⟩:=By r1;obtain⟨t,rfl⟩:=ru;refine call_range_1 ?_;exact⟨.ref s1.heap.objs.size,_,I1.laid (o:=.rng 0 j) (fun b u e=>Heap.get?_push_of_some _ e) (Nat.le_refl _) ⟨_,_,_,Heap.get?_push_size _ rfl⟩,rfl,q _ (I1.hok.fresh (Nat.le_refl _))⟩
def Uv(tA:DTA):DTE:=fun σ G Q=>tA σ G fun ds G1=>∃j,ds=[.int j]∧(0≤j∧j<2 ^ 20)∧∀l,G1 l=none→Q (.ref l) (Ab G1 l (.lst (Ce 0 j)))
theorem Y3(hc:X.calm=true)(hmT:X.mg "list" = none)(hm:X.mg "range" = none)(ha:QA X [a] tA)(hgT:Gl X "list":=by rfl)(hg:Gl X "range":=by rfl)(hs:starEach [a] X.env=[(false,eval a X.env)]:=by rfl)(hs2:starEach [] X.env=[]:=by rfl)(hs1:starEach [.Call (.Name "range" p0) [a] [] pos0] X.env=[(false,eval (.Call (.Name "range" p0) [a] [] pos0) X.env)]:=by rfl) :
  QE X (.Call (.Name "list" p) [.Call (.Name "range" p0) [a] [] pos0] [] pos) (Uv tA):=by
 refine(J8 (Pl hc) hgT hmT (by decide +kernel) (Dg (Zj hg hm ha hs hs2) pa_nil hs1) (he:=hs1)).imp fun σ H Q zz=>?_
 obtain⟨σD,G,Q',rs,rg,h,cl⟩:=zz;refine⟨σD,G,_,rs,rg,h,fun ds G1 zz H1 x1 rg1 vs dv=>?_⟩;obtain⟨j,e,bd,q⟩:=zz;subst e;obtain⟨u,rfl,ru⟩:=dv.one;cases ru;refine⟨j,rfl,fun r hr=>⟨r,0,j,rfl,Af,⟨by omega,by omega,by omega,by omega⟩,by omega,fun l hl'=>?_⟩⟩
 have x2:Ext H1 (upd H1 r (.rng 0 j)):=Ext.fresh hr;have rg2:RelG X.K (upd H1 r (.rng 0 j)) G1:=rg1.tup hr;exact cl _ _ (q l (rg2.free hl')) _ (x1.trans (x2.trans (Ext.fresh hl'))) (rg2.lst hl' (Np _)) _ (.ref l)
theorem Ib{K:W.Frag}{H:Hp}{ds:List D}{vs:List V}(r:DVs K H ds vs):∀idx:List Nat,DVs K H (idx.filterMap (ds[·]?)) (idx.filterMap (vs[·]?))
 |[]=>.nil
 |i::idx=>by
  have hl:=r.length
  by_cases h:i<ds.length
  ·obtain⟨v,ev,dv⟩:=r.get (List.getElem?_eq_getElem h);rw[List.filterMap_cons_some (List.getElem?_eq_getElem h),List.filterMap_cons_some ev];exact .cons dv (Ib r idx)
  ·rw[List.filterMap_cons_none (List.getElem?_eq_none (by omega)),List.filterMap_cons_none (List.getElem?_eq_none (by omega))]
   exact Ib r idx
theorem Ft{xs:List V}{us:List Value}(r:Vals xs us):∀idx:List Nat,Vals (idx.filterMap (xs[·]?)) (idx.filterMap (us[·]?))
 |[]=>.nil
 |i::idx=>by
  have hl:=r.length
  by_cases h:i<xs.length
  ·obtain⟨v,ev,dv⟩:=r.get (List.getElem?_eq_getElem h);rw[List.filterMap_cons_some (List.getElem?_eq_getElem h),List.filterMap_cons_some ev];exact .cons dv (Ft r idx)
  ·rw[List.filterMap_cons_none (List.getElem?_eq_none (by omega)),List.filterMap_cons_none (List.getElem?_eq_none (by omega))]
   exact Ft r idx
def Aa6(te ts:DTE):DTE:=fun σ G Q=>te σ G fun x G1=>ts σ G1 fun y G2=>∃k,y=.int k∧k≠0∧∃p ds,x=.ref p∧G2 p=some (.lst ds)∧∀l es,G2 l=none→(∀d∈es,d∈ds)→es.length≤ds.length→Q (.ref l) (Ab G2 l (.lst es))
theorem q_step(he:QE X e te)(hb:QE X b tb):QE X (.Subscript e (.Slice none none (some b) p2) pos) (Aa6 te tb):=by
 rintro pins s σ H Q I ⟨σD,G,Q',rs,rg,h,cl⟩;refine Subscript_ (thn (he pins s σ H (fun xv H1=>∃x G1,DV X.K H1 x xv∧(tb σD G1 fun y G2=>∃k,y=.int k∧k≠0∧∃p ds,x=.ref p∧G2 p=some (.lst ds)∧∀l es,G2 l=none→(∀d∈es,d∈ds)→es.length≤ds.length→Q' (.ref l) (Ab G2 l (.lst es)))∧RelG X.K H1 G1∧Ext H H1) I ⟨σD,G,_,rs,rg,h,fun x G1 h1 H1 x1 rg1 v1 d1=>⟨x,G1,d1,h1,rg1,x1⟩⟩) fun v s1 zz=>?_);obtain⟨xv,H1,I1,r1,x,G1,d1,h1,rg1,x1⟩:=zz;refine wpAny_Slice ?_;rw[evalPart_none];refine wpAny_pure (wpAny_pure ?_);rw[evalPart_some];refine thn (hb pins s1 σ H1 (fun yv H2=>∃y G2,DV X.K H2 y yv∧(∃k,y=.int k∧k≠0∧∃p ds,x=.ref p∧G2 p=some (.lst ds)∧∀l es,G2 l=none→(∀d∈es,d∈ds)→es.length≤ds.length→Q' (.ref l) (Ab G2 l (.lst es)))∧RelG X.K H2 G2∧Ext H1 H2) I1 ⟨σD,G1,_,rs.ext x1,rg1,h1,fun y G2 h2 H2 x2 rg2 v2 d2=>⟨y,G2,d2,h2,rg2,x2⟩⟩) fun vst s3 zz=>?_;obtain⟨yv,H3,I3,r3,y,G2,d2,⟨k,ey,hk,pa,ds,ex,eg,h2⟩,rg2,x2⟩:=zz;subst ey ex;cases d2;cases d1;obtain⟨tk,rfl⟩:=r3;obtain rfl:v=Value.ref pa:=r1;have I4:Inv X pins σ H3 { s3 with heap:=s3.heap.push { cls:=.type "slice",data:=.fields #[.none,.none,.int k tk] } }:=I3.kept (t':=s3.toks) fun b ob q=>Heap.get?_push_of_some _ q;have hsl:({ s3 with heap:=s3.heap.push { cls:=.type "slice",data:=.fields #[.none,.none,.int k tk] } }:Shared).heap.IsSliceOf s3.heap.objs.size .none .none (.int k tk):=Heap.IsSliceOf.new ..;show wpAny (model X.prog X.w) X.A (subscriptTail e (.Slice none none (some b) p2) (.ref pa) (.ref s3.heap.objs.size)) (EP X pins σ Q) X.xe { s3 with heap:=s3.heap.push { cls:=.type "slice",data:=.fields #[.none,.none,.int k tk] } };have cl2:=fun d G' q=>(cl d G' q).go (x1.trans x2);obtain⟨xs,eh,r⟩:=rg2 pa _ eg;obtain⟨its,rv,ht,hz⟩:=I4.list (.inl (.inl eh));have hlen:=rv.length;refine tail_any (ops:=[.ref pa,.ref s3.heap.objs.size]) ht.isList.typeIs slot_list_getitem.lookup (wpAny_getItem_list_slice ht.isList hsl .none .none (.int _ _) (fun z=>hk (Option.some.inj z)) ?_ (by rw[List.size_toArray];omega)) (by with_unfolding_all rfl)
 have hsz:=slicePick_size_le its.toArray none none (some k);unfold slicePick at hsz ⊢;generalize sliceRange (sliceBounds none none (some k) its.toArray.size).1 (sliceBounds none none (some k) its.toArray.size).2.1 (sliceBounds none none (some k) its.toArray.size).2.2=idx at *;have ei:idx.filterMap (its.toArray[·]?)=idx.filterMap (its[·]?):=by congr 1;funext i;exact List.getElem?_toArray
 rw[ei] at hsz ⊢;rw[List.size_toArray,List.size_toArray] at hsz;have hv:=Ft rv idx;have hd:=Ib r idx;have hp:=I4.hok.fresh (Nat.le_refl ({ s3 with heap:=s3.heap.push { cls:=.type "slice",data:=.fields #[.none,.none,.int k tk] } }:Shared).heap.objs.size);refine⟨.ref _,_,I4.laid (t':=s3.toks) (o:=.lst (idx.filterMap (xs[·]?))) (fun b ob q=>Heap.get?_push_of_some _ q) (Nat.le_refl _) ⟨by rw[hv.length];omega,_,0,hv,Heap.get?_push_size _ rfl⟩,rfl,?_⟩
 refine cl2 _ _ (h2 _ (idx.filterMap (ds[·]?)) (rg2.free hp) (fun d hd'=>?_) ?_) _ (Ext.fresh hp) (rg2.lst hp hd) _ (.ref _)
 ·obtain⟨i,_,e⟩:=List.mem_filterMap.mp hd';exact List.mem_of_getElem? e
 ·rw[hd.length,hv.length,r.length];omega
end
section
variable{P:Program}{w:World}{A:Around}{E:Value→Shared→Prop}{s:Shared}{κ:Type}[Inhabited κ]{lt:κ→κ→Bool}{KA:Heap→Addr→κ→Prop}
def La(KA:Heap→Addr→κ→Prop)(vs:List Value)(ks:List κ)(h:Heap):Prop:=∀(i:Nat) v k,vs[i]? = some v→ks[i]? = some k→∃a,v=.ref a∧KA h a k
def btK(lt:κ→κ→Bool)(ks:List κ)(i j:Nat):Bool:=lt (ks.getD i default) (ks.getD j default)
theorem Iy(irr:∀a,lt a a=false)(tr:∀a b c,lt a b=true→lt b c=true→lt a c=true)(ks:List κ):∀n,argBest (btK lt ks) n≤n∧∀j,j≤n→lt (ks.getD j default) (ks.getD (argBest (btK lt ks) n) default)=false
 |0=>⟨Nat.le_refl _,fun j hj=>by obtain rfl:j=0:=Nat.le_zero.mp hj;exact irr _⟩
 |n+1=>by
  obtain⟨h1,h2⟩:=Iy irr tr ks n;rw[argBest]
  by_cases hb:btK lt ks (n+1) (argBest (btK lt ks) n)=true
  ·rw[if_pos hb];refine⟨Nat.le_refl _,fun j hj=>?_⟩
   by_cases e:j=n+1
   ·subst e;exact irr _
   ·have:=h2 j (by omega)
    cases z:lt (ks.getD j default) (ks.getD (n+1) default) with
    |false=>rfl
    |true=>rw[tr _ _ _ z hb] at this;cases this
  ·rw[if_neg hb];refine⟨by omega,fun j hj=>?_⟩
   by_cases e:j=n+1
   ·subst e;exact Bool.eq_false_iff.mpr hb
   ·exact h2 j (by omega)
theorem W2{l:Addr}{vs:List Value}{ks:List κ}{kw:List (Str×Value)}{R:Result→Shared→Prop}(hh:A.handled=none)(hl:s.heap.IsList l vs.toArray)(hlen:vs.length=ks.length)(irr:∀a,lt a a=false)(tr:∀a b c,lt a b=true→lt b c=true→lt a c=true)(hst:∀h h' a k,KA h a k→(∀b o,b<s.heap.objs.size→h.get? b=some o→h'.get? b=some o)→KA h' a k)(hlt:∀(s':Shared) a b k1 k2 (Q:Value→Shared→Prop) (E:Value→Shared→Prop),KA s'.heap a k1→KA s'.heap b k2→Q (.bool (lt k1 k2)) s'→wpAny (model P w) A.in1 (richCompare .Lt (.ref a) (.ref b)) Q E s')(hH:La KA vs ks s.heap)(hne:0<ks.length)(fin:∀(g:Heap) (tk:Tok) (v:Value) (i:Nat) (M:κ),(∀b o,s.heap.get? b=some o→g.get? b=some o)→vs[i]? = some v→ks[i]? = some M→(∀a∈ks,lt a M=false)→R (.ok (.ret v)) { s with heap:=g,toks:=tk }) :
  codeAny (model P w) A (.builtin "min.loop" ⟨[.ref s.heap.objs.size,.none,.ref (s.heap.objs.size+1)],kw⟩) R { s with heap:=(s.heap.push { cls:=.type "list_iterator",data:=.fields #[.ref l,.int 0 0] }).push { cls:=.type "list",data:=.seq ([]:List Value).toArray } }:=by
 have hl0:l<s.heap.objs.size:=by obtain⟨o,e,_⟩:=hl;exact Heap.lt_size e
 have W:=Walks.list (prog:=P) (w:=w) (A:=A.in1) hh s.heap.objs.size l (Nat.ne_of_lt hl0) vs.toArray;have k2:∀b o,s.heap.get? b=some o→((s.heap.push { cls:=.type "list_iterator",data:=.fields #[.ref l,.int 0 0] }).push { cls:=.type "list",data:=.seq ([]:List Value).toArray }).get? b=some o:=fun b o e=>Heap.get?_push_of_some _ (Heap.get?_push_of_some _ e);have off:s.heap.objs.size+1 ∉ [s.heap.objs.size,l]:=by
  simp only[List.mem_cons,List.not_mem_nil,or_false,not_or];exact⟨Nat.succ_ne_self _,Nat.ne_of_gt (Nat.lt_succ_of_lt hl0)⟩
 have hS:((s.heap.push { cls:=.type "list_iterator",data:=.fields #[.ref l,.int 0 0] }).push { cls:=.type "list",data:=.seq ([]:List Value).toArray }).get? (s.heap.objs.size+1)=some (seqObj "list" #[] 0):=by
  have:=Heap.get?_push_size (h:=s.heap.push { cls:=.type "list_iterator",data:=.fields #[.ref l,.int 0 0] }) (o:={ cls:=.type "list",data:=.seq ([]:List Value).toArray }) rfl
  rw[Heap.size_push] at this;exact this
 have hvsz:vs.toArray.size=ks.length:=by simp[hlen]
 have cmp:Yd P w A.in1 (La KA vs ks) (fun i v=>vs.toArray[i]? = some v) (btK lt ks):=by
  intro i j vi vj s' Q E hH hi hj q;have hi':vs[i]? = some vi:=by simpa using hi
  have hj':vs[j]? = some vj:=by simpa using hj
  have li:i<ks.length:=by rw[←hlen];exact(List.getElem?_eq_some_iff.mp hi').1
  have lj:j<ks.length:=by rw[←hlen];exact(List.getElem?_eq_some_iff.mp hj').1
  obtain⟨a,rfl,ka⟩:=hH i vi _ hi' (List.getElem?_eq_getElem li);obtain⟨b,rfl,kb⟩:=hH j vj _ hj' (List.getElem?_eq_getElem lj);refine hlt s' a b _ _ Q E ka kb ?_;have e:btK lt ks i j=lt ks[i] ks[j]:=by
   unfold btK;rw[List.getD_eq_getElem?_getD,List.getD_eq_getElem?_getD,List.getElem?_eq_getElem li,List.getElem?_eq_getElem lj];rfl
  rw[←e];exact q
 refine Nc (Hv:=La KA vs ks) W cmp (fun h h' hv kp i v p e1 e2=>?_) off (by omega) (fun i v p e1 e2=>?_) ⟨⟨_,Heap.get?_push_of_some _ (Heap.get?_push_size _ rfl),rfl,rfl⟩,(hl.push _).push _⟩ hS fun v g tk hv kp=>?_
 ·obtain⟨a,e,k⟩:=hv i v p e1 e2;exact⟨a,e,hst _ _ _ _ k fun b o hb ho=>kp b o (by simp only[List.mem_singleton];exact Nat.ne_of_lt hb) (Nat.ne_of_lt (Nat.lt_succ_of_lt hb)) ho⟩
 ·obtain⟨a,e,k⟩:=hH i v p e1 e2;exact⟨a,e,hst _ _ _ _ k fun b o _ ho=>k2 b o ho⟩
 ·obtain⟨h1,h2⟩:=Iy irr tr ks (vs.toArray.size-1);have hlb:argBest (btK lt ks) (vs.toArray.size-1)<ks.length:=by omega
  refine fin g tk v _ (ks[argBest (btK lt ks) (vs.toArray.size-1)]) (fun b o e=>?_) (by simpa using hv) (List.getElem?_eq_getElem hlb) fun a ha=>?_
  ·have hb:=Heap.lt_size e;exact kp b o (by simp only[List.mem_singleton];exact Nat.ne_of_lt hb) (Nat.ne_of_lt (Nat.lt_succ_of_lt hb)) (k2 b o e)
  ·obtain⟨j,hj,rfl⟩:=List.getElem_of_mem ha
   have:=h2 j (by omega)
   rw[List.getD_eq_getElem?_getD,List.getD_eq_getElem?_getD,List.getElem?_eq_getElem hj,List.getElem?_eq_getElem hlb] at this;exact this
theorem Nd{l:Addr}{vs:List Value}{ks:List κ}{Q:Value→Shared→Prop}(hh:A.handled=none)(hl:s.heap.IsList l vs.toArray)(hlen:vs.length=ks.length)(irr:∀a,lt a a=false)(tr:∀a b c,lt a b=true→lt b c=true→lt a c=true)(hst:∀h h' a k,KA h a k→(∀b o,b<s.heap.objs.size→h.get? b=some o→h'.get? b=some o)→KA h' a k)(hlt:∀(s':Shared) a b k1 k2 (Q:Value→Shared→Prop) (E:Value→Shared→Prop),KA s'.heap a k1→KA s'.heap b k2→Q (.bool (lt k1 k2)) s'→wpAny (model P w) A.in1 (richCompare .Lt (.ref a) (.ref b)) Q E s')(hH:La KA vs ks s.heap)(hne:0<ks.length)(q:∀(g:Heap) (tk:Tok) (v:Value) (i:Nat) (M:κ),(∀b o,s.heap.get? b=some o→g.get? b=some o)→vs[i]? = some v→ks[i]? = some M→(∀a∈ks,lt a M=false)→Q v { s with heap:=g,toks:=tk }) :
  wpAny (model P w) A (call (.builtin "min") [.ref l]) Q E s:=by
 refine call_function_tree F.kind_min F.plain_min F.entry_min (F.args_min1 _) ?_;show wpAny _ A.in1 (Builtin.Builtins.bindParams "min" ["key", "default"] 0 ⟨[],[]⟩ >>= _) _ _ s;refine wpAny_bind (wpAny_of_eq (show Builtin.Builtins.bindParams "min" ["key", "default"] 0 ⟨[],[]⟩=pure [none,none] from rfl) ?_);refine wpAny_bind (wpAny_pure ?_);refine wpAny_bind (wpAny_pyIter_list hl ?_);refine wpAny_bind (wpAny_newObj_type ?_);rw[D4,Heap.size_push];exact wpAny_pure ⟨plainId_quiet F.plain_min_loop _,W2 hh hl hlen irr tr hst hlt hH hne q⟩
end
theorem C0:∀a:List Int,A5 a a=false
 |[]=>rfl
 |x::r=>by rw[A5,if_pos rfl,C0 r]
theorem Gv:∀{a b c:List Int},A5 a b=true→A5 b c=true→A5 a c=true
 |[],[],_,h,_=>by cases h
 |[],_::_,[],_,h=>by cases h
 |[],_::_,_::_,_,_=>rfl
 |_::_,[],_,h,_=>by cases h
 |_::_,_::_,[],_,h=>by cases h
 |x::a,y::b,z::c,h1,h2=>by
  rw[A5] at h1 h2 ⊢
  by_cases e1:x=y
  ·rw[if_pos e1] at h1
   by_cases e2:y=z
   ·rw[if_pos e2] at h2;rw[if_pos (e1.trans e2)];exact Gv h1 h2
   ·rw[if_neg e2] at h2;rw[if_neg (by omega)];rw[e1];exact h2
  ·rw[if_neg e1] at h1
   by_cases e2:y=z
   ·rw[if_pos e2] at h2;rw[if_neg (by omega)];rw[←e2];exact h1
   ·rw[if_neg e2] at h2;have h1:=of_decide_eq_true h1;have h2:=of_decide_eq_true h2;rw[if_neg (by omega),decide_eq_true (by omega)]
def lt2(x y:Int×List Int):Bool:=if x.1=y.1 then A5 x.2 y.2 else decide (x.1<y.1)
theorem Ad0(a:Int×List Int):lt2 a a=false:=by unfold lt2;rw[if_pos rfl];exact C0 _
theorem Adz{a b c:Int×List Int}(h1:lt2 a b=true)(h2:lt2 b c=true):lt2 a c=true:=by
 unfold lt2 at *
 by_cases e1:a.1=b.1
 ·rw[if_pos e1] at h1
  by_cases e2:b.1=c.1
  ·rw[if_pos e2] at h2;rw[if_pos (e1.trans e2)];exact Gv h1 h2
  ·rw[if_neg e2] at h2;rw[if_neg (by omega)];rw[e1];exact h2
 ·rw[if_neg e1] at h1
  by_cases e2:b.1=c.1
  ·rw[if_pos e2] at h2;rw[if_neg (by omega)];rw[←e2];exact h1
  ·rw[if_neg e2] at h2;have h1:=of_decide_eq_true h1;have h2:=of_decide_eq_true h2;rw[if_neg (by omega),decide_eq_true (by omega)]
section
variable{P:Program}{w:World}{A:Around}{E:Value→Shared→Prop}{s:Shared}
def KA1(P:Program)(w:World)(N:Nat)(h:Heap)(a:Addr)(k:List Int):Prop:=a<N∧IsTupleKey (intKind P w) h k a
def KA2(P:Program)(w:World)(N:Nat)(h:Heap)(a:Addr)(k:Int×List Int):Prop:=a<N∧∃o t c n,h.get? a=some o∧o.cls=.type "tuple"∧o.data=.seq #[.int k.1 t,.ref c] n∧c<N∧IsTupleKey (intKind P w) h k.2 c
theorem KA1.st{N:Nat}{h h':Heap}{a:Addr}{k:List Int}(x:KA1 P w N h a k)(kp:∀b o,b<N→h.get? b=some o→h'.get? b=some o):KA1 P w N h' a k:=by
 obtain⟨hl,o,its,n,ho,r⟩:=x;exact⟨hl,o,its,n,kp a o hl ho,r⟩
theorem KA2.st{N:Nat}{h h':Heap}{a:Addr}{k:Int×List Int}(x:KA2 P w N h a k)(kp:∀b o,b<N→h.get? b=some o→h'.get? b=some o):KA2 P w N h' a k:=by
 obtain⟨hl,o,t,c,n,ho,h1,h2,hc,o2,its,n2,ho2,r⟩:=x;exact⟨hl,o,t,c,n,kp a o hl ho,h1,h2,hc,o2,its,n2,kp c o2 hc ho2,r⟩
theorem L8{N:Nat}{x y:Int×List Int}{a b:Addr}{Q:Fin→Shared→Prop}(hu:A.units<cLine)(hx:KA2 P w N s.heap a x)(hy:KA2 P w N s.heap b y)(h:Q (.done (.ret (.bool (lt2 x y)))) s) :
  wpAny (model P w) A (Builtin.«tuple.__lt__» ⟨[.ref a,.ref b],[]⟩) Q E s:=by
 obtain⟨_,oa,ta,ca,na,hoa,hca,hda,_,ka⟩:=hx;obtain⟨_,ob,tb,cb,nb,hob,hcb,hdb,_,kb⟩:=hy;have hTb:s.TypeIs (.ref b) "tuple":=⟨_,hob,hcb⟩;show wpAny _ _ (isInstance (.ref b) (.type "tuple") >>= _) _ _ s;refine wpAny_bind (wpAny_isInstance hTb isSubtype_tuple_tuple ?_);simp only[Bool.not_true,Bool.false_eq_true,if_false];refine wpAny_bind (wpAny_tupleItemsOf hoa hda ?_);refine wpAny_bind (wpAny_tupleItemsOf hob hdb ?_);refine wpAny_bind ?_;refine wpAny_forIn_list _
  (fun rest r s'=>r.1=none∧s'=s∧(rest=[(.int x.1 ta,.int y.1 tb),(.ref ca,.ref cb)]∨(rest=[(.ref ca,.ref cb)]∧x.1=y.1)∨(rest=[]∧x.1=y.1∧x.2=y.2)))
  _ ?_ ?_ _ _ ⟨rfl,rfl,.inl rfl⟩
 ·rintro⟨u,v⟩ rest r s' ⟨hr,rfl,hz⟩;rcases hz with hz|⟨hz,e1⟩|⟨hz,_⟩
  ·simp only[List.cons.injEq,Prod.mk.injEq] at hz;obtain⟨⟨rfl,rfl⟩,rfl⟩:=hz;refine wpAny_bind ((intKind P w).eqBool (a:=x.1) (b:=y.1) (intKind_is _ _ _ _) (intKind_is _ _ _ _) ?_)
   by_cases hk:x.1=y.1
   ·rw[decide_eq_true hk];simp only[Bool.not_true,Bool.false_eq_true,if_false];exact wpAny_pure ⟨by first|rfl|trivial,by first|rfl|trivial,by simp[hk]⟩
   ·rw[decide_eq_false hk];simp only[Bool.not_false,if_true];have hf:lt2 x y=decide (x.1<y.1):=by unfold lt2;rw[if_neg hk]
    rw[hf] at h;refine wpAny_bind (wpAny_rule (wpAny_bind (show wpAny _ _ (compareOp .Lt (.int x.1 ta) (.int y.1 tb)) _ _ _ from wpAny_lt_int ?_)));exact wpAny_bind (wpAny_pure (wpAny_pure (wpAny_pure h)))
  ·simp only[List.cons.injEq,Prod.mk.injEq] at hz;obtain⟨⟨rfl,rfl⟩,rfl⟩:=hz;refine wpAny_bind (wpAny_eqBool_tuple hu ka kb ?_)
   by_cases hk:x.2=y.2
   ·rw[decide_eq_true hk];simp only[Bool.not_true,Bool.false_eq_true,if_false];exact wpAny_pure ⟨by first|rfl|trivial,by first|rfl|trivial,by simp[e1,hk]⟩
   ·rw[decide_eq_false hk];simp only[Bool.not_false,if_true];have hf:lt2 x y=A5 x.2 y.2:=by unfold lt2;rw[if_pos e1]
    rw[hf] at h;refine wpAny_bind (wpAny_rule (wpAny_bind (show wpAny _ _ (richCompare .Lt (.ref ca) (.ref cb)) _ _ _ from Ht hu ka kb ?_)));exact wpAny_bind (wpAny_pure (wpAny_pure (wpAny_pure h)))
  ·cases hz
 ·rintro⟨r1,r2⟩ s' ⟨hr,rfl,hz⟩;simp only at hr;subst hr;rcases hz with hz|⟨hz,_⟩|⟨_,e1,e2⟩
  ·cases hz
  ·cases hz
  ·refine wpAny_pure ?_;have hf:lt2 x y=false:=by unfold lt2;rw[if_pos e1,e2];exact C0 _
   rw[hf] at h;exact h
theorem Aab{N:Nat}{x y:Int×List Int}{a b:Addr}{Q:Value→Shared→Prop}(hu:A.units+1<cLine)(hx:KA2 P w N s.heap a x)(hy:KA2 P w N s.heap b y)(h:Q (.bool (lt2 x y)) s):wpAny (model P w) A (richCompare .Lt (.ref a) (.ref b)) Q E s:=by
 have ta:s.TypeIs (.ref a) "tuple":=let ⟨_,_,_,_,_,h1,h2,_⟩:=hx;⟨_,h1,h2⟩;have tb:s.TypeIs (.ref b) "tuple":=let ⟨_,_,_,_,_,h1,h2,_⟩:=hy;⟨_,h1,h2⟩;exact wpAny_richCompare_same_room (op:=.Lt) ta tb F.slot_tuple_lt (wpAny_call_entry F.slot_tuple_lt ta F.entry_tuple_lt (L8 (by show A.units+1<cLine;omega) hx hy ⟨_,rfl,(fun e=>nomatch e),h⟩) (F.args_tuple_lt_2 _ _)) (by omega)
end
section
variable{X:Cx}{n:Nat}{pins:List (Addr×Obj)}{σ:L2.St}{H:Hp}{s:Shared}
def wD(w:List Int):D:=.tup (w.map D.int)
def bwD(k:Int×List Int):D:=.tup [.int k.1,wD k.2]
abbrev K9(H:Hp):List Addr→List (List Int)→Prop:=Paired fun b w=>H b=some (.tup (w.map V.int))
abbrev Q9(H:Hp):List Addr→List (Int×List Int)→Prop:=Paired fun b k=>∃c,H b=some (.tup [.int k.1,.ref c])∧H c=some (.tup (k.2.map V.int))
theorem Yb(I:Inv X pins σ H s){c:Addr}{ks:List Int}(e:H c=some (.tup (ks.map V.int))):KA1 X.prog X.w s.heap.objs.size s.heap c ks:=by
 obtain⟨_,its,rv,o,ho,hc,n,hd⟩:=(show ObjOk X.prog X.w H s.heap c (.tup _) from I.hok _ _ e);exact⟨Heap.lt_size ho,o,_,n,ho,hc,hd,by simpa using Iv rv⟩
theorem key2(I:Inv X pins σ H s){b c:Addr}{k:Int×List Int}(e:H b=some (.tup [.int k.1,.ref c]))(e2:H c=some (.tup (k.2.map V.int))):KA2 X.prog X.w s.heap.objs.size s.heap b k:=by
 obtain⟨_,its,rv,o,ho,hc,n,hd⟩:=(show ObjOk X.prog X.w H s.heap b (.tup _) from I.hok _ _ e)
 match its,rv,hd with
 |[_,_],.cons ⟨t1,rfl⟩ (.cons rfl .nil),hd=>exact⟨Heap.lt_size ho,o,t1,c,n,ho,hc,hd,(Yb I e2).1,(Yb I e2).2⟩
theorem Oz{K:W.Frag}{H:Hp}:∀{ws:List (List Int)} {ys:List V},DVs K H (ws.map wD) ys→∃bs:List Addr,ys=bs.map V.ref∧K9 H bs ws
 |[],_,.nil=>⟨[],rfl,.nil⟩
 |w::ws,_,.cons h t=>by
  obtain⟨bs,rfl,c⟩:=Oz t;cases h with
  |@tup ds a xs e r=>rw[Dc r] at e;exact⟨a::bs,rfl,.cons e c⟩
theorem Ki{K:W.Frag}{H:Hp}:∀{ks:List (Int×List Int)} {ys:List V},DVs K H (ks.map bwD) ys→∃bs:List Addr,ys=bs.map V.ref∧Q9 H bs ks
 |[],_,.nil=>⟨[],rfl,.nil⟩
 |k::ks,_,.cons h t=>by
  obtain⟨bs,rfl,c⟩:=Ki t;cases h with
  |@tup ds a xs e r=>
   obtain⟨v,w,rfl,d1,d2⟩:=r.two;cases d1;cases d2 with
   |@tup ds c' xs e2 r2=>rw[Dc r2] at e2;exact⟨a::bs,rfl,.cons ⟨c',e,e2⟩ c⟩
theorem Sv(hc:X.calm=true)(hr:Room n X.A):CallR X (.builtin "min") (fun xs H Q=>∃(l:Addr) (bs:List Addr) (ws:List (List Int)),xs=[.ref l]∧SqL X.K H l (bs.map V.ref)∧K9 H bs ws∧0<ws.length∧∀b M,H b=some (.tup (M.map V.int))→M∈ws→(∀a∈ws,A5 a M=false)→Q (.ref b) H):=by
 intro pins s σ H xs us Q I r h;obtain⟨l,bs,ws,rfl,hl,c,hn,q⟩:=h;obtain⟨u,rfl,rx⟩:=By r;cases rx;obtain⟨its,rv,pl,_⟩:=I.list hl;obtain rfl:=Dz rv;have hu:X.A.in1.units<cLine:=by have:=hr.un;show X.A.units+1<cLine;omega
 refine Nd (lt:=A5) (KA:=KA1 X.prog X.w s.heap.objs.size) (I.ok.hd hc) pl.isList (by rw[List.length_map];exact Paired.length c) C0 (fun a b c=>Gv) (fun h h' a k x kp=>x.st kp) (fun s' a b k1 k2 Q E h1 h2 q=>Ht hu h1.2 h2.2 q) (fun i v m e1 e2=>?_) hn fun g tk v i M k e1 e2 h2=>?_
 ·rw[List.getElem?_map] at e1;obtain⟨b,eb,rfl⟩:=Option.map_eq_some_iff.mp e1;obtain⟨m',em,hcm⟩:=Bf c eb;rw[e2] at em;cases em;exact⟨b,rfl,Yb I hcm⟩
 ·rw[List.getElem?_map] at e1;obtain⟨b,eb,rfl⟩:=Option.map_eq_some_iff.mp e1;obtain⟨m',em,hcm⟩:=Bf c eb;rw[e2] at em;cases em;exact⟨.ref b,H,I.kept k,rfl,q b M hcm (List.mem_of_getElem? e2) h2⟩
theorem c_minW(hc:X.calm=true)(hr:Room n X.A):QC X (.builtin "min") (fun ds G Q=>∃d,ds=[d]∧∃p,d=.ref p∧∃ws:List (List Int),G p=some (.lst (ws.map wD))∧0<ws.length∧∀M∈ws,(∀a∈ws,A5 a M=false)→Q (wD M) G):=(Sv hc hr).imp fun xs H Q zz=>by
 obtain⟨ds,G,Q',dv,rg,⟨d,e,p,ep,ws,eg,hn,q⟩,cl⟩:=zz;subst e ep;obtain⟨v,rfl,h⟩:=dv.one;cases h;obtain⟨ys,eh,r⟩:=rg p _ eg;obtain⟨bs,rfl,c⟩:=Oz r;exact⟨p,bs,ws,rfl,.inl (.inl eh),c,hn,fun b M hb h1 h2=>cl _ _ (q M h1 h2) _ (Ext.refl H) rg _ (.tup hb DVs.ints)⟩
theorem Sy(hc:X.calm=true)(hr:Room n X.A):CallR X (.builtin "min") (fun xs H Q=>∃(l:Addr) (bs:List Addr) (ks:List (Int×List Int)),xs=[.ref l]∧SqL X.K H l (bs.map V.ref)∧Q9 H bs ks∧0<ks.length∧∀b M c,H b=some (.tup [.int M.1,.ref c])→H c=some (.tup (M.2.map V.int))→M∈ks→(∀a∈ks,lt2 a M=false)→Q (.ref b) H):=by
 intro pins s σ H xs us Q I r h;obtain⟨l,bs,ks,rfl,hl,c,hn,q⟩:=h;obtain⟨u,rfl,rx⟩:=By r;cases rx;obtain⟨its,rv,pl,_⟩:=I.list hl;obtain rfl:=Dz rv;have hu:X.A.in1.units+1<cLine:=by have:=hr.un;show X.A.units+1+1<cLine;omega
 refine Nd (lt:=lt2) (KA:=KA2 X.prog X.w s.heap.objs.size) (I.ok.hd hc) pl.isList (by rw[List.length_map];exact Paired.length c) Ad0 (fun a b c=>Adz) (fun h h' a k x kp=>x.st kp) (fun s' a b k1 k2 Q E h1 h2 q=>Aab hu h1 h2 q) (fun i v m e1 e2=>?_) hn fun g tk v i M k e1 e2 h2=>?_
 ·rw[List.getElem?_map] at e1;obtain⟨b,eb,rfl⟩:=Option.map_eq_some_iff.mp e1;obtain⟨m',em,c',hcm,hcm2⟩:=Bf c eb;rw[e2] at em;cases em;exact⟨b,rfl,key2 I hcm hcm2⟩
 ·rw[List.getElem?_map] at e1;obtain⟨b,eb,rfl⟩:=Option.map_eq_some_iff.mp e1;obtain⟨m',em,c',hcm,hcm2⟩:=Bf c eb;rw[e2] at em;cases em;exact⟨.ref b,H,I.kept k,rfl,q b M c' hcm hcm2 (List.mem_of_getElem? e2) h2⟩
theorem c_minB(hc:X.calm=true)(hr:Room n X.A):QC X (.builtin "min") (fun ds G Q=>∃d,ds=[d]∧∃p,d=.ref p∧∃ks:List (Int×List Int),G p=some (.lst (ks.map bwD))∧0<ks.length∧∀M∈ks,(∀a∈ks,lt2 a M=false)→Q (bwD M) G):=(Sy hc hr).imp fun xs H Q zz=>by
 obtain⟨ds,G,Q',dv,rg,⟨d,e,p,ep,ks,eg,hn,q⟩,cl⟩:=zz;subst e ep;obtain⟨v,rfl,h⟩:=dv.one;cases h;obtain⟨ys,eh,r⟩:=rg p _ eg;obtain⟨bs,rfl,c⟩:=Ki r;exact⟨p,bs,ks,rfl,.inl (.inl eh),c,hn,fun b M c' hb hc' h1 h2=>cl _ _ (q M h1 h2) _ (Ext.refl H) rg _ (.tup hb (.cons (.int _) (.cons (.tup hc' DVs.ints) .nil)))⟩
end
end D3
namespace D3
open PySem PySem.Spec
open PyProof.Rows
section
variable{P:Program}{w:World}{A:Around}{E:Value→Shared→Prop}{s:Shared}{kd:SortKind}{ok:Keyed→Prop}{rk:Keyed→Int}{a0:Array Keyed}{st:SortSt}
def T8(rk:Keyed→Int)(arr:Array Keyed):Prop:=∀i j,i<j→j<arr.size→Kq rk arr i<Kq rk arr j
theorem Ma{nrem:Nat}{Q:Option Nat→SortSt→Prop}(ask:Tq P w A E s kd ok rk)(b:Bas rk kd ok a0 st)(h1:1≤nrem)(hs:nrem=a0.size)(up:T8 rk (arrOf st))(q:Q (some nrem) st):wpS (model P w) A E s (Kj 0 nrem) Q st:=by
 have bs:=b.size
 delta Kj
 refine wpS_bind (wpS_mono (wpS_forRange (I:=fun i c st'=>st=st'∧c=(none,i)∧i≤nrem) (Q:=fun c st'=>st=st'∧c=(none,nrem)) ?s1 ?f1 ⟨rfl,rfl,h1⟩) ?p1)
 case f1=>
  rintro c st' ⟨rfl,rfl,h2⟩
  have:max 1 nrem=nrem:=Nat.max_eq_right h1
  exact⟨rfl,by rw[this]⟩
 case s1=>
  rintro i c st' hi1 hi2 ⟨rfl,rfl,h2⟩;dsimp only;refine wpS_bind (W6 ask b (by omega) (by omega) ?_)
  dsimp only;have hlt:=up (0+i-1) (0+i) (by omega) (by omega)
  rw[decide_eq_false (by omega),if_neg (by decide)]
  exact wpS_pure ⟨rfl,rfl,by omega⟩
 case p1=>
  rintro c st' ⟨rfl,rfl⟩;dsimp only;refine Hc (fun z=>wpS_pure q) fun z=>?_;exact(z (by simp)).elim
theorem Ka:∀(f n r:Nat),r≤1→n≤f→minRun' f n r≤n+r
 |0,n,r,_,h=>by
  obtain rfl:n=0:=by omega
  exact Nat.le_of_eq (by first|rfl|(simp[minRun']))
 |f+1,n,r,hr,h=>by
  rw[minRun'_succ]
  split
  ·exact Nat.le_refl _
  ·have:=Ka f (n / 2) (max r (n % 2)) (by have:=Nat.mod_lt n (show 2>0 by decide);omega) (by omega)
   have h3:max r (n % 2)≤1:=by have:=Nat.mod_lt n (show 2>0 by decide);omega
   omega
theorem L3{Q:Unit→SortSt→Prop}(ask:Tq P w A E s kd ok rk)(b:Bas rk kd ok a0 st)(h2:2≤a0.size)(hp:pendingOf st=#[])(up:T8 rk (arrOf st))(q:∀st',arrOf st'=arrOf st→failedOf st'=none→Q () st'):wpS (model P w) A E s sortRuns' Q st:=by
 have bs:=b.size;rw[sortRuns'_eq];refine wpS_bind (wpS_get ?_);dsimp only;rw[bs];have hmr:=Ka a0.size a0.size 0 (by omega) (Nat.le_refl _)
 generalize minRun' a0.size a0.size 0=mr at *;refine wpS_bind (wpS_mono (wpS_forRange (I:=fun i c st'=>(i=0∧c=(none,0)∧st=st')∨(1≤i∧c=(none,a0.size)∧arrOf st'=arrOf st∧failedOf st'=none∧(pendingOf st').size=1)) (Q:=fun c st'=>c=(none,a0.size)∧arrOf st'=arrOf st∧failedOf st'=none∧(pendingOf st').size=1) ?s1 ?f1 (.inl ⟨rfl,rfl,rfl⟩)) ?p1)
 case f1=>
  rintro c st' (⟨h,_⟩|⟨_,h⟩)
  ·have:max 0 a0.size=a0.size:=Nat.max_eq_right (Nat.zero_le _)
   omega
  ·exact h
 case s1=>
  rintro i c st1 _ hi (⟨rfl,rfl,rfl⟩|⟨h1,rfl,h3⟩)
  ·dsimp only;refine Hc (fun z=>by omega) fun z=>?_
   refine wpS_bind (Ma ask b (by omega) (by omega) up ?_)
   dsimp only;refine Hc (fun z1=>by omega) fun z1=>?_
   refine wpS_bind (wpS_get ?_)
   split
   ·rename_i hb;rw[hp] at hb;cases hb
   ·refine wpS_bind (wpS_modify (wpS_pure (.inr ⟨Nat.le_refl _,by rw[Nat.zero_add,Nat.sub_zero],rfl,b.fail,?_⟩)))
    show((pendingOf st).push _).size=1;rw[hp];rfl
  ·dsimp only;refine Hc (fun z=>?_) fun z=>by omega
   exact wpS_pure ⟨rfl,h3⟩
 case p1=>
  rintro c st1 ⟨rfl,ha,hf,hz⟩;dsimp only;refine wpS_bind (wpS_mono (wpS_forRange (I:=fun i c st'=>c=(none,())∧st1=st') (Q:=fun c st'=>c=(none,())∧st1=st') ?s2 ?f2 ⟨rfl,rfl⟩) ?p2)
  case f2=>exact fun c st' h=>h
  case s2=>
   rintro i c st' _ _ ⟨rfl,rfl⟩;refine wpS_bind (wpS_get ?_);refine Hc (fun z=>wpS_pure ⟨rfl,rfl⟩) fun z=>by omega
  case p2=>
   rintro c st' ⟨rfl,rfl⟩;exact wpS_pure (q _ ha hf)
end
section
variable{P:Program}{w:World}{A:Around}{E:Value→Shared→Prop}{s:Shared}{kd:SortKind}{ok:Keyed→Prop}{rk:Keyed→Int}
theorem Fp:∀vs:List Value,vs.zip vs=vs.map fun v=>(v,v)
 |[]=>rfl
 |v::r=>by rw[List.zip_cons_cons,Fp r];rfl
theorem Jn{a:Addr}{vs:List Value}{n:Nat}{Q:Fin→Shared→Prop}(ho:s.heap.get? a=some (seqObj "list" vs.toArray n))(hz:vs.length≤10000)(hkind:∀s6:Shared,(∀b o,b≠a→s.heap.get? b=some o→s6.heap.get? b=some o)→∀R:SortKind→Shared→Prop,R kd s6→2≤vs.length→wpAny (model P w) A (keyKind' vs.toArray) R E s6)(hask:∀s6:Shared,(∀b o,b≠a→s.heap.get? b=some o→s6.heap.get? b=some o)→Tq P w A E s6 kd ok rk)(okA:∀v∈vs,ok (v,v))(hd:vs.Pairwise fun x y=>rk (x,x)<rk (y,y))(h:Q (.done (.ret .none)) { s with heap:=sortedHeap s.heap a vs vs.toArray }) :
  wpAny (model P w) A (Builtin.«list.sort» ⟨[.ref a],[]⟩) Q E s:=by
 rw[list_sort_plain];have ha:a<s.heap.objs.size:=Heap.lt_size ho;have hsl:vs.toArray.size≤sizeLine:=by rw[List.size_toArray,sizeLine_eq];omega
 refine wpAny_bind (listItems_at ho rfl ?_);refine wpAny_bind (listUpdate_at ho rfl ?_ hsl (Nat.zero_le _));obtain⟨e1,ho1⟩:∃e1,(s.heap.update a (Obj.mapSeq fun _=>#[])).get? a=some (seqObj "list" #[] e1):=⟨_,get?_update_seq ho (fun _=>#[])⟩;refine wpAny_bind (seqEpoch_at ho1 rfl ?_);refine wpAny_bind (wpAny_newTuple ?_ (by rw[sizeLine_eq];show vs.length≤_;omega))
 refine wpAny_bind (wpAny_newList ?_ (Nat.zero_le _));refine wpAny_holding ?_;have ho6:(((s.heap.update a (Obj.mapSeq fun _=>#[])).push (seqObj "tuple" vs.toArray 0)).push (seqObj "list" #[] 0)).get? a=some (seqObj "list" #[] e1):=Heap.get?_push_of_some _ (Heap.get?_push_of_some _ ho1);have same:∀b o,b≠a→s.heap.get? b=some o→(((s.heap.update a (Obj.mapSeq fun _=>#[])).push (seqObj "tuple" vs.toArray 0)).push (seqObj "list" #[] 0)).get? b=some o:=fun b o hb e=>by
  refine Heap.get?_push_of_some _ (Heap.get?_push_of_some _ ?_);rw[Heap.get?_update_ne _ _ _ _ hb];exact e
 show wpAny (model P w) A _ Q E { s with heap:=((s.heap.update a (Obj.mapSeq fun _=>#[])).push (seqObj "tuple" vs.toArray 0)).push (seqObj "list" #[] 0) };dsimp only;have em:(pairsOf vs).map (·.2)=vs.toArray:=by
  show(vs.toArray.zip vs.toArray).map (·.2)=_;rw[List.zip_toArray,Fp,List.map_toArray,List.map_map,show((fun x:Keyed=>x.2) ∘ fun v:Value=>(v,v))=id from rfl,List.map_id]
 by_cases h2:vs.toArray.size<2
 ·rw[if_pos h2,if_pos h2];refine wpAny_bind (wpAny_pure ?_);rw[StateT.run_pure];refine wpAny_bind (wpAny_pure ?_);dsimp only;rw[show(arrOf (SortSt.mk' general' (vs.toArray.zip vs.toArray) #[] 7 none)).map (·.2)=vs.toArray from em];refine wpAny_bind (seqEpoch_at ho6 rfl ?_);refine wpAny_bind (listUpdate_at ho6 rfl ?_ (Nat.zero_le _) (Nat.le_succ_of_le hsl));simp only[bne_self_eq_false,Bool.false_eq_true,if_false];exact wpAny_pure h
 ·rw[if_neg h2,if_neg h2];have h2':2≤vs.length:=by rw[List.size_toArray] at h2;omega
  have el:(pairsOf vs).toList=vs.map fun v=>(v,v):=by rw[pairsOf_toList,Fp]
  have hup:T8 rk (pairsOf vs):=fun i j hij hj=>by
   have hj':j<vs.length:=by rw[pairsOf_size] at hj;exact hj
   have at_:∀k (hk:k<vs.length),Kq rk (pairsOf vs) k=rk (vs[k],vs[k]):=fun k hk=>by
    rw[Op (by rw[pairsOf_size];exact hk)]
    congr 1;simp[el]
   rw[at_ i (by omega),at_ j hj']
   exact List.pairwise_iff_getElem.mp hd i j (by omega) hj' hij
  refine wpAny_bind (hkind _ same _ ?_ h2');refine wpAny_bind (wpAny_mono (L3 (a0:=pairsOf vs) (st:=SortSt.mk' kd (vs.toArray.zip vs.toArray) #[] 7 none) (rk:=rk) (ok:=ok) (kd:=kd)
   (Q:=fun _ st'=>arrOf st'=pairsOf vs∧failedOf st'=none) (hask _ same) ⟨rfl,Array.Perm.refl _,rfl,?_,?_⟩ (by rw[pairsOf_size];exact h2') rfl hup fun st' e f=>⟨e,f⟩) ?_ fun _ _ e=>e)
  ·intro x hx;have hx:x∈(pairsOf vs).toList:=by simpa using hx
   rw[el] at hx;obtain⟨v,hv,rfl⟩:=List.mem_map.mp hx;exact okA v hv
  ·rw[el,List.map_map];exact List.Pairwise.map _ (fun x y z e=>by have z:rk (x,x)<rk (y,y):=z;have e:rk (x,x)=rk (y,y):=e;omega) hd
  rintro⟨⟨⟩,st'⟩ s' ⟨rfl,hp,hf⟩;dsimp only;rw[hp,em];refine wpAny_bind (seqEpoch_at ho6 rfl ?_);refine wpAny_bind (listUpdate_at ho6 rfl ?_ (Nat.zero_le _) (by rw[List.size_toArray,sizeLine_eq];omega))
  rw[hf];simp only[bne_self_eq_false,Bool.false_eq_true,if_false];exact wpAny_pure h
theorem Nj{Q:Bool→Shared→Prop}:∀{x y:List Int} {xs ys:List Value} {i:Nat},ItemsAre (intKind P w) x xs→ItemsAre (intKind P w) y ys→x.length=y.length→Q (A5 x y) s→W.KatLex P w A true false Q (xs.zip ys) i s
 |[],[],_,_,_,.nil,.nil,_,h=>W.kat_nil h
 |[],_::_,_,_,_,_,_,hl,_=>by cases hl
 |_::_,[],_,_,_,_,_,hl,_=>by cases hl
 |a::x,b::y,_,_,i,.cons h1 hx,.cons h2 hy,hl,h=>by
  obtain⟨t1,rfl⟩:=Value.isInt_shape h1;obtain⟨t2,rfl⟩:=Value.isInt_shape h2;rw[List.zip_cons_cons];refine W.kat_cons (wpAny_eqBool_int (W.kat_go (fun e=>W.kat_yes ?_) fun e=>W.kat_no ?_))
  ·have e:=beq_iff_eq.mp e;rw[A5,if_pos e] at h;exact Nj hx hy (by simpa using hl) h
  ·have e:a≠b:=fun z=>by rw[z] at e;simp at e
   rw[A5,if_neg e] at h;cases i with
   |zero=>exact oneLt_int h
   |succ i=>exact W.kat_one _ _ (wpAny_lt_int h)
structure Ranked(P:Program)(w:World)(h:Heap)(m:Nat)(vs:List Value)(ws:List (List Int)):Prop where
 len:vs.length=ws.length
 at_:∀(i:Nat) v k,vs[i]? = some v→ws[i]? = some k→∃a,v=.ref a∧IsTupleKey (intKind P w) h k a
 same:∀k∈ws,k.length=m+1
 up:ws.Pairwise fun a b=>A5 a b=true
open Classical in
noncomputable def A9(vs:List Value)(v:Value):Nat:=if z:∃i,vs[i]? = some v then Classical.choose z else 0
theorem Cu{vs:List Value}{v:Value}(h:v∈vs):vs[A9 vs v]? = some v:=by
 have z:∃i:Nat,vs[i]? = some v:=List.getElem?_of_mem h;unfold A9;rw[dif_pos z];exact Classical.choose_spec z
theorem Ranked.one{h:Heap}{m:Nat}{vs:List Value}{ws:List (List Int)}(r:Ranked P w h m vs ws){i j:Nat}{v:Value}(hi:vs[i]? = some v)(hj:vs[j]? = some v):i=j:=by
 have li:i<ws.length:=by rw[←r.len];exact(List.getElem?_eq_some_iff.mp hi).1
 have lj:j<ws.length:=by rw[←r.len];exact(List.getElem?_eq_some_iff.mp hj).1
 obtain⟨a,e1,k1⟩:=r.at_ i v _ hi (List.getElem?_eq_getElem li);obtain⟨b,e2,k2⟩:=r.at_ j v _ hj (List.getElem?_eq_getElem lj);rw[e1] at e2;cases e2;have e:=k1.inj k2;rcases Nat.lt_trichotomy i j with z|z|z
 ·have:=List.pairwise_iff_getElem.mp r.up i j li lj z
  rw[e,C0] at this;cases this
 ·exact z
 ·have:=List.pairwise_iff_getElem.mp r.up j i lj li z
  rw[e,C0] at this;cases this
theorem Aad:∀{a b:List Int},A5 a b=true→A5 b a=false:=fun {a b} h=>by
 cases z:A5 b a with
 |false=>rfl
 |true=>have:=Gv h z;rw[C0] at this;cases this
theorem Xz{m:Nat}{vs:List Value}{ws:List (List Int)}(r:Ranked P w s.heap m vs ws):Tq P w A E s (tuples' true) (fun x=>x.1∈vs) (fun x=>(A9 vs x.1:Int)):=by
 intro x y st Q hk ox oy q;have px:=Cu ox;have py:=Cu oy;have lx:A9 vs x.1<ws.length:=by rw[←r.len];exact(List.getElem?_eq_some_iff.mp px).1
 have ly:A9 vs y.1<ws.length:=by rw[←r.len];exact(List.getElem?_eq_some_iff.mp py).1
 obtain⟨a,ea,oa,ia,na,ha,ca,da,ka⟩:=r.at_ _ _ _ px (List.getElem?_eq_getElem lx);obtain⟨b,eb,ob,ib,nb,hb,cb,db,kb⟩:=r.at_ _ _ _ py (List.getElem?_eq_getElem ly);have sx:=r.same _ (List.getElem_mem lx);have sy:=r.same _ (List.getElem_mem ly);have lia:ia.size=m+1:=by have h1:=ItemsAre.length ka;have h3:ia.toList.length=ia.size:=Array.length_toList;rw[sx] at h1;omega
 have lib:ib.size=m+1:=by have h1:=ItemsAre.length kb;have h3:ib.toList.length=ib.size:=Array.length_toList;rw[sy] at h1;omega
 have el:A5 ws[A9 vs x.1] ws[A9 vs y.1]=decide ((A9 vs x.1:Int)<(A9 vs y.1:Int)):=by
  rcases Nat.lt_trichotomy (A9 vs x.1) (A9 vs y.1) with z|z|z
  ·rw[List.pairwise_iff_getElem.mp r.up _ _ lx ly z,decide_eq_true (by omega)]
  ·rw[decide_eq_false (by omega)]
   simp only[z];exact C0 _
  ·rw[Aad (List.pairwise_iff_getElem.mp r.up _ _ ly lx z),decide_eq_false (by omega)]
 rw[lt'_eq];refine wpS_bind (wpS_get ?_);rw[hk,ea,eb];refine wpS_bind (wpS_lift (wpAny_attempt (W.kat_lt ha da hb db ?_)));rw[decide_eq_false (by omega)]
 refine Nj ka kb (by rw[sx,sy]) ⟨rfl,?_⟩
 rw[el];exact wpS_pure q
theorem Xc{m:Nat}{vs:List Value}{ws:List (List Int)}{R:SortKind→Shared→Prop}(r:Ranked P w s.heap m vs ws)(h2:2≤vs.length)(q:R (tuples' true) s):wpAny (model P w) A (keyKind' vs.toArray) R E s:=by
 have ht:∀{l:List Value},(∀v∈l,∃a k,v=Value.ref a∧IsTupleKey (intKind P w) s.heap k a∧k.length=m+1)→∃fs:List Value,W.KatTups s.heap l fs∧fs.length=l.length∧∀f∈fs,∃i t,f=Value.int i t:=fun {l}=>by
  induction l with
  |nil=>exact fun _=>⟨[],trivial,rfl,fun _ h=>by cases h⟩
  |cons v r ih=>
   intro hl;obtain⟨fs,k,el,hf⟩:=ih fun x hx=>hl x (List.mem_cons_of_mem _ hx);obtain⟨a,ks,rfl,⟨o,its,n,ha,ca,da,ka⟩,hm⟩:=hl v (List.mem_cons_self ..);have hsz:0<its.size:=by have h1:=ItemsAre.length ka;have h3:its.toList.length=its.size:=Array.length_toList;rw[hm] at h1;omega
   obtain⟨i,t,e0⟩:∃i t,its[0]? = some (Value.int i t):=by
    cases ks with
    |nil=>cases hm
    |cons z ks=>
     have e:its.toList=its[0]::its.toList.tail:=by
      cases hh:its.toList with
      |nil=>have h1:=congrArg List.length hh;rw[Array.length_toList,List.length_nil] at h1;omega
      |cons x r=>
       have h0:its[0]=x:=by
        have:its.toList[0]? = some x:=by rw[hh];rfl
        simpa[hsz] using this
       rw[h0];rfl
     rw[e] at ka;cases ka with
     |cons h1 _=>
      obtain⟨t,ht⟩:=Value.isInt_shape h1;exact⟨z,t,by rw[Array.getElem?_eq_getElem hsz,ht]⟩
   refine⟨.int i t::fs,.cons ha ca da e0 k,by simp[el],fun f hf'=>?_⟩
   rcases List.mem_cons.mp hf' with rfl|hf'
   ·exact⟨_,_,rfl⟩
   ·exact hf f hf'
 obtain⟨fs,k,el,hf⟩:=ht (l:=vs) fun v hv=>by
  have px:=Cu hv;have lx:A9 vs v<ws.length:=by rw[←r.len];exact(List.getElem?_eq_some_iff.mp px).1
  obtain⟨a,ea,ka⟩:=r.at_ _ _ _ px (List.getElem?_eq_getElem lx);exact⟨a,_,ea,ka,r.same _ (List.getElem_mem lx)⟩
 refine W.kat_kind (T:=.type "int") k (by omega) (fun v hv=>?_) (by decide) q
 obtain⟨i,t,rfl⟩:=hf v hv;exact W.Looks.of_pure rfl
end
end D3
namespace D3
open PySem PySem.Spec
open PyProof.Rows hiding St
open L2 hiding St
section
variable{X:Cx}
theorem call_sortedW:CallR X (.builtin "sorted") (fun xs H Q=>∃(l:Addr) (bs:List Addr) (ws:List (List Int)) (m:Nat),xs=[.ref l]∧SqL X.K H l (bs.map V.ref)∧K9 H bs ws∧ws.length≤10000∧(∀k∈ws,k.length=m+1)∧(ws.Pairwise fun a b=>A5 a b=true)∧∀p,H p=none→Q (.ref p) (upd H p (.lst (bs.map V.ref)))):=by
 intro pins s σ H xs us Q I r h;obtain⟨l,bs,ws,m,rfl,hl,c,hz,hm,up,q⟩:=h;obtain⟨u,rfl,rx⟩:=By r;cases rx;obtain⟨its,rv,pl,_⟩:=I.list hl;obtain rfl:=Dz rv;have hlen:(bs.map Value.ref).length=ws.length:=by rw[List.length_map];exact Paired.length c
 have key:∀h':Heap,(∀b o,s.heap.get? b=some o→h'.get? b=some o)→Ranked X.prog X.w h' m (bs.map Value.ref) ws:=fun h' kp=>⟨hlen,fun i v k e1 e2=>by
  rw[List.getElem?_map] at e1;obtain⟨b,eb,rfl⟩:=Option.map_eq_some_iff.mp e1;obtain⟨m',em,hcm⟩:=Bf c eb;rw[e2] at em;cases em;obtain⟨_,o,its,n,ho,r⟩:=Yb I hcm;exact⟨b,rfl,o,its,n,kp b o ho,r⟩,hm,up⟩
 have k0:=key s.heap fun _ _ e=>e;have hpw:(bs.map Value.ref).Pairwise fun x y=>((A9 (bs.map Value.ref) x:Nat):Int)<((A9 (bs.map Value.ref) y:Nat):Int):=by
  rw[List.pairwise_iff_getElem];intro i j hi hj hij;have e1:=k0.one (Cu (List.getElem_mem hi)) (List.getElem?_eq_getElem hi);have e2:=k0.one (Cu (List.getElem_mem hj)) (List.getElem?_eq_getElem hj);rw[e1,e2];omega
 generalize hvs:bs.map Value.ref=vs at *;refine Calls.call_function_entry kind_sorted plain_sorted entry_sorted (args_sorted1 _) ?_;unfold Builtin.«sorted»;refine wpAny_bind (m:=checkCount "sorted" 1 1 _) (wpAny_pure ?_);refine wpAny_bind (collect_list pl.isList ?_ (by rw[sizeLine_eq];omega))
 refine wpAny_bind (wpAny_newList ?_ (by rw[sizeLine_eq];omega))
 have hsz:((s.heap.push (seqObj "list" #[] 0)).update s.heap.objs.size (Obj.mapSeq (· ++ vs.toArray))).objs.size=s.heap.objs.size+1:=by
  rw[Heap.size_update,size_push']
 have hoL:(((s.heap.push (seqObj "list" #[] 0)).update s.heap.objs.size (Obj.mapSeq (· ++ vs.toArray))).push (seqObj "list" vs.toArray 0)).get? (s.heap.objs.size+1)=some (seqObj "list" vs.toArray 0):=by
  rw[←hsz];exact Heap.get?_push_size _ rfl
 have kp:∀b o,s.heap.get? b=some o→(((s.heap.push (seqObj "list" #[] 0)).update s.heap.objs.size (Obj.mapSeq (· ++ vs.toArray))).push (seqObj "list" vs.toArray 0)).get? b=some o:=fun b o e=>by
  refine Heap.get?_push_of_some _ ?_;rw[Heap.get?_update_ne _ _ _ _ (Nat.ne_of_lt (Heap.lt_size e))];exact Heap.get?_push_of_some _ e
 show wpAny _ _ _ _ _ { s with heap:=((s.heap.push (seqObj "list" #[] 0)).update s.heap.objs.size (Obj.mapSeq (· ++ vs.toArray))).push (seqObj "list" vs.toArray 0) };rw[hsz];have kq:∀s6:Shared,(∀b o,b≠s.heap.objs.size+1→(((s.heap.push (seqObj "list" #[] 0)).update s.heap.objs.size (Obj.mapSeq (· ++ vs.toArray))).push (seqObj "list" vs.toArray 0)).get? b=some o→s6.heap.get? b=some o)→Ranked X.prog X.w s6.heap m vs ws:=fun s6 h6=>key s6.heap fun b o e=>h6 b o (Nat.ne_of_lt (Nat.lt_succ_of_lt (Heap.lt_size e))) (kp b o e);refine wpAny_bind (wpAny_holding (wpAny_call_entry slot_list_sort ⟨_,hoL,rfl⟩ entry_list_sort (Jn (kd:=tuples' true) (ok:=fun x=>x.1∈vs) (rk:=fun x=>(A9 vs x.1:Int)) hoL (by omega) (fun s6 h6 R qR h2=>Xc (kq s6 h6) h2 qR) (fun s6 h6=>Xz (kq s6 h6)) (fun v hv=>hv) hpw ⟨_,rfl,?_⟩) (args_list_sort _)))
 refine wpAny_pure ⟨_,rfl,?_⟩;obtain⟨e,he⟩:=sortedAll_at s.heap vs vs.toArray;have I2:=I.laid (h':=sortedAll s.heap vs vs.toArray) (t':=s.toks) (o:=.lst (bs.map V.ref)) (fun b o z=>sortedAll_old z) (Nat.le_succ _) (show ObjOk X.prog X.w _ _ _ (.lst _) from⟨by rw[List.length_map,←List.length_map (f:=Value.ref),hvs,sizeLine_eq];omega,vs,e,rv,he⟩)
 exact⟨.ref (s.heap.objs.size+1),_,I2,rfl,q _ (I.hok.fresh (Nat.le_succ _))⟩
theorem Q0{K:W.Frag}{H:Hp}:∀{bs:List Addr} {ws:List (List Int)},K9 H bs ws→DVs K H (ws.map wD) (bs.map V.ref)
 |_,_,.nil=>.nil
 |_,_,.cons h t=>.cons (.tup h DVs.ints) (Q0 t)
theorem S3:QC X (.builtin "sorted") (fun ds G Q=>∃d,ds=[d]∧∃p,d=.ref p∧∃(ws:List (List Int)) (m:Nat),G p=some (.lst (ws.map wD))∧ws.length≤10000∧(∀k∈ws,k.length=m+1)∧(ws.Pairwise fun a b=>A5 a b=true)∧∀l,G l=none→Q (.ref l) (Ab G l (.lst (ws.map wD)))):=call_sortedW.imp fun xs H Q zz=>by
 obtain⟨ds,G,Q',dv,rg,⟨d,e,p,ep,ws,m,eg,hz,hm,up,q⟩,cl⟩:=zz;subst e ep;obtain⟨v,rfl,h⟩:=dv.one;cases h;obtain⟨ys,eh,r⟩:=rg p _ eg;obtain⟨bs,rfl,c⟩:=Oz r;exact⟨p,bs,ws,m,rfl,.inl (.inl eh),c,hz,hm,up,fun l hl=>cl _ _ (q l (rg.free hl)) _ (Ext.fresh hl) (rg.lst hl (Q0 c)) _ (.ref l)⟩
end
end D3
namespace K2
open PySem L2 D3
def zzM:List Lean.Term×List (Array Lean.Term)→String→Lean.MacroM (List Lean.Term×List (Array Lean.Term))
 |(x,a::s),w=>do
  let p t:=(x.tail,a.push t::s)
  let h:Lean.Term:=x.headD ⟨.missing⟩
  match w with
  |"{"=>return(x,#[]::a::s)
  |")"=>return(x,match s with|b::s=>b.push (Lean.Syntax.mkApp (a[0]?.getD h) (a.extract 1 a.size))::s|_=>[])
  |"}"=>
   let f←`(fun _ _ _=>$(a[0]?.getD h))
   return(x,match s with|b::s=>b.push f::s|_=>[])
  |"$"=>return p h
  |"/"=>return p (←`(($h).mono (by decide)))
  |":"=>return p (←`(($h).blt (by decide)))
  |"="=>return p (←`(by exact ($h).blt (by decide)))
  |_=>
   let i:Lean.Term:=Lean.mkIdent (w.drop 1).toName
   if w.startsWith "@" then return(x,#[←`(@$(⟨i.raw⟩))]::a::s)
   let t←match w with
   |"-"=>`(rfl)|"!"=>`(by rfl)|"?"=>`(by decide)|"+"=>`(by decide +kernel)|"*"=>`(by exact ⟨rfl,rfl,rfl,rfl⟩)|"<"=>`(by exact .inl rfl)|">"=>`(by exact .inr rfl)|"^"=>`(by intro _;rfl)|"%"=>`(by intro _ _;rfl)|"~"=>`(Adx _)
   |_=>if w.startsWith "&" then pure i else `(_)
   return(x,(a++List.replicate (w.toNat?.getD 1) t)::s)
 |s,_=>pure s
def zzT:List (List String):=("a,@q_v1,2,$,1,*,);b,@qa_consP,5,$,@qa_nil,1,),!,);c,@Vy,5,$,$,);d,@qa_consP,5,$,$,!,);e,@Lj,3,$,);f,@q_call,8,&noX,3,$,/,@Tv,2,),$,!,?,!,!,);g,@q_v2,2,$,1,*,);h,@Oq,4,$,);i,@Do,4,$,2,$,$,!,<,!,<,);j,@Lk,2,$,1,$,!,<,<,);k,@Lk,2,$,1,$,!,<,>,);l,@q_callB,9,@Aat,1,),:,+,$,!,?,?,!,!,);m,@Y7,4,$,!,?,);n,@q_ix,6,$,@Aw,4,),%,);o,@Ach,3,$,^,);p,@Y0,4,$,!,);q,@Kr,8,@K6,1,),$,$,);r,@F9,4,$,);s,@Aci,4,$,);t,@q_ix,6,$,@q_neg,4,@Aw,4,),),%,);u,@F8,5,$,);v,@q_ix,6,$,$,%,);w,@Aw,4,);x,@q_callB,9,@c_len,1,),:,+,$,!,?,?,!,!,);y,@q_app,7,$,$,!,!,!,!,!,);z,@Ack,8,&PassesOwn.never,-,$,$,$,^,);A,@Mm,8,$,$,@qss_nil,1,),);B,@Hd,8,$,$,$,~,);C,@Acl,6,$,$,!,!,!,);D,@Acm,5,$,-,$,!,!,);E,@M6,5,$,$,!,);F,@M6,5,$,@Y1,1,),!,);G,@qa_consP,5,$,@qa_consP,5,@Aw,4,),@qa_nil,1,),!,),!,);H,@Mm,8,$,@Lj,3,@Oq,4,@q_bl,4,),),),@qss_nil,1,),);I,@Aco,3,$,);J,@Kr,8,@o_mod,1,),$,@Aw,4,),);K,@qt_of,3,$,);L,@V2,3,$,:,+,!,?,?,);M,@Lm,11,$,$,-,@Cf,4,!,!,!,!,!,),$,{,$,},{,@Dp,1,),},{,$,},^,);N,@Ll,9,$,@qo_some,3,@Aw,4,),),@qo_none,1,),);O,@E6,9,@Aas,1,),:,+,$,!,?,?,!,!,);P,@Do,4,$,2,$,$,!,>,!,<,);Q,@Acs,6,$,$,%,);R,@q_callB,9,$,:,+,$,!,?,?,!,!,);S,@Kr,8,$,$,$,);T,@Kr,8,@o_mul,1,),@Aw,4,),$,);U,@Kr,8,@Adw,1,),$,@Aw,4,),);V,@Hd,8,@o_eq,1,),$,@Aw,4,),~,);W,@Qf,10,&PassesOwn.never,-,:,@qa_consP,5,@Aw,4,),@qa_nil,1,),!,),$,$,!,!,^,);X,@Acn,7,$,$,$,^,);Y,@q_and,7,$,$,);Z,@q_callB,9,@Xr,1,),:,+,$,!,?,?,!,!,);0,@qa_consP,5,@Aw,4,),$,!,);1,@Do,4,$,2,$,@F9,4,@qa_nil,1,),),!,<,!,<,);2,@Kr,8,@o_sub,1,),$,@Aw,4,),);3,@Lk,2,$,1,$,!,>,<,);4,@Kr,8,@K6,1,),@Aw,4,),$,);5,@qw_or,7,$,$,);6,@q_callB,9,@c_all,1,-,),:,+,$,!,?,?,!,!,);7,@q_cmp,8,$,$,$,~,);8,@Y6,4,$,!,?,);9,@Lm,11,$,$,-,@Cf,4,!,!,!,!,!,),$,{,$,},{,$,},{,$,},^,);aa,@q_callB,9,@Aep,1,-,),:,+,$,!,?,?,!,!,);ab,@Mm,8,$,@Lj,3,@Oq,4,@Mn,3,),),),@qss_nil,1,),);ac,@M5,11,$,$,$,3,-,@Cf,4,!,!,!,!,!,),$,{,$,},{,@Dp,1,),},{,$,},$,-,!,$,$,^,);ad,@Qf,10,&PassesOwn.never,-,:,$,$,$,!,!,^,);ae,@Mm,8,$,@Acj,2,),@qss_nil,1,),);af,@Kr,8,@K6,1,),$,@Aw,4,),);ag,@Acg,7,$,$,);ah,@q_callB,9,@c_abs,1,),:,+,$,!,?,?,!,!,);ai,@Do,4,$,2,$,@Aw,4,),!,<,!,<,);aj,@Mm,8,$,$,$,);ak,@Qg,13,$,$,-,@Cf,4,!,!,!,!,!,),$,{,$,},{,@Dp,1,),},{,$,},{,@Aw,4,),},^,);al,@Yz,10,&PassesOwn.never,-,:,$,$,$,!,!,^,);am,@Ll,9,$,@qo_none,1,),@qo_some,3,@q_neg,4,@Aw,4,),),),);an,@Acr,5,$,!,!,);ao,@V1,12,&PassesOwn.never,-,:,$,$,$,!,!,!,^,1,);ap,@Y5,8,$,$,$,);aq,@Hd,8,@o_ne,1,),$,$,~,);ar,@Do,4,$,2,$,@Acx,2,),!,<,!,<,);as,@Hd,8,@Adv,1,),$,@Mn,3,),~,);at,@Hd,8,@o_gt,1,),$,@Aw,4,),~,);au,@F9,4,@qa_nil,1,),);av,@F8,5,@qa_consP,5,@B8,4,),@qa_nil,1,),!,),);aw,@Ll,9,$,$,$,);ax,@q_call,8,&noX,3,$,/,@Tv,2,),@qa_consP,5,@F8,5,@qa_consP,5,@F8,5,@qa_consP,5,@Aw,4,),@qa_nil,1,),!,),),@qa_consP,5,@F8,5,@qa_consP,5,@Aw,4,),@qa_nil,1,),!,),),@qa_nil,1,),!,),!,),),@qa_nil,1,),!,),!,?,!,!,);ay,@Do,4,$,2,$,@F9,4,@qa_consP,5,@Aw,4,),@qa_consP,5,@Aw,4,),@qa_consP,5,@Aw,4,),@qa_consP,5,@Aw,4,),@qa_consP,5,@Aw,4,),@qa_consP,5,@Aw,4,),@qa_consP,5,@Aw,4,),@qa_consP,5,@Aw,4,),@qa_consP,5,@Aw,4,),@qa_consP,5,@Aw,4,),@qa_consP,5,@Aw,4,),@qa_consP,5,@Aw,4,),@qa_consP,5,@Aw,4,),@qa_nil,1,),!,),!,),!,),!,),!,),!,),!,),!,),!,),!,),!,),!,),!,),),!,<,!,<,);az,@q_callB,9,@Xt,1,),:,+,$,!,?,?,!,!,);aA,@Rr,8,$,$,8,-,@Cf,4,!,!,!,!,!,),:,$,{,$,},{,@Dp,1,),},{,$,},!,!,!,^,);aB,@Qg,13,$,$,-,@Cf,4,!,!,!,!,!,),$,{,$,},{,@Dp,1,),},{,$,},{,$,},^,);aC,@E6,9,@Q7,1,-,),=,+,$,!,?,?,!,!,);aD,@Acp,7,-,:,$,!,!,!,!,!,);aE,@Uk,4,$,4,$,$,$,!,<,<,);aF,@Uk,4,$,4,$,@Aef,1,),@Aw,4,),!,<,<,);aG,@Vz,23,$,$,@qa_consP,5,@B8,4,),@qa_nil,1,),!,),!,?,!,!,);aH,@E6,9,@Q7,1,-,),:,+,$,!,?,?,!,!,);aI,@Y2,9,-,$,:,$,!,!,);aJ,@Y9,15,$,$,-,@Cf,4,!,!,!,!,!,),$,{,$,},{,@Dp,1,),},{,$,},!,!,^,);aK,@M5,11,$,$,$,3,-,@Cf,4,!,!,!,!,!,),$,{,$,},{,$,},{,$,},$,-,!,$,$,^,);aL,@Yy,2,$,$,$,14,-,$,$,!,!,!,?,?,?,!,!,!,!,!,);aM,@V3,9,$,$,4,-,@Cf,4,!,!,!,!,!,),:,$,{,$,},{,$,},{,$,},!,!,^,);aN,@Rs,9,$,$,5,-,@Cf,4,!,!,!,!,!,),:,$,{,$,},{,$,},{,$,},!,!,!,^,);aO,@E6,9,$,:,+,$,!,?,?,!,!,);aP,@Lm,11,$,$,-,@Cf,4,!,!,!,!,!,),@F9,4,@qa_consP,5,@q_neg,4,@Aw,4,),),@qa_consP,5,@Aw,4,),@qa_consP,5,@Aw,4,),@qa_nil,1,),!,),!,),!,),),{,$,},{,@Dp,1,),},{,$,},^,);aQ,@Acw,10,$,$,$,$,!,!,!,!,);aR,@Y8,11,$,$,1,-,@Cf,4,!,!,!,!,!,),$,{,$,},{,@Dp,1,),},{,$,},^,!,);aS,@Y4,7,$,$,%,!,);aT,@q_callB,9,@Xs,1,),:,+,$,!,?,?,!,!,);aU,@Acy,7,$,$,!,!,!,!,!,);aV,@Do,4,$,2,$,@F9,4,@qa_consP,5,@B8,4,),@qa_consP,5,@B8,4,),@qa_consP,5,@B8,4,),@qa_consP,5,@B8,4,),@qa_consP,5,@B8,4,),@qa_consP,5,@B8,4,),@qa_consP,5,@B8,4,),@qa_consP,5,@B8,4,),@qa_consP,5,@B8,4,),@qa_consP,5,@B8,4,),@qa_nil,1,),!,),!,),!,),!,),!,),!,),!,),!,),!,),!,),),!,<,!,<,);aW,@Kr,8,@K6,1,),$,@F9,4,@qa_consP,5,@B8,4,),@qa_consP,5,@B8,4,),@qa_consP,5,@B8,4,),@qa_consP,5,@B8,4,),@qa_consP,5,@B8,4,),@qa_nil,1,),!,),!,),!,),!,),!,),),);aX,@Acu,7,$,$,!,!,!,!,!,);aY,@q_ext,7,$,$,!,!,!,!,!,);aZ,@q_callB,9,@Aeq,1,-,),:,+,$,!,?,?,!,!,);a0,@q_callB,9,@Aes,1,-,),:,+,$,!,?,?,!,!,);a1,@Do,4,$,2,$,@F9,4,@qa_consP,5,@Mn,3,),@qa_consP,5,@Aw,4,),@qa_consP,5,@Mn,3,),@qa_consP,5,@Mn,3,),@qa_nil,1,),!,),!,),!,),!,),),!,<,!,<,);a2,@Y3,7,-,:,:,$,!,!,!,!,!,);a3,@q_call,8,&noX,3,$,/,$,$,!,?,!,!,);a4,@q_callB,9,@S3,1,),:,+,$,!,?,?,!,!,);a5,@Acq,12,$,$,4,$,/,$,$,-,-,$,$,-,-,$,$,-,+,$,$,!,?,!,!,);a6,@q_call,8,&noX,3,$,/,@Tv,2,),@qa_consP,5,@F8,5,@qa_consP,5,@F8,5,@qa_nil,1,),),@qa_consP,5,@F8,5,@qa_nil,1,),),@qa_nil,1,),!,),!,),),@qa_nil,1,),!,),!,?,!,!,);a7,@q_callB,9,@Aet,1,-,),:,+,$,!,?,?,!,!,);a8,@q_callB,9,@Aer,1,-,),:,+,$,!,?,?,!,!,)".splitOn ";").map (·.splitOn ",")
local macro_rules|`(#[$xs,*])=>do
 let k::x:=xs.getElems.toList|Lean.Macro.throwUnsupported
 let some k:=k.raw.isStrLit?|Lean.Macro.throwUnsupported
 let some (_::t):=zzT.find? (·.head? ==some k)|Lean.Macro.throwUnsupported
 let (_,#[t]::_)←t.foldlM zzM (x,[#[]])|Lean.Macro.throwUnsupported
 return t
local macro_rules|`(tactic|simp![$xs,*])=>do
 let l←("nSeq,nIfS,P2,nOp,Rb,Cd,List.map_cons,List.map_nil,List.length_cons,List.length_nil,Nat.zero_add,Nat.reduceAdd,Nat.reduceSub,List.replicate,List.cons_append,List.nil_append,List.getElem?_cons_succ,List.getElem?_cons_zero,Option.some.injEq,nCB,Tz,Ji,List.cons.injEq,and_true,dI0,D.int.injEq,D.bl.injEq,nRet,dIx,exists_eq_left',Abb,nC,decide_eq_true_eq,Rc,nLst,Ga,List.set_cons_succ,List.set_cons_zero,dI,CMul,Int.reducePow,Int.reduceNeg,Tp,and_assoc,Int.reduceLT,true_and,Hj,and_self,true_or,T1,nAnd,dEq,eqS,Abf,Int.reduceLE,Int.reduceToNat,reduceCtorEq,if_false,exists_and_left,or_true,mTup,D.tup.injEq,Abj,mNil,mSub,Abo,D.ref.injEq,GO.lst.injEq,ix0,Od,Abi,D.ty.injEq,Aba,K7,Aap,Aen,nOr,nNot,nTru,Qm,nSl,Aa8,Ql,if_true,Ov,Xo,P1,Aa,B9,Bool.not_false,Xd,nFor,Dy,Xg,nNeg,Abg,nApp,Ux,Abe,Abc,Ks,Aa7,Aa5,nAug,nTup,Tx,nIf,Us,Uu,dNe,Abh,Abp,Uz,Aa9,Qn,nIfM,Nb,Aae,Abd,Uy,nFrz,Uw,nIdx,nCnt,nExt,dEmp,Uv,Aa6".splitOn ",").toArray.mapM fun n=>`(Lean.Parser.Tactic.simpLemma|$(Lean.mkIdent n.toName):term)
 `(tactic|simp only[$l,*,$xs,*])
theorem ln1 {α} {us:List α} (h:us.length=1):∃a,us=[a]:=by
 match us,h with | [a],_=>exact ⟨a,rfl⟩
theorem ln2 {α} {us:List α} (h:us.length=2):∃a b,us=[a,b]:=by
 match us,h with | [a,b],_=>exact ⟨a,b,rfl⟩
theorem ln3 {α} {us:List α} (h:us.length=3):∃a b c,us=[a,b,c]:=by
 match us,h with | [a,b,c],_=>exact ⟨a,b,c,rfl⟩
def top(i:Nat):Stmt:=PySem.Challenge.pw_laidmarks_k32_ways_one_by_one.main.body.getD i (.Pass ⟨0,0,0,0⟩)
abbrev Nw:List Str:=["len", "range", "abs", "divmod", "max", "min", "tuple", "int", "bool", "list", "str", "isinstance", "all", "sorted", "repr", "dict", "zip", "set", "sum", "reversed", "enumerate", "ValueError"]
theorem exPow{p:Int→Int→Prop}{i j:Int}:(∃a b,D.int i=D.int a∧D.int j=D.int b∧p a b)↔p i j:=⟨fun⟨_,_,e1,e2,h⟩=>by cases e1;cases e2;exact h,fun h=>⟨i,j,rfl,rfl,h⟩⟩
theorem Aav{α:Type}{xs:List α}{i:Int}(h0:0≤i)(h1:i<xs.length):∃x,atI xs i=some x∧x∈xs:=by
 obtain⟨k,rfl⟩:=Int.eq_ofNat_of_zero_le h0;have hk:k<xs.length:=by omega
 exact⟨xs[k],B4 (List.getElem?_eq_getElem hk),List.getElem_mem hk⟩
section
variable{P:Program}{w:World}{K:W.Frag}{mg:Str→Option Value}{base:Heap}
def A8(lo hi:Int):D→Bool
 |.int i=>decide (lo≤i)&&decide (i≤hi)
 |_=>false
structure Blt(mg:Str→Option Value):Prop where
 blt:∀{x:Str},x∈Nw→mg x=none
abbrev s_L_cell:Stmt:=top 44
abbrev X6:List Str:=["_law_script", "_law_k"]
abbrev p_L_cell:List Str:=["_law_script", "_law_k"]
theorem Rp:FnScope X6 p_L_cell (Ad s_L_cell):=⟨rfl,rfl,rfl,by decide +kernel,rfl,by decide +kernel,by decide +kernel⟩
def spCell:DSp:=fun ds G Q _=>∃ns k,ds=[.lint ns,.int k]∧0≤k∧∀n,Q (.int n) G
theorem Z1{f:Addr}{fd:FuncData}(F:Fun K "_law_cell" "_law_cell" s_L_cell f fd)(T:Blt mg):FnOk P w K mg base CX0 1 f fd p_L_cell (Ak K spCell):=by
 refine okD F Rp (fun ds G Q E h=>?_) (fun cdv A outer s H XE ds G Q E hr h=>?_)
 ·obtain⟨a,c,rfl,_⟩:=h;rfl
 ·obtain⟨ns,k,rfl,k0,q⟩:=h;refine⟨_,#["c",#["A",#["B",(@o_lt _),#["a",1],#["x",T,#["b",#["a",0]]]],#["e",#["h",#["v",#["a",0],#["a",1]]]]],#["e",#["h",#["w"]]]],?_⟩;obtain⟨k,rfl⟩:=Int.eq_ofNat_of_zero_le k0;simp![Kg,Ng]
  by_cases h:k<ns.length
  ·refine it0 (by omega) ?_
   have e:ns[k]? = some ns[k]:=by simp[h]
   exact⟨_,Vd (by rw[List.getElem?_map,e];rfl),Fq.of (q _)⟩
  ·refine it1 (by omega) ?_
   exact Fq.of (q _)
abbrev s_L_mix:Stmt:=top 45
abbrev Aay:List Str:=["_law_cell_here", "_law_k", "_law_some", "_law_stir"]
abbrev D2:List Str:=["_law_cell_here", "_law_k"]
theorem sc_L_mix:FnScope Aay D2 (Ad s_L_mix):=⟨rfl,rfl,rfl,by decide +kernel,rfl,by decide +kernel,by decide +kernel⟩
def Mj:DSp:=fun ds G Q _=>∃c k,ds=[.int c,.int k]∧0≤k∧k<100000∧∀n,Q (.int n) G
theorem Ads{f:Addr}{fd:FuncData}(F:Fun K "_law_mix" "_law_mix" s_L_mix f fd)(T:Blt mg):FnOk P w K mg base CX0 1 f fd D2 (Ak K Mj):=by
 refine okD F sc_L_mix (fun ds G Q E h=>?_) (fun cdv A outer s H XE ds G Q E hr h=>?_)
 ·obtain⟨a,c,rfl,_⟩:=h;rfl
 ·obtain⟨c,k,rfl,k0,k1,q⟩:=h;refine⟨_,#["c",#["ay",2,sc_L_mix.nd],#["c",#["i",3,sc_L_mix.nd,#["S",(@o_mul _),#["af",#["J",#["a",0]]],#["v",#["a",2],#["J",#["a",1]]]]],#["c",#["i",3,sc_L_mix.nd,#["q",#["q",#["a",3],#["T",#["a",1]]],#["T",#["U",#["a",1]]]]],#["c",#["i",3,sc_L_mix.nd,#["J",#["a",3]]],#["e",#["h",#["U",#["J",#["q",#["S",(@o_mul _),#["a",3],#["a",3]],#["T",#["a",1]]]]]]]]]]],?_⟩;have sz:13≤sizeLine:=szl (by decide)
  simp![sz];intro p hp;have h0:0≤k % 13:=Int.emod_nonneg _ (by decide)
  have h1:k % 13<13:=Int.emod_lt_of_pos _ (by decide)
  have p1:∀x:Int,0≤x % 2147483647∧x % 2147483647<2147483647:=fun x=>⟨Int.emod_nonneg _ (by decide),Int.emod_lt_of_pos _ (by decide)⟩
  have p2:∀x:Int,0≤x % 1000000007∧x % 1000000007<1000000007:=fun x=>⟨Int.emod_nonneg _ (by decide),Int.emod_lt_of_pos _ (by decide)⟩
  obtain⟨d,hd,hm⟩:=Aav (xs:=[D.int 48271,.int 69621,.int 16807,.int 39373,.int 30269,.int 40014,.int 40692,.int 50021,.int 61687,.int 71993,.int 83869,.int 95561,.int 30307]) h0 h1;obtain⟨m,rfl⟩:∃m,d=.int m:=by
   simp only[List.mem_cons,List.not_mem_nil,or_false] at hm;rcases hm with rfl|rfl|rfl|rfl|rfl|rfl|rfl|rfl|rfl|rfl|rfl|rfl|rfl<;>exact⟨_,rfl⟩
  have a1:=p1 c;simp![As Aa,hd];refine⟨.inl ⟨by omega,by omega⟩,.inl ⟨?_,?_⟩,G,Sub.new hp,q _⟩
  ·exact Int.lt_of_lt_of_le (by decide) (p2 _).1
  ·exact Int.lt_trans (p2 _).2 (by decide)
abbrev s_L_box:Stmt:=top 46
abbrev Aaz:List Str:=["_law_script", "_law_k", "_law_lap", "_law_cell_here", "_law_number", "_law_j"]
abbrev p_L_box:List Str:=["_law_script", "_law_k", "_law_lap"]
theorem sc_L_box:FnScope Aaz p_L_box (Ad s_L_box):=⟨rfl,rfl,rfl,by decide +kernel,rfl,by decide +kernel,by decide +kernel⟩
def spBox:DSp:=fun ds G Q _=>∃ns k lap,ds=[.lint ns,.int k,.int lap]∧(0≤k∧k<100∧0≤lap∧lap<10)∧∀p,G p=none→∀n,Q (.ref p) (Ab G p (.lst [.int n]))
theorem Adu{f:Addr}{fd:FuncData}(F:Fun K "_law_box" "_law_box" s_L_box f fd)(T:Blt mg)(Ail:Def P w K mg base CX0 1 "_law_cell" p_L_cell spCell)(Aim:Def P w K mg base CX0 1 "_law_mix" D2 Mj):FnOk P w K mg base CX0 2 f fd p_L_box (Ak K spBox):=by
 refine okD F sc_L_box (fun ds G Q E h=>?_) (fun cdv A outer s H XE ds G Q E hr h=>?_)
 ·obtain⟨a,c,l,rfl,_⟩:=h;rfl
 ·obtain⟨ns,k,lap,rfl,⟨k0,k1,l0,l1⟩,q⟩:=h;refine⟨_,#["c",#["i",3,sc_L_box.nd,#["f",Ail,hr,#["d",#["a",0],#["b",#["a",1]]]]],#["c",#["A",#["K",#["ag",#["V",#["J",#["a",3]]],(@qw_and1 _ _ _ _ #["V",#["a",2]])]],#["e",#["h",#["r",#["b",#["U",#["ah",T,#["b",#["a",3]]]]]]]]],#["c",#["ai",4,sc_L_box.nd],#["c",#["W",T,#["j",5,sc_L_box.nd],#["e",#["i",4,sc_L_box.nd,#["q",#["S",(@o_mul _),#["a",4],#["w"]],#["f",Aim,hr,#["d",#["a",3],#["b",#["q",#["T",#["a",2]],#["a",5]]]]]]]]],#["e",#["h",#["r",#["b",#["a",4]]]]]]]]],?_⟩;have sz:1≤sizeLine:=szl (by decide)
  simp![spCell,sz,k0];refine⟨ns,rfl,fun n=>?_⟩
  by_cases h2:n % 2=0
  ·refine it0 h2 ?_
   by_cases hl:lap=0
   ·refine it0 hl ?_;exact fun p hp=>Fq.of (q p hp _)
   ·refine it1 hl ?_;refine Bm (fun i σ G'=>∃v v',σ=[some (.lint ns),some (.int k),some (.int lap),some (.int n),some (.int v),v']∧G=G') ⟨0,none,rfl,rfl⟩ ?_ ?_
    ·rintro i σ G' hi ⟨v,v',rfl,rfl⟩;simp![Mj];refine⟨by omega,by omega,fun m=>Fs.of ⟨_,_,rfl,rfl⟩⟩
    ·rintro σ G' ⟨v,v',rfl,rfl⟩;simp![sz];exact fun p hp=>Fq.of (q p hp _)
  ·refine it1 h2 ?_;refine Bm (fun i σ G'=>∃v v',σ=[some (.lint ns),some (.int k),some (.int lap),some (.int n),some (.int v),v']∧G=G') ⟨0,none,rfl,rfl⟩ ?_ ?_
   ·rintro i σ G' hi ⟨v,v',rfl,rfl⟩;simp![Mj];refine⟨by omega,by omega,fun m=>Fs.of ⟨_,_,rfl,rfl⟩⟩
   ·rintro σ G' ⟨v,v',rfl,rfl⟩;simp![sz];exact fun p hp=>Fq.of (q p hp _)
abbrev s_L_take:Stmt:=top 47
abbrev X3:List Str:=["_law_box_here", "_law_count_here", "_law_left", "_law_digit"]
abbrev Da:List Str:=["_law_box_here", "_law_count_here"]
theorem sc_L_take:FnScope X3 Da (Ad s_L_take):=⟨rfl,rfl,rfl,by decide +kernel,rfl,by decide +kernel,by decide +kernel⟩
def Kw:DSp:=fun ds G Q _=>∃a c,ds=[.ref a,.int c]∧(∃b,G a=some (.lst [.int b]))∧(0<c∧c<1073741824)∧∀r b',0≤r→r<c→Q (.int r) (Ab G a (.lst [.int b']))
theorem Zt{f:Addr}{fd:FuncData}(F:Fun K "_law_take" "_law_take" s_L_take f fd)(T:Blt mg):FnOk P w K mg base CX0 1 f fd Da (Ak K Kw):=by
 refine okD F sc_L_take (fun ds G Q E h=>?_) (fun cdv A outer s H XE ds G Q E hr h=>?_)
 ·obtain⟨a,c,rfl,_⟩:=h;rfl
 ·obtain⟨a,c,rfl,⟨b,hG⟩,⟨c0,c1⟩,q⟩:=h;refine⟨_,#["c",#["C",#["az",T,#["d",#["n",#["a",0]],#["b",#["a",1]]]],#["D",2,#["E",#["j",2,sc_L_take.nd],#["F",#["j",3,sc_L_take.nd]]]]],#["c",#["C",#["a",2],#["X",#["a",0],#["w"],(@s_list _)]],#["e",#["h",#["a",3]]]]],?_⟩;simp![hG,c0,c1,As hG];exact Fq.of (q _ _ (Int.emod_nonneg _ (by omega)) (Int.emod_lt_of_pos _ c0))
def hid(G:Gp)(a:Addr):Gp:=fun b=>if b=a then none else G b
theorem Aak{G:Gp}{a:Addr}:Sub (hid G a) G:=fun b o h=>by
 unfold hid at h
 split at h
 ·cases h
 ·exact h
theorem Aal{G:Gp}{a:Addr}{o:GO}:hid (Ab G a o) a=hid G a:=by
 funext b;unfold hid Ab
 by_cases e:b=a<;>simp[e]
theorem Qw{G:Gp}{a p:Addr}{o:GO}(h:a≠p):hid (Ab G p o) a=Ab (hid G a) p o:=by
 funext b;unfold hid Ab
 by_cases e:b=a
 ·subst e;simp[h]
 ·simp[e]
theorem Hx{G:Gp}{a p:Addr}(h:G p=none):hid G a p=none:=by
 unfold hid;split<;>first|rfl|exact h
structure Step(a:Addr)(G G':Gp):Prop where
 box:∃b,G' a=some (.lst [.int b])
 sub:Sub (hid G a) (hid G' a)
theorem Step.trans{a:Addr}{G G1 G2:Gp}(x:Step a G G1)(y:Step a G1 G2):Step a G G2:=⟨y.box,x.sub.trans y.sub⟩
theorem Step.refl{a:Addr}{G:Gp}(h:∃b,G a=some (.lst [.int b])):Step a G G:=⟨h,Sub.refl _⟩
theorem Step.take{a:Addr}{G G1:Gp}(x:Step a G G1)(b:Int):Step a G (Ab G1 a (.lst [.int b])):=⟨⟨b,Aa⟩,by rw[Aal];exact x.sub⟩
theorem Step.ne{a p:Addr}{G:Gp}(x:∃b,G a=some (.lst [.int b]))(h:G p=none):a≠p:=fun e=>by subst e;obtain⟨b,hb⟩:=x;rw[h] at hb;cases hb
theorem Step.lay{a p:Addr}{G G1:Gp}{o:GO}(x:Step a G G1)(h:G1 p=none):Step a G (Ab G1 p o):=by
 have n:=Step.ne x.box h;obtain⟨b,hb⟩:=x.box;exact⟨⟨b,by rw[Ag n];exact hb⟩,by rw[Qw n];exact x.sub.skip (Hx h)⟩
theorem Step.get{a p:Addr}{G G1:Gp}{o:GO}(x:Step a G G1)(n:a≠p)(h:G p=some o):G1 p=some o:=by
 have e:hid G a p=some o:=by unfold hid;rw[if_neg (Ne.symm n)];exact h
 exact Aak _ _ (x.sub p o e)
theorem Step.back{a b:Addr}{G G1:Gp}(x:Step a G G1)(h:G1 b=none):G b=none:=by
 have n:=Step.ne x.box h;have e:=x.sub.none (Hx (a:=a) h);unfold hid at e
 rwa [if_neg (Ne.symm n)] at e
theorem Step.write{a p:Addr}{G G1:Gp}{o:GO}(x:Step a G G1)(h:G p=none)(n:a≠p):Step a G (Ab G1 p o):=by
 obtain⟨b,hb⟩:=x.box;refine⟨⟨b,by rw[Ag n];exact hb⟩,?_⟩
 rw[Qw n];intro c u e;rw[Ag (gne e (Hx h))];exact x.sub c u e
def nw(G G':Gp):Gp:=fun b=>if (G b).isNone=true then G' b else none
theorem Ai{G:Gp}{p q:Addr}{o u:GO}(h:G p=some o)(hq:G q=none):Ab G q u p=some o:=by rw[Ag (gne h hq)];exact h
theorem Dw{a:Addr}{G:Gp}{c:Int}{Q:DK}{E:DX}(hG:∃b,G a=some (.lst [.int b]))(c0:0<c)(c1:c<1073741824)(h:∀r b',0≤r→r<c→Q (.int r) (Ab G a (.lst [.int b']))):Kw [.ref a,.int c] G Q E:=⟨a,c,rfl,hG,⟨c0,c1⟩,h⟩
structure Nums(mg:Str→Option Value):Prop extends Blt mg where
 LEAST_COLUMNS:∃t,mg "LEAST_COLUMNS" = some (.int 2 t)
 MOST_COLUMNS:∃t,mg "MOST_COLUMNS" = some (.int 16 t)
 LAST_ROW:∃t,mg "LAST_ROW" = some (.int 8 t)
abbrev s_is_whole_within:Stmt:=top 21
abbrev Fh:List Str:=["thing", "low", "high"]
abbrev p_is_whole_within:List Str:=["thing", "low", "high"]
theorem Ep:FnScope Fh p_is_whole_within (Ad s_is_whole_within):=⟨rfl,rfl,rfl,by decide +kernel,rfl,by decide +kernel,by decide +kernel⟩
def spWhole:DSp:=fun ds G Q _=>∃d lo hi,ds=[d,.int lo,.int hi]∧Kn G d∧Q (.bl (A8 lo hi d)) G
theorem Wp{f:Addr}{fd:FuncData}(F:Fun K "is_whole_within" "is_whole_within" s_is_whole_within f fd)(T:Nums mg):FnOk P w K mg base CX0 1 f fd p_is_whole_within (Ak K spWhole):=by
 refine okD F Ep (fun ds G Q E h=>?_) (fun cdv A outer s H XE ds G Q E hr h=>?_)
 ·obtain⟨d,lo,hi,rfl,_⟩:=h;rfl
 ·obtain⟨d,lo,hi,rfl,⟨t,ht⟩,k⟩:=h;refine⟨_,#["e",#["h",#["Y",#["Z",T,#["d",#["a",0],#["b",#["L","int",T]]]],#["Y",(@q_not _ _ _ _ #["Z",T,#["d",#["a",0],#["b",#["L","bool",T]]]]),(@q_one _ _ _ _ _ (@q_chain _ _ _ _ _ _ _ _ _ _ _ _ (@o_le _) (@o_le _) #["a",1] #["a",0] #["a",2] (by with_unfolding_all rfl)))]]]],?_⟩
  simp![ht];have other:(pyIs t "int" = false∨pyIs t "bool" = true)→Q (.bl false) G→if pyIs t "int" = true then if (!pyIs t "bool")=true then ∃j,d=D.int j∧if lo≤j then ∃i,d=D.int i∧Fq Q (D.bl (decide (i≤hi))) G else Fq Q (D.bl false) G else Fq Q (D.bl false) G else Fq Q (D.bl false) G:=fun h q=>by
   rcases h with h|h
   ·rw[h,if_neg Bool.false_ne_true];exact Fq.of q
   ·rw[h];split
    ·rw[if_neg (by decide)];exact Fq.of q
    ·exact Fq.of q
  cases d with
  |int i=>
   cases ht;rw[if_pos (by decide),if_pos (by decide)]
   refine⟨i,rfl,?_⟩
   by_cases h:lo≤i
   ·rw[if_pos h];refine⟨i,rfl,Fq.of ?_⟩;simpa[A8,h] using k
   ·rw[if_neg h];refine Fq.of ?_;simpa[A8,h] using k
  |bl b=>cases ht;exact other (.inr (by decide)) k
  |non=>cases ht;exact other (.inl (by decide)) k
  |str x=>cases ht;exact other (.inl (by decide)) k
  |tup ds=>cases ht;exact other (.inl (by decide)) k
  |ty n=>cases ht
  |lint ns=>cases ht
  |ref a=>
   refine other (.inl ?_) k;simp only[Co] at ht
   split at ht<;>first|(cases ht;decide)|cases ht
def A0:D→Int
 |.int i=>i
 |_=>0
def Bu:List D→Bool
 |x::y::r=>decide (A0 x<A0 y)&&Bu (y::r)
 |_=>true
def ltD:D→Bool
 |.tup [u,v]=>decide (A0 u<A0 v)
 |_=>false
def risB(lo hi:Int):D→Bool
 |.tup ds=>ds.all (A8 lo hi)&&Bu ds
 |_=>false
abbrev Ju:D→Bool:=risB 0 8
theorem Hh{xs:List D}:Cc xs (some 1) none=xs.drop 1:=by
 simp only[Cc,HT.sIx,if_neg (show ¬(1:Int)<0 by decide)]
 cases xs with
 |nil=>rfl
 |cons x r=>simp
theorem Hl{x y:D}{xs ys:List D}:C5 [x::xs,y::ys]=.tup [x,y]::C5 [xs,ys]:=by
 have e:Dj [x::xs,y::ys]=Dj [xs,ys]+1:=by simp only[Dj,List.length_cons];omega
 unfold C5;rw[e,List.range_succ_eq_map,List.map_cons,List.map_map];rfl
theorem Ih:∀xs:List D,(C5 [xs,xs.drop 1]).all ltD=Bu xs
 |[]=>rfl
 |[x]=>by simp[C5,Dj,Bu]
 |x::y::r=>by
  show(C5 [x::y::r,y::r]).all ltD=_;rw[Hl,List.all_cons]
  have:=Ih (y::r)
  simp only[List.drop_succ_cons,List.drop_zero] at this;rw[this];rfl
theorem Go{xs ys:List D}{z:D}(h:z∈C5 [xs,ys]):∃u v,z=.tup [u,v]∧u∈xs∧v∈ys:=by
 obtain⟨i,hi,e⟩:=List.getElem_of_mem h;have hl:i<Dj [xs,ys]:=by rw[←Cr];exact hi
 have:=Ms hl
 rw[List.getElem?_eq_getElem hi,e] at this;cases this;have h1:=Ew hl xs (by simp)
 have h2:=Ew hl ys (by simp)
 exact⟨_,_,rfl,by simp[List.getD,h1],by simp[List.getD,h2]⟩
theorem Bd{α:Type}{xs:List α}:xs.filter (fun _=>true)=xs:=List.filter_eq_self.mpr fun _ _=>rfl
theorem Qk{G:Gp}{d:D}{t:String}(ht:Co G d=some t)(h:t≠"tuple"):pyIs t "tuple" = false∧∀xs,d≠.tup xs:=by
 refine⟨?_,fun xs e=>by subst e;cases ht;exact h rfl⟩
 have:=Ij ht
 simp only[List.mem_cons,List.not_mem_nil,or_false] at this;rcases this with rfl|rfl|rfl|rfl|rfl|rfl|rfl<;>first|rfl|exact absurd rfl h
abbrev s_are_rising_within:Stmt:=top 22
abbrev Ed:List Str:=["thing", "low", "high"]
abbrev Av:List Str:=["thing", "low", "high"]
theorem Du:FnScope Ed Av (Ad s_are_rising_within):=⟨rfl,rfl,rfl,by decide +kernel,rfl,by decide +kernel,by decide +kernel⟩
theorem nd_are_rising_within_1:((["number"]:List Str)++(["thing", "low", "high"]:List Str)).Nodup:=by decide +kernel
theorem nd_are_rising_within_2:((["ahead", "number"]:List Str)++(["thing", "low", "high"]:List Str)).Nodup:=by decide +kernel
def E4:DSp:=fun ds G Q _=>∃d lo hi,ds=[d,.int lo,.int hi]∧KnT G 1 d∧(∀xs,d=.tup xs→xs.length<sizeLine)∧Q (.bl (risB lo hi d)) G
theorem Rx{f:Addr}{fd:FuncData}(F:Fun K "are_rising_within" "are_rising_within" s_are_rising_within f fd)(T:Nums mg)(Aig:Def P w K mg base CX0 1 "is_whole_within" p_is_whole_within spWhole):FnOk P w K mg base CX0 2 f fd Av (Ak K E4):=by
 refine okD F Du (fun ds G Q E h=>?_) (fun cdv A outer s H XE ds G Q E hr h=>?_)
 ·obtain⟨d,lo,hi,rfl,_⟩:=h;rfl
 ·obtain⟨d,lo,hi,rfl,kn,hz,k⟩:=h;refine⟨_,#["c",#["H",#["K",#["5",#["s",#["o",#["Z",T,#["d",#["a",0],#["b",#["L","tuple",T]]]]]],(@qw_or1 _ _ _ _ #["s",#["o",#["6",T,#["b",#["M",["number"],["thing", "low", "high"],#["a",0],#["k",0,nd_are_rising_within_1],#["f",Aig,hr,#["d",#["a",0],#["d",#["g",2],#["b",#["g",3]]]]]]]]]])]]],#["e",#["h",#["6",T,#["b",#["aA",["ahead", "number"],["thing", "low", "high"],T,#["d",#["a",0],#["b",#["N",#["a",0]]]],#["D",2,#["E",#["k",0,nd_are_rising_within_2],#["F",#["k",1,nd_are_rising_within_2]]]],#["7",(@o_lt _),#["a",0],#["a",1]]]]]]]],?_⟩;obtain⟨t,ht⟩:=kn.kn;simp![ht];refine⟨pyIs t "tuple",rfl,?_⟩
  by_cases htt:t = "tuple"
  ·subst htt;obtain⟨xs,rfl⟩:=Ug ht;rw[if_neg (by decide)]
   have k2:Q (.bl (xs.all (A8 lo hi)&&Bu xs)) G:=k;have hz1:=hz xs rfl;refine⟨xs,rfl,fun p hp=>?_⟩;refine Ay (fun x=>.bl (A8 lo hi x)) (fun _=>true) hz1 (fun _=>rfl) (by decide) (fun x ys hx hl R1 R2 g1 _=>?_) ?_
   ·have kx:Kn (Ab G p (.lst ys)) x:=Kn.new (kn.2 xs rfl x hx) hp;simp![spWhole,hl,kx];exact Fg.of (g1 rfl)
   ·refine⟨p,rfl,xs.map (A8 lo hi),by rw[Aa,Bd,List.map_map];rfl,?_⟩
    have ea:(xs.map (A8 lo hi)).all id=xs.all (A8 lo hi):=by simp[List.all_map]
    refine⟨_,rfl,?_⟩;rw[ea];cases hc:xs.all (A8 lo hi) with
    |false=>
     rw[if_pos (by decide)]
     rw[hc] at k2;exact⟨G,Sub.new hp,by simpa using k2⟩
    |true=>
     rw[if_neg (by decide)]
     rw[hc] at k2;have allI:∀x∈xs,∃i,x=.int i:=fun x hx=>by
      have:=List.all_eq_true.mp hc x hx
      cases x with
      |int i=>exact⟨i,rfl⟩
      |_=>exact absurd (show false=true from this) Bool.false_ne_true
     rw[Dy,Hh];have sg:Sub G (Ab G p (.lst ((xs.filter fun _=>true).map fun x=>.bl (A8 lo hi x)))):=Sub.new hp;generalize Ab G p (.lst ((xs.filter fun _=>true).map fun x=>.bl (A8 lo hi x)))=G1 at *;refine⟨[xs,xs.drop 1],rfl,fun p2 hp2=>?_⟩;have hzl:(C5 [xs,xs.drop 1]).length<sizeLine:=by
      rw[Cr];refine Nat.lt_of_le_of_lt ?_ hz1;simp only[Dj];omega
     refine Xp (fun z=>match z with|.tup [u,v]=>[some u,some v,some (.tup xs),some (.int lo),some (.int hi)]|_=>[none,none,some (.tup xs),some (.int lo),some (.int hi)]) (fun z=>.bl (ltD z)) (fun _=>true) hzl (fun _=>rfl) (fun z hz=>?_) (fun z ys hzm hl R1 R2 g1 _=>?_) ?_
     ·obtain⟨u,v,rfl,_,_⟩:=Go hz;refine⟨⟨[some u,some v],rfl,rfl⟩,fun G' R h=>?_⟩;simp![];exact h
     ·obtain⟨u,v,rfl,hu,hv⟩:=Go hzm;obtain⟨i,rfl⟩:=allI u hu;obtain⟨j,rfl⟩:=allI v (List.mem_of_mem_drop hv);simp![hl];exact Fg.of (g1 rfl)
     ·refine⟨p2,rfl,(C5 [xs,xs.drop 1]).map ltD,by rw[Aa,Bd,List.map_map];rfl,?_⟩
      have e2:((C5 [xs,xs.drop 1]).map ltD).all id=Bu xs:=by rw[List.all_map];exact Ih xs
      rw[e2];exact⟨G,sg.skip hp2,by simpa using k2⟩
  ·obtain⟨e,nt⟩:=Qk ht htt;rw[e,if_pos (by decide)]
   refine Fq.of ?_;cases d with
   |tup xs=>exact absurd rfl (nt xs)
   |_=>exact k
abbrev s_are_rows:Stmt:=top 27
abbrev Px:List Str:=["thing"]
abbrev B1:List Str:=["thing"]
theorem Ny:FnScope Px B1 (Ad s_are_rows):=⟨rfl,rfl,rfl,by decide +kernel,rfl,by decide +kernel,by decide +kernel⟩
def Kz:DSp:=fun ds G Q _=>∃d,ds=[d]∧KnT G 1 d∧(∀xs,d=.tup xs→xs.length<sizeLine)∧Q (.bl (Ju d)) G
theorem Zx{f:Addr}{fd:FuncData}(F:Fun K "are_rows" "are_rows" s_are_rows f fd)(T:Nums mg)(Ain:Def P w K mg base CX0 2 "are_rising_within" Av E4):FnOk P w K mg base CX0 3 f fd B1 (Ak K Kz):=by
 refine okD F Ny (fun ds G Q E h=>?_) (fun cdv A outer s H XE ds G Q E hr h=>?_)
 ·obtain⟨d,rfl,_⟩:=h;rfl
 ·obtain⟨d,rfl,kn,hz,k⟩:=h;refine⟨_,#["e",#["h",#["f",Ain,hr,#["d",#["a",0],#["0",#["b",#["8",T.LAST_ROW]]]]]]],?_⟩;simp![E4,kn];exact⟨hz,Fq.of k⟩
def Mq:D→Bool
 |.tup cs=>decide (2≤cs.length)&&decide (cs.length≤16)&&cs.all Ju
 |_=>false
def SzT(d:D):Prop:=∀xs,d=.tup xs→xs.length<sizeLine∧∀y∈xs,∀ys,y=.tup ys→ys.length<sizeLine
abbrev s_is_channel:Stmt:=top 28
abbrev Mf:List Str:=["thing"]
abbrev Bp:List Str:=["thing"]
theorem Jm:FnScope Mf Bp (Ad s_is_channel):=⟨rfl,rfl,rfl,by decide +kernel,rfl,by decide +kernel,by decide +kernel⟩
theorem nd_is_channel_1:((["rows"]:List Str)++(["thing"]:List Str)).Nodup:=by decide +kernel
def K1:DSp:=fun ds G Q _=>∃d,ds=[d]∧KnT G 2 d∧SzT d∧Q (.bl (Mq d)) G
theorem Z0{f:Addr}{fd:FuncData}(F:Fun K "is_channel" "is_channel" s_is_channel f fd)(T:Nums mg)(Aio:Def P w K mg base CX0 3 "are_rows" B1 Kz):FnOk P w K mg base CX0 4 f fd Bp (Ak K K1):=by
 refine okD F Jm (fun ds G Q E h=>?_) (fun cdv A outer s H XE ds G Q E hr h=>?_)
 ·obtain⟨d,rfl,_⟩:=h;rfl
 ·obtain⟨d,rfl,kn,hz,k⟩:=h;refine⟨_,#["c",#["H",#["K",#["5",#["s",#["o",#["Z",T,#["d",#["a",0],#["b",#["L","tuple",T]]]]]],(@qw_or1 _ _ _ _ #["s",(@qt_chain _ _ _ _ _ _ _ _ _ _ _ _ (@o_le _) (@o_le _) #["8",T.LEAST_COLUMNS] #["x",T,#["b",#["a",0]]] #["8",T.MOST_COLUMNS] (by with_unfolding_all rfl))])]]],#["e",#["h",#["6",T,#["b",#["M",["rows"],["thing"],#["a",0],#["k",0,nd_is_channel_1],#["f",Aio,hr,#["b",#["a",0]]]]]]]]],?_⟩
  obtain⟨t,ht⟩:=kn.kn;simp![ht];refine⟨pyIs t "tuple",rfl,?_⟩
  by_cases htt:t = "tuple"
  ·subst htt;obtain⟨xs,rfl⟩:=Ug ht;rw[if_neg (by decide)]
   refine⟨xs.length,rfl,?_⟩;have k2:Q (.bl (decide (2≤xs.length)&&decide (xs.length≤16)&&xs.all Ju)) G:=k;obtain⟨hz1,hz2⟩:=hz xs rfl
   by_cases h1:2≤xs.length
   ·rw[if_pos (by omega)]
    by_cases h9:xs.length≤16
    ·rw[if_neg (by simp;omega)]
     rw[decide_eq_true h1,decide_eq_true h9] at k2;refine⟨xs,rfl,fun p hp=>?_⟩;refine Ay (fun x=>.bl (Ju x)) (fun _=>true) hz1 (fun _=>rfl) (by decide) (fun x ys hx hl R1 R2 g1 _=>?_) ?_
     ·have kx:KnT (Ab G p (.lst ys)) 1 x:=KnT.new hp (kn.2 xs rfl x hx);have zx:=hz2 x hx;simp![Kz,hl,kx];exact⟨zx,Fg.of (g1 rfl)⟩
     ·refine⟨p,rfl,xs.map Ju,by rw[Aa,Bd,List.map_map];rfl,?_⟩
      refine⟨G,Sub.new hp,?_⟩;simpa[List.all_map] using k2
    ·rw[if_pos (by simp;omega)]
     refine Fq.of ?_;simpa[h9] using k2
   ·rw[if_neg (by omega)]
    refine Fq.of ?_;simpa[h1] using k2
  ·obtain⟨e,nt⟩:=Qk ht htt;rw[e,if_pos (by decide)]
   refine Fq.of ?_;cases d with
   |tup xs=>exact absurd rfl (nt xs)
   |_=>exact k
abbrev s_check_channel:Stmt:=top 29
abbrev Gn:List Str:=["thing"]
abbrev p_check_channel:List Str:=["thing"]
theorem F6:FnScope Gn p_check_channel (Ad s_check_channel):=⟨rfl,rfl,rfl,by decide +kernel,rfl,by decide +kernel,by decide +kernel⟩
def spCheckC:DSp:=fun ds G Q _=>∃d,ds=[d]∧KnT G 2 d∧SzT d∧Mq d=true∧Q .non G
theorem R0{f:Addr}{fd:FuncData}(F:Fun K "check_channel" "check_channel" s_check_channel f fd)(T:Nums mg)(Aip:Def P w K mg base CX0 4 "is_channel" Bp K1):FnOk P w K mg base CX0 5 f fd p_check_channel (Ak K spCheckC):=by
 refine okD F F6 (fun ds G Q E h=>?_) (fun cdv A outer s H XE ds G Q E hr h=>?_)
 ·obtain⟨d,rfl,_⟩:=h;rfl
 ·obtain⟨d,rfl,kn,hz,hc,k⟩:=h;refine⟨_,#["e",#["aj",#["s",#["o",#["f",Aip,hr,#["b",#["a",0]]]]],#["e",(@V0 _ _)],(@qss_nil _)]],?_⟩;simp![K1,kn];refine⟨hz,_,rfl,?_⟩;rw[hc,if_neg (by decide)]
  exact Fq.of k
def Aq(r i:Int):Bool:=decide ((if i-r<0 then -(i-r) else i-r)≤1)
theorem Pe{G:Gp}{d:D}{ds:List D}{p:Addr}{o:GO}(h:Ar G d=some ds)(hp:G p=none):Ar (Ab G p o) d=some ds:=by
 cases d<;>first|exact h|skip
 rename_i a;simp only[Ar] at h ⊢
 split at h
 ·rename_i xs e;rw[Ai e hp];exact h
 ·cases h
abbrev s_rows_near:Stmt:=top 30
abbrev N6:List Str:=["rows", "row"]
abbrev p_rows_near:List Str:=["rows", "row"]
theorem L5:FnScope N6 p_rows_near (Ad s_rows_near):=⟨rfl,rfl,rfl,by decide +kernel,rfl,by decide +kernel,by decide +kernel⟩
theorem nd_rows_near_1:((["other"]:List Str)++(["rows", "row"]:List Str)).Nodup:=by decide +kernel
def spNear:DSp:=fun ds G Q _=>∃(d:D) (ns:List Int) (r:Int),ds=[d,.int r]∧Ar G d=some (ns.map D.int)∧ns.length<sizeLine∧∀p,G p=none→Q (.ref p) (Ab G p (.lst ((ns.filter (Aq r)).map D.int)))
theorem Zy{f:Addr}{fd:FuncData}(F:Fun K "rows_near" "rows_near" s_rows_near f fd)(T:Nums mg):FnOk P w K mg base CX0 1 f fd p_rows_near (Ak K spNear):=by
 refine okD F L5 (fun ds G Q E h=>?_) (fun cdv A outer s H XE ds G Q E hr h=>?_)
 ·obtain⟨d,ns,r,rfl,_⟩:=h;rfl
 ·obtain⟨d,ns,r,rfl,hi,hz,k⟩:=h;refine⟨_,#["e",#["h",#["9",["other"],["rows", "row"],#["a",0],#["k",0,nd_rows_near_1],#["I",#["B",(@o_le _),#["ah",T,#["b",#["S",(@o_sub _),#["a",0],#["g",2]]]],#["w"]]],#["a",0]]]],?_⟩;simp![hi];intro p hp;refine Ay (fun x=>x) (fun x=>Aq r (A0 x)) (by simpa using hz) (fun ys=>Pe hi hp) (by decide) (fun x ys hx hl R1 R2 g1 g2=>?_) ?_
  ·obtain⟨i,_,rfl⟩:=List.mem_map.mp hx;simp![hl]
   by_cases h:(if i-r<0 then -(i-r) else i-r)≤1
   ·rw[if_pos h];exact Fg.of (g1 (decide_eq_true h))
   ·rw[if_neg h];exact Fg.of (g2 (decide_eq_false h))
  ·refine Fq.of ?_;have e:List.map (fun x=>x) (List.filter (fun x=>Aq r (A0 x)) (List.map D.int ns))=(ns.filter (Aq r)).map D.int:=by
    rw[List.map_id',List.filter_map];rfl
   rw[e];exact k p hp
def B3(ns ms:List Int):List Int:=ns.filter fun r=>!(ms.filter (Aq r)).isEmpty
theorem P7{G:Gp}{a:Addr}{ds:List D}(h:G a=some (.lst ds)):Kp G (.ref a)=some (!ds.isEmpty):=by simp only[Kp,h]
abbrev s_rows_beyond:Stmt:=top 31
abbrev Js:List Str:=["rows", "ahead"]
abbrev Bg:List Str:=["rows", "ahead"]
theorem Iz:FnScope Js Bg (Ad s_rows_beyond):=⟨rfl,rfl,rfl,by decide +kernel,rfl,by decide +kernel,by decide +kernel⟩
theorem nd_rows_beyond_1:((["row"]:List Str)++(["rows", "ahead"]:List Str)).Nodup:=by decide +kernel
def Hq:DSp:=fun ds G Q _=>∃(ns ms:List Int),ds=[.tup (ns.map D.int),.tup (ms.map D.int)]∧ns.length<sizeLine∧ms.length<sizeLine∧Q (.tup ((B3 ns ms).map D.int)) G
theorem R3{f:Addr}{fd:FuncData}(F:Fun K "rows_beyond" "rows_beyond" s_rows_beyond f fd)(T:Nums mg)(Aib:Def P w K mg base CX0 1 "rows_near" p_rows_near spNear):FnOk P w K mg base CX0 2 f fd Bg (Ak K Hq):=by
 refine okD F Iz (fun ds G Q E h=>?_) (fun cdv A outer s H XE ds G Q E hr h=>?_)
 ·obtain⟨d,r,rfl,_⟩:=h;rfl
 ·obtain⟨ns,ms,rfl,hz,hz2,k⟩:=h;refine⟨_,#["e",#["h",#["O",T,#["b",#["9",["row"],["rows", "ahead"],#["a",0],#["k",0,nd_rows_beyond_1],#["I",#["o",#["f",Aib,hr,#["d",#["g",2],#["b",#["a",0]]]]]],#["a",0]]]]]],?_⟩;simp![];intro p hp;refine Ay (fun x=>x) (fun x=>!(ms.filter (Aq (A0 x))).isEmpty) (by simpa using hz) (fun _=>trivial) (by decide) (fun x ys hx hl R1 R2 g1 g2=>?_) ?_
  ·obtain⟨i,_,rfl⟩:=List.mem_map.mp hx;simp![hl];refine⟨_,ms,i,rfl,rfl,hz2,fun q hq=>?_⟩;obtain⟨npq,hq⟩:=Z4 hq;have hqG:Ab G p (.lst ys) q=none:=by rw[Ag npq.symm];exact hq
   refine⟨_,P7 Aa,?_⟩;have ee:(List.map D.int (List.filter (Aq i) ms)).isEmpty=(ms.filter (Aq i)).isEmpty:=by cases ms.filter (Aq i)<;>rfl
   rw[ee];cases hc:(ms.filter (Aq i)).isEmpty with
   |true=>
    rw[if_neg (by decide)]
    exact⟨_,Sub.new hqG,g2 (by simp only[A0,hc];rfl)⟩
   |false=>
    rw[if_pos (by decide)]
    simp![Ag npq,Yg npq];refine⟨_,?_,g1 (by simp only[A0,hc];rfl)⟩
    exact(Sub.refl _).skip (by rw[Ag npq.symm];exact hq)
  ·have e:List.map (fun x=>x) (List.filter (fun x=>!(ms.filter (Aq (A0 x))).isEmpty) (List.map D.int ns))=(B3 ns ms).map D.int:=by
    rw[List.map_id',List.filter_map];rfl
   rw[e];simp![Am Aa];exact⟨G,Sub.new hp,k⟩
def Ah(c:List Int):D:=.tup (c.map D.int)
def chD(cs:List (List Int)):D:=.tup (cs.map Ah)
def Bt(acc:List (List Int))(r:List Int):List (List Int):=if (acc.getLastD []).isEmpty=true then acc else acc++[B3 r (acc.getLastD [])]
def Br(cs:List (List Int)):List (List Int):=(cs.drop 1).foldl Bt [cs.headD []]
theorem Ri{acc:List (List Int)}{r:List Int}:acc.length≤(Bt acc r).length∧(Bt acc r).length≤acc.length+1:=by
 unfold Bt;split<;>simp
theorem Hz:∀(rs:List (List Int)) (acc:List (List Int)),acc.length≤(rs.foldl Bt acc).length∧(rs.foldl Bt acc).length≤acc.length+rs.length
 |[],acc=>⟨Nat.le_refl _,Nat.le_refl _⟩
 |r::rs,acc=>by
  have h:=Hz rs (Bt acc r);have h2:=Ri (acc:=acc) (r:=r);simp only[List.foldl_cons,List.length_cons];omega
theorem Iw{n:Nat}:∀(rs:List (List Int)) (acc:List (List Int)),(∀c∈rs,c.length≤n)→(∀c∈acc,c.length≤n)→∀c∈rs.foldl Bt acc,c.length≤n
 |[],acc,_,h=>h
 |r::rs,acc,hr,h=>by
  refine Iw rs (Bt acc r) (fun c hc=>hr c (by simp[hc])) fun c hc=>?_
  unfold Bt at hc
  split at hc
  ·exact h c hc
  ·rcases List.mem_append.mp hc with z|z
   ·exact h c z
   ·rw[List.mem_singleton.mp z];exact Nat.le_trans (List.length_filter_le _ _) (hr r (by simp))
theorem B0{α:Type}:∀{xs:List α},xs≠[]→∃i l,xs=i++[l]
 |[],h=>absurd rfl h
 |[x],_=>⟨[],x,rfl⟩
 |x::y::r,_=>by
  obtain⟨i,l,e⟩:=B0 (xs:=y::r) (by simp)
  exact⟨x::i,l,by rw[e];rfl⟩
theorem Qs{acc:List (List Int)}(h:acc≠[]):atI (acc.map Ah) (-1)=some (Ah (acc.getLastD [])):=by
 obtain⟨init,l,rfl⟩:=B0 h;rw[List.map_append,List.map_cons,List.map_nil,Bw];simp
abbrev s_rows_reached:Stmt:=top 32
abbrev Je:List Str:=["channel", "reached", "rows"]
abbrev p_rows_reached:List Str:=["channel"]
theorem sc_rows_reached:FnScope Je p_rows_reached (Ad s_rows_reached):=⟨rfl,rfl,rfl,by decide +kernel,rfl,by decide +kernel,by decide +kernel⟩
def spReached:DSp:=fun ds G Q _=>∃cs,ds=[chD cs]∧cs≠[]∧cs.length≤100∧(∀c∈cs,c.length≤100)∧∀p,G p=none→Q (.ref p) (Ab G p (.lst ((Br cs).map Ah)))
theorem O8{f:Addr}{fd:FuncData}(F:Fun K "rows_reached" "rows_reached" s_rows_reached f fd)(T:Nums mg)(Aiq:Def P w K mg base CX0 2 "rows_beyond" Bg Hq):FnOk P w K mg base CX0 3 f fd p_rows_reached (Ak K spReached):=by
 refine okD F sc_rows_reached (fun ds G Q E h=>?_) (fun cdv A outer s H XE ds G Q E hr h=>?_)
 ·obtain⟨d,rfl,_⟩:=h;rfl
 ·obtain⟨cs,rfl,hne,hl,hsm,k⟩:=h;refine⟨_,#["c",#["i",1,sc_rows_reached.nd,#["r",#["b",#["n",#["a",0]]]]],#["c",#["z",#["N",#["a",0]],#["j",2,sc_rows_reached.nd],#["e",#["A",#["o",#["t",#["a",1]]],#["e",#["p",#["y",#["a",1],#["f",Aiq,hr,#["d",#["a",2],#["b",#["t",#["a",1]]]]]]]]]]],#["e",#["h",#["a",1]]]]],?_⟩;obtain⟨c0,rest,rfl⟩:∃c r,cs=c::r:=by
   cases cs with
   |nil=>exact absurd rfl hne
   |cons c r=>exact⟨c,r,rfl⟩
  have sz1:1≤sizeLine:=szl (by decide)
  simp![chD,sz1,Hh,List.drop_succ_cons,List.drop_zero];intro p hp;refine A4 (fun i σ G'=>∃v,σ=[some (.tup (Ah c0::rest.map Ah)),some (.ref p),v]∧Ab G p (.lst (((rest.take i).foldl Bt [c0]).map Ah))=G') ⟨none,rfl,rfl⟩ (fun i σ G' _ ⟨v,_,e⟩=>?_) ?_ ?_
  ·first|rfl|trivial
  ·rintro i x σ _ hx ⟨v,rfl,rfl⟩;rw[List.getElem?_map] at hx;cases hri:rest[i]? with
   |none=>rw[hri] at hx;cases hx
   |some r=>
    rw[hri] at hx;cases hx;have hmem:r∈rest:=List.mem_of_getElem? hri;have hfl:=Hz (rest.take i) [c0];have hfs:=Iw (n:=100) (rest.take i) [c0] (fun c hc=>hsm c (by simp[List.mem_of_mem_take hc])) (fun c hc=>by rw[List.mem_singleton.mp hc];exact hsm c0 (by simp))
    have tk:rest.take (i+1)=rest.take i++[r]:=by rw[List.take_add_one,hri];rfl
    have hll:(rest.take i).length≤100:=by rw[List.length_take];simp at hl;omega
    have fe:(rest.take (i+1)).foldl Bt [c0]=Bt ((rest.take i).foldl Bt [c0]) r:=by rw[tk,List.foldl_append];rfl
    generalize hacc:(rest.take i).foldl Bt [c0]=acc at *;have hane:acc≠[]:=fun z=>by rw[z] at hfl;simp at hfl
    simp![As Aa,Qs hane];generalize hla:acc.getLastD []=la at *;have hlm:la.length≤100:=by
     rw[←hla];obtain⟨init,l,e⟩:=B0 hane;rw[e];simpa using hfs l (by rw[e];simp)
    have ie:(la.map D.int).isEmpty=la.isEmpty:=by cases la<;>rfl
    refine⟨!la.isEmpty,by rw[←ie];rfl,?_⟩
    cases hem:la.isEmpty with
    |true=>
     rw[if_neg (by decide)]
     refine Fs.of ⟨_,rfl,?_⟩;rw[fe];unfold Bt;rw[hla,if_pos hem]
    |false=>
     rw[if_pos (by decide)]
     refine⟨⟨_,rfl⟩,r,la,rfl,Nat.lt_of_le_of_lt (hsm r (by simp[hmem])) (Bo (by decide)),Nat.lt_of_le_of_lt hlm (Bo (by decide)),_,Aa,?_,?_⟩
     ·rw[List.length_map];exact Nat.lt_of_le_of_lt (show acc.length≤200 by have:=hfl.2;simp only[List.length_cons,List.length_nil] at this;omega) (Bo (by decide))
     ·refine Fs.of ⟨_,rfl,?_⟩;rw[fe,B9];unfold Bt;rw[hla,if_neg (by rw[hem];decide),List.map_append];rfl
  ·rintro σ _ ⟨v,rfl,rfl⟩;simp![];rw[List.length_map,List.take_length];exact Fq.of (k p hp)
theorem T3{G:Gp}{cs:List (List Int)}:KnT G 2 (chD cs):=⟨⟨_,rfl⟩,fun ds e x hx=>by
 cases e;obtain⟨c,_,rfl⟩:=List.mem_map.mp hx;refine⟨⟨_,rfl⟩,fun ds e y hy=>?_⟩;cases e;obtain⟨i,_,rfl⟩:=List.mem_map.mp hy;exact⟨_,rfl⟩⟩
theorem sz_ch{cs:List (List Int)}(h:cs.length≤100)(hs:∀c∈cs,c.length≤100):SzT (chD cs):=fun xs e=>by
 cases e;refine⟨by rw[List.length_map];exact Nat.lt_of_le_of_lt h (Bo (by decide)),fun y hy ys e=>?_⟩
 obtain⟨c,hc,rfl⟩:=List.mem_map.mp hy;cases e;rw[List.length_map];exact Nat.lt_of_le_of_lt (hs c hc) (Bo (by decide))
theorem Vw(cs:List (List Int)):Br cs≠[]:=fun z=>by
 have:=(Hz (cs.drop 1) [cs.headD []]).1
 unfold Br at z;rw[z] at this;simp at this
theorem Hr{G:Gp}:∀{ns:List Int},RepDs G (ns.map D.int) (ns.map PyData.int)
 |[]=>.nil
 |n::r=>.cons (.int n) Hr
theorem Nh:∀ns:List Int,PyData.canLayAll0 (ns.map PyData.int)=true
 |[]=>rfl
 |n::r=>by rw[List.map_cons,PyData.canLayAll0,Nh r];rfl
theorem Nq:∀ns:List Int,PyData.depthAll (ns.map PyData.int)=0
 |[]=>rfl
 |n::r=>by rw[List.map_cons,PyData.depthAll,Nq r];rfl
theorem Gf:∀ns:List Int,Bu (ns.map D.int)=decide (ns.Pairwise (· < ·))
 |[]=>by simp[Bu]
 |[x]=>by simp[Bu]
 |x::y::r=>by
  have ih:=Gf (y::r);simp only[List.map_cons] at ih;show(decide (x<y)&&Bu (D.int y::r.map D.int))=_;rw[ih]
  by_cases h:x<y
  ·rw[decide_eq_true h,Bool.true_and];congr 1;rw[List.pairwise_cons (a:=x)];refine propext ⟨fun hp=>⟨fun z hz=>?_,hp⟩,fun hp=>hp.2⟩;rcases List.mem_cons.mp hz with rfl|hz
   ·exact h
   ·exact Int.lt_trans h ((List.pairwise_cons.mp hp).1 z hz)
  ·rw[decide_eq_false h,Bool.false_and]
   symm
   exact decide_eq_false fun hp=>h ((List.pairwise_cons.mp hp).1 y (by simp))
theorem M1:∀{c:List Int} {lo hi:Int},(∀i∈c,lo≤i∧i≤hi)→c.Pairwise (· < ·)→(c.length:Int)≤max 0 (hi-lo+1)
 |[],lo,hi,_,_=>by simp;omega
 |x::r,lo,hi,h,hp=>by
  obtain⟨h1,h2⟩:=List.pairwise_cons.mp hp;have hx:=h x (by simp)
  have ih:=M1 (c:=r) (lo:=lo+1) (hi:=hi) (fun i hi'=>⟨by have:=h1 i hi';omega,(h i (by simp[hi'])).2⟩) h2
  rw[List.length_cons];push_cast;omega
def neD:D→Bool
 |.tup xs=>!xs.isEmpty
 |_=>false
theorem Nt{xs:List D}:Cc xs none (some (-1))=xs.dropLast:=by
 unfold Cc HT.sIx;simp only[List.drop_zero,Nat.sub_zero];rw[List.dropLast_eq_take];congr 1;simp only[show(-1:Int)<0 by decide,if_true]
 omega
def Jg:D→List Int
 |.tup xs=>xs.map A0
 |_=>[]
theorem E5(c:List Int):Jg (Ah c)=c:=by
 show(c.map D.int).map A0=c;rw[List.map_map];exact List.map_id' c
end
theorem near_iff{a b:Int}:Aq a b=true↔a-b≤1∧b-a≤1:=by
 unfold Aq;rw[decide_eq_true_eq];split<;>omega
def okp:Option Int→Int→Bool
 |none,_=>true
 |some a,r=>Aq a r
def Ac:Option Int→List (List Int)→List (List Int)
 |_,[]=>[[]]
 |p,c::cs=>(c.filter (okp p)).flatMap fun r=>(Ac (some r) cs).map (r :: ·)
structure Wy(cs:List (List Int))(w:List Int):Prop where
 len:w.length=cs.length
 mem:∀(i:Nat) r c,w[i]? = some r→cs[i]? = some c→r∈c
 nr:∀(i:Nat) a b,w[i]? = some a→w[i+1]? = some b→Aq a b=true
theorem mem_wfrom_cons{p:Option Int}{c:List Int}{cs:List (List Int)}{w:List Int}:w∈Ac p (c::cs)↔∃r v,w=r::v∧r∈c∧okp p r=true∧v∈Ac (some r) cs:=by
 rw[Ac,List.mem_flatMap];constructor
 ·rintro⟨r,hr,hw⟩;obtain⟨v,hv,rfl⟩:=List.mem_map.mp hw;obtain⟨h1,h2⟩:=List.mem_filter.mp hr;exact⟨r,v,rfl,h1,h2,hv⟩
 ·rintro⟨r,v,rfl,h1,h2,hv⟩;exact⟨r,List.mem_filter.mpr ⟨h1,h2⟩,List.mem_map.mpr ⟨v,hv,rfl⟩⟩
theorem mem_wfrom:∀{cs:List (List Int)} {p:Option Int} {w:List Int},w∈Ac p cs↔Wy cs w∧∀a r,p=some a→w[0]? = some r→Aq a r=true
 |[],p,w=>by
  rw[Ac,List.mem_singleton];constructor
  ·rintro rfl;exact⟨⟨rfl,fun i r c h=>by simp at h,fun i a b h=>by simp at h⟩,fun a r _ h=>by simp at h⟩
  ·rintro⟨h,_⟩;exact List.eq_nil_of_length_eq_zero h.len
 |c::cs,p,w=>by
  rw[mem_wfrom_cons];constructor
  ·rintro⟨r,v,rfl,h1,h2,hv⟩;obtain⟨hw,hn⟩:=mem_wfrom.mp hv;refine⟨⟨by rw[List.length_cons,List.length_cons,hw.len],fun i x d e1 e2=>?_,fun i a b e1 e2=>?_⟩,fun a x ea ex=>?_⟩
   ·cases i with
    |zero=>simp at e1 e2;subst e1;subst e2;exact h1
    |succ i=>exact hw.mem i x d (by simpa using e1) (by simpa using e2)
   ·cases i with
    |zero=>simp at e1;subst e1;exact hn r b rfl (by simpa using e2)
    |succ i=>exact hw.nr i a b (by simpa using e1) (by simpa using e2)
   ·simp at ex;subst ex;subst ea;exact h2
  ·rintro⟨hw,hn⟩;cases w with
   |nil=>have:=hw.len;simp at this
   |cons r v=>
    refine⟨r,v,rfl,hw.mem 0 r c rfl rfl,?_,mem_wfrom.mpr ⟨⟨by have:=hw.len;simpa using this,fun i x d e1 e2=>hw.mem (i+1) x d (by simpa using e1) (by simpa using e2),fun i a b e1 e2=>hw.nr (i+1) a b (by simpa using e1) (by simpa using e2)⟩,fun a x ea ex=>?_⟩⟩
    ·cases p with
     |none=>rfl
     |some a=>exact hn a r rfl rfl
    ·cases ea;exact hw.nr 0 r x rfl (by simpa using ex)
theorem mem_ways{cs:List (List Int)}{w:List Int}:w∈Ac none cs↔Wy cs w:=by
 rw[mem_wfrom];exact⟨fun h=>h.1,fun h=>⟨h,fun a r e=>by cases e⟩⟩
theorem Nf:∀a:List Int,A5 a a=false
 |[]=>rfl
 |x::r=>by rw[A5,if_pos rfl,Nf r]
theorem Dh:∀{cs:List (List Int)} {p:Option Int},(∀c∈cs,c.Pairwise (· < ·))→(Ac p cs).Pairwise fun a b=>A5 a b=true
 |[],_,_=>List.pairwise_singleton _ _
 |c::cs,p,h=>by
  rw[Ac,List.pairwise_flatMap];refine⟨fun r _=>?_,?_⟩
  ·rw[List.pairwise_map];refine(Dh fun c hc=>h c (List.mem_cons_of_mem _ hc)).imp fun {a b} z=>?_;rw[A5,if_pos rfl];exact z
  ·refine((h c (List.mem_cons_self ..)).filter _).imp fun {x y} z a ha b hb=>?_;obtain⟨a',_,rfl⟩:=List.mem_map.mp ha;obtain⟨b',_,rfl⟩:=List.mem_map.mp hb;rw[A5,if_neg (by omega),decide_eq_true z]
theorem Vg{cs:List (List Int)}{p:Option Int}(h:∀c∈cs,c.Pairwise (· < ·)):(Ac p cs).Nodup:=(Dh h).imp fun {a b} z e=>by
 subst e;rw[Nf] at z;cases z
theorem Ow{α β:Type}[DecidableEq β](f:α→β):∀{a:List α} {b:List β},a.Nodup→(∀x∈a,f x∈b)→(∀x∈a,∀y∈a,f x=f y→x=y)→a.length≤b.length
 |[],_,_,_,_=>Nat.zero_le _
 |x::r,b,h,s,inj=>by
  obtain⟨h1,h2⟩:=List.nodup_cons.mp h;have hb:f x∈b:=s x (by simp)
  have:=Ow f (a:=r) (b:=b.erase (f x)) h2 (fun y hy=>(List.mem_erase_of_ne fun e=>h1 (by rw[←inj y (by simp[hy]) x (by simp) e];exact hy)).mpr (s y (by simp[hy]))) fun y hy z hz=>inj y (by simp[hy]) z (by simp[hz])
  rw[List.length_erase_of_mem hb] at this
  have:=List.length_pos_of_mem hb
  rw[List.length_cons];omega
structure ChanN(cs:List (List Int)):Prop where
 lo:2≤cs.length
 hi:cs.length≤16
 rw:∀c∈cs,(∀i∈c,0≤i∧i≤8)∧c.Pairwise (· < ·)
theorem ChanN.up{cs:List (List Int)}(h:ChanN cs):∀c∈cs,c.Pairwise (· < ·):=fun c hc=>(h.rw c hc).2
theorem ChanN.rev{cs:List (List Int)}(h:ChanN cs):ChanN cs.reverse:=⟨by rw[List.length_reverse];exact h.lo,by rw[List.length_reverse];exact h.hi,fun c hc=>h.rw c (List.mem_reverse.mp hc)⟩
theorem Wy.rev{cs:List (List Int)}{w:List Int}(h:Wy cs w):Wy cs.reverse w.reverse:=by
 have hl:=h.len;refine⟨by rw[List.length_reverse,List.length_reverse,hl],fun i r c e1 e2=>?_,fun i a b e1 e2=>?_⟩
 ·have hi:i<w.length:=by have:=(List.getElem?_eq_some_iff.mp e1).1;rwa [List.length_reverse] at this
  rw[List.getElem?_reverse hi] at e1;rw[List.getElem?_reverse (by omega),←hl] at e2
  exact h.mem _ r c e1 e2
 ·have hi:i+1<w.length:=by have:=(List.getElem?_eq_some_iff.mp e2).1;rwa [List.length_reverse] at this
  rw[List.getElem?_reverse (by omega)] at e1
  rw[List.getElem?_reverse hi] at e2
  have:=h.nr (w.length-1-(i+1)) b a e2 (by rw[show w.length-1-(i+1)+1=w.length-1-i by omega];exact e1)
  rw[near_iff] at this ⊢;omega
theorem Vh{cs:List (List Int)}(h:ChanN cs):(Ac none cs.reverse).length=(Ac none cs).length:=by
 have one:∀{ds:List (List Int)},ChanN ds→(Ac none ds.reverse).length≤(Ac none ds).length:=fun {ds} hd=>by
  refine Ow List.reverse (Vg hd.rev.up) (fun x hx=>?_) fun x _ y _ e=>by rw[←List.reverse_reverse x,e,List.reverse_reverse]
  have:=(mem_ways.mp hx).rev
  rw[List.reverse_reverse] at this;exact mem_ways.mpr this
 have h1:=one h;have h2:=one h.rev;rw[List.reverse_reverse] at h2;omega
theorem Wy.set{cs:List (List Int)}{w:List Int}{s:Nat}{c:List Int}(hs:s<cs.length):Wy (cs.set s c) w↔w.length=cs.length∧(∀(i:Nat) r d,i≠s→w[i]? = some r→cs[i]? = some d→r∈d)∧(∀(i:Nat) a b,w[i]? = some a→w[i+1]? = some b→Aq a b=true)∧∀r,w[s]? = some r→r∈c:=by
 constructor
 ·intro h;refine⟨by rw[h.len,List.length_set],fun i r d hi e1 e2=>h.mem i r d e1 (by rw[List.getElem?_set_ne (Ne.symm hi)];exact e2),h.nr,fun r e=>h.mem s r c e (by rw[List.getElem?_set_self hs])⟩
 ·rintro⟨h1,h2,h3,h4⟩;refine⟨by rw[h1,List.length_set],fun i r d e1 e2=>?_,h3⟩
  by_cases hi:i=s
  ·subst hi;rw[List.getElem?_set_self hs] at e2;cases e2;exact h4 r e1
  ·rw[List.getElem?_set_ne (Ne.symm hi)] at e2;exact h2 i r d hi e1 e2
theorem ChanN.set{cs:List (List Int)}(h:ChanN cs){s:Nat}{c:List Int}(hc:(∀i∈c,0≤i∧i≤8)∧c.Pairwise (· < ·)):ChanN (cs.set s c):=⟨by rw[List.length_set];exact h.lo,by rw[List.length_set];exact h.hi,fun d hd=>by
 rcases List.mem_or_eq_of_mem_set hd with hd|rfl
 ·exact h.rw d hd
 ·exact hc⟩
def bdI:Int→List Int→Int
 |_,[]=>0
 |a,r::w=>(if r≠a then 1 else 0)+bdI r w
def bdW:List Int→Int
 |[]=>0
 |r::w=>bdI r w
def Cy(w:List Int):List Nat:=(List.range (w.length-1)).filter fun i=>decide (w.getD (i+1) 0≠w.getD i 0)
theorem Tb(r y:Int)(w:List Int):(Cy (r::y::w)).length=(if y≠r then 1 else 0)+(Cy (y::w)).length:=by
 unfold Cy;show((List.range (w.length+1)).filter _).length=_;rw[List.range_succ_eq_map,List.filter_cons,List.filter_map];have e:((fun i=>decide ((r::y::w).getD (i+1) 0≠(r::y::w).getD i 0)) ∘ Nat.succ)=fun i=>decide ((y::w).getD (i+1) 0≠(y::w).getD i 0):=by funext i;rfl
 rw[e];show _=_+((List.range w.length).filter _).length
 by_cases h:y≠r
 ·rw[if_pos h,if_pos (by simpa using h),List.length_cons,List.length_map];omega
 ·rw[if_neg h,if_neg (by simpa using h),List.length_map];omega
theorem Ly:∀w:List Int,((Cy w).length:Int)=bdW w
 |[]=>rfl
 |[r]=>rfl
 |r::y::w=>by
  have:=Ly (y::w)
  rw[Tb];show _=(if y≠r then 1 else 0)+bdI y w;have e:bdW (y::w)=bdI y w:=rfl;rw[e] at this
  split<;>omega
section
variable{P:Program}{w:World}{K:W.Frag}{mg:Str→Option Value}{base:Heap}
def Ao(ps:List (Int×Int)):List (Key×D):=ps.map fun p=>(.inl p.1,.int p.2)
theorem Ud{i:Int}:∀{ps:List (Int×Int)},i∈ps.map (·.1)→∃z,Ck (Ao ps) (.inl i:Key)=some (.int z)
 |[],h=>by cases h
 |p::r,h=>by
  by_cases e:p.1=i
  ·exact⟨p.2,by simp[Ao,Ck,e]⟩
  ·obtain⟨z,hz⟩:=Ud (ps:=r) ((List.mem_cons.mp h).elim (fun q=>absurd q.symm e) id);refine⟨z,?_⟩
   have:Ck (Ao (p::r)) (.inl i:Key)=Ck (Ao r) (.inl i:Key):=by
    unfold Ck Ao;rw[List.map_cons,List.find?_cons,show decide ((Sum.inl p.1:Key)=Sum.inl i)=false from decide_eq_false fun q=>e (Sum.inl.inj q)]
   rw[this];exact hz
def vI(ps:List (Int×Int))(i:Int):Int:=match Ck (Ao ps) (.inl i:Key) with
 |some (.int z)=>z
 |_=>0
theorem Gy{i:Int}{ps:List (Int×Int)}(h:i∈ps.map (·.1)):Ck (Ao ps) (.inl i:Key)=some (.int (vI ps i)):=by
 obtain⟨z,e⟩:=Ud h;rw[e];simp[vI,e]
theorem F0(ps:List (Int×Int)):(Ao ps).map (fun q=>kD q.1)=(ps.map (·.1)).map D.int:=by
 unfold Ao;rw[List.map_map,List.map_map];rfl
end
def onL:List (List Int)→List (List (Int×Int))
 |[]=>[]
 |c::cs=>(c.map fun r=>(r,((Ac (some r) cs).length:Int)))::onL cs
theorem Lo:∀cs:List (List Int),(onL cs).length=cs.length
 |[]=>rfl
 |c::cs=>by rw[onL,List.length_cons,List.length_cons,Lo]
theorem Lp:∀{cs:List (List Int)} {i:Nat} {c:List Int},cs[i]? = some c→(onL cs)[i]? = some (c.map fun r=>(r,((Ac (some r) (cs.drop (i+1))).length:Int)))
 |[],i,c,h=>by simp at h
 |d::cs,0,c,h=>by simp at h;subst h;rfl
 |d::cs,i+1,c,h=>by
  rw[onL]
  have:=Lp (cs:=cs) (i:=i) (by simpa using h)
  simpa using this
theorem Vn(l:List Nat):((l.sum:Nat):Int)=(l.map fun(n:Nat)=>(n:Int)).sum:=by
 induction l with
 |nil=>rfl
 |cons n r ih=>rw[List.sum_cons,List.map_cons,List.sum_cons,←ih];push_cast;rfl
theorem Fc(p:Option Int)(c:List Int)(cs:List (List Int)):((Ac p (c::cs)).length:Int)=((c.filter (okp p)).map fun y=>((Ac (some y) cs).length:Int)).sum:=by
 rw[Ac,List.length_flatMap,Vn,List.map_map];congr 1;refine List.map_congr_left fun y _=>?_;simp
def Cg(f:Int→Nat):List Int→Nat→Option (Int×Nat)
 |[],_=>none
 |r::R,k=>if k<f r then some (r,k) else Cg f R (k-f r)
theorem M7{L:Int→List (List Int)}:∀(R:List Int) (k:Nat),(R.flatMap L)[k]? = (Cg (fun r=>(L r).length) R k).bind fun q=>(L q.1)[q.2]?
 |[],k=>by simp[Cg]
 |r::R,k=>by
  rw[List.flatMap_cons,Cg]
  by_cases h:k<(L r).length
  ·rw[if_pos h,List.getElem?_append_left h];rfl
  ·rw[if_neg h,List.getElem?_append_right (by omega),M7 R]
theorem J6{f:Int→Nat}:∀{R:List Int} {k:Nat},k<(R.map f).sum→∃r j,Cg f R k=some (r,j)∧r∈R∧j<f r
 |[],k,h=>by simp at h
 |r::R,k,h=>by
  rw[Cg]
  by_cases h1:k<f r
  ·exact⟨r,k,if_pos h1,by simp,h1⟩
  ·rw[if_neg h1];rw[List.map_cons,List.sum_cons] at h;obtain⟨x,j,e,hm,hj⟩:=J6 (f:=f) (R:=R) (k:=k-f r) (by omega)
   exact⟨x,j,e,by simp[hm],hj⟩
theorem Vi{p:Option Int}{c:List Int}{cs:List (List Int)}{k:Nat}{r:Int}{j:Nat}(h:Cg (fun r=>(Ac (some r) cs).length) (c.filter (okp p)) k=some (r,j)):(Ac p (c::cs))[k]? = ((Ac (some r) cs)[j]?).map (r :: ·):=by
 rw[Ac,M7];have e:(fun r=>((Ac (some r) cs).map (r :: ·)).length)=fun r=>(Ac (some r) cs).length:=by funext r;rw[List.length_map]
 rw[e,h];show((Ac (some r) cs).map (r :: ·))[j]? = _;rw[List.getElem?_map]
structure FewIs(r:Int)(cs:List (List Int))(b:Int):Prop where
 ex:∃w∈Ac (some r) cs,bdI r w=b
 le:∀w∈Ac (some r) cs,b≤bdI r w
structure FD(c:List Int)(cs:List (List Int))(ps:List (Int×Int)):Prop where
 keys:ps.map (·.1)=c.filter fun r=>!(Ac (some r) cs).isEmpty
 few:∀q∈ps,FewIs q.1 cs q.2
def Bj(r o:Int):Int:=if o≠r then 1 else 0
def Cz(ps:List (Int×Int))(r:Int):List (Int×Int):=((ps.map (·.1)).filter (Aq r)).map fun o=>(vI ps o+Bj r o,o)
theorem few_zero{r b:Int}:FewIs r [] b↔b=0:=by
 constructor
 ·rintro⟨⟨w,hw,e⟩,_⟩;rw[Ac,List.mem_singleton] at hw;subst hw;exact e.symm
 ·rintro rfl;exact⟨⟨[],by simp[Ac],rfl⟩,fun w hw=>by rw[Ac,List.mem_singleton] at hw;subst hw;exact Int.le_refl _⟩
theorem Ek:∀{ps:List (Int×Int)} {o:Int},o∈ps.map (·.1)→(o,vI ps o)∈ps
 |[],_,h=>by simp at h
 |p::r,o,h=>by
  by_cases e:p.1=o
  ·have:vI (p::r) o=p.2:=by simp[vI,Ck,Ao,e]
   rw[this,←e];exact List.mem_cons_self ..
  ·have hm:o∈r.map (·.1):=(List.mem_cons.mp h).resolve_left fun z=>e z.symm
   have:vI (p::r) o=vI r o:=by
    unfold vI
    have:Ck (Ao (p::r)) (.inl o:Key)=Ck (Ao r) (.inl o:Key):=by
     unfold Ck Ao;rw[List.map_cons,List.find?_cons,show decide ((Sum.inl p.1:Key)=Sum.inl o)=false from decide_eq_false fun q=>e (Sum.inl.inj q)]
    rw[this]
   rw[this];exact List.mem_cons_of_mem _ (Ek hm)
theorem Ct{c:List Int}{cs:List (List Int)}{ps:List (Int×Int)}(h:FD c cs ps){o:Int}:o∈ps.map (·.1)↔o∈c∧∃w,w∈Ac (some o) cs:=by
 rw[h.keys,List.mem_filter];refine and_congr_right fun _=>?_;cases e:Ac (some o) cs with
 |nil=>simp
 |cons w r=>simp
theorem J4{c:List Int}{cs:List (List Int)}{ps:List (Int×Int)}(h:FD c cs ps){r:Int}(e:Cz ps r=[]):Ac (some r) (c::cs)=[]:=by
 rw[List.eq_nil_iff_forall_not_mem];intro w hw;obtain⟨y,v,rfl,hy,hn,hv⟩:=mem_wfrom_cons.mp hw
 have:(vI ps y+Bj r y,y)∈Cz ps r:=List.mem_map.mpr ⟨y,List.mem_filter.mpr ⟨(Ct h).mpr ⟨hy,v,hv⟩,hn⟩,rfl⟩
 rw[e] at this;simp at this
theorem Mw{c:List Int}{cs:List (List Int)}{ps:List (Int×Int)}(h:FD c cs ps){r:Int}{M:Int×Int}(hM:M∈Cz ps r)(least:∀a∈Cz ps r,¬A6 a M) :
  M.2∈c∧Aq r M.2=true∧FewIs M.2 cs (M.1-Bj r M.2)∧FewIs r (c::cs) M.1:=by
 obtain⟨o,ho,rfl⟩:=List.mem_map.mp hM;obtain⟨hk,hn⟩:=List.mem_filter.mp ho;obtain⟨hc,w,hw⟩:=(Ct h).mp hk;have few:=h.few _ (Ek hk);refine⟨hc,hn,by show FewIs o cs (vI ps o+Bj r o-Bj r o);rw[show vI ps o+Bj r o-Bj r o=vI ps o by omega];exact few,⟨?_,fun u hu=>?_⟩⟩
 ·obtain⟨v,hv,e⟩:=few.ex;refine⟨o::v,mem_wfrom_cons.mpr ⟨o,v,rfl,hc,hn,hv⟩,?_⟩;show(if o≠r then 1 else 0)+bdI o v=vI ps o+Bj r o;have e:bdI o v=vI ps o:=e;rw[e];unfold Bj;omega
 ·obtain⟨y,v,rfl,hy,hny,hv⟩:=mem_wfrom_cons.mp hu;have hky:=(Ct h).mpr ⟨hy,v,hv⟩
  have:=least (vI ps y+Bj r y,y) (List.mem_map.mpr ⟨y,List.mem_filter.mpr ⟨hky,hny⟩,rfl⟩)
  have fy:=(h.few _ (Ek hky)).le v hv;have fy:vI ps y≤bdI y v:=fy;show vI ps o+Bj r o≤(if y≠r then 1 else 0)+bdI y v;unfold A6 at this;have e:(if y≠r then (1:Int) else 0)=Bj r y:=rfl;rw[e];simp only at this;omega
def rch:List Int→List (List Int)→List (List Int)
 |_,[]=>[]
 |l,c::cs=>B3 c l::rch (B3 c l) cs
def Dk:List (List Int)→List (List Int)
 |[]=>[]
 |x::xs=>if x.isEmpty=true then [x] else x::Dk xs
theorem mem_beyond{c l:List Int}{r:Int}:r∈B3 c l↔r∈c∧∃a∈l,Aq a r=true:=by
 unfold B3;rw[List.mem_filter];refine and_congr_right fun _=>?_;cases e:l.filter (Aq r) with
 |nil=>
  simp only[List.isEmpty_nil,Bool.not_true,Bool.false_eq_true,false_iff,not_exists,not_and];intro a ha hn
  have:a∈l.filter (Aq r):=List.mem_filter.mpr ⟨ha,by rw[near_iff] at hn ⊢;omega⟩
  rw[e] at this;simp at this
 |cons a t=>
  simp only[List.isEmpty_cons,Bool.not_false,true_iff]
  have:a∈l.filter (Aq r):=by rw[e];exact List.mem_cons_self ..
  obtain⟨h1,h2⟩:=List.mem_filter.mp this;exact⟨a,h1,by rw[near_iff] at h2 ⊢;omega⟩
theorem Ia:∀(cs:List (List Int)) (acc:List (List Int)),acc≠[]→cs.foldl Bt acc=if (acc.getLastD []).isEmpty=true then acc else acc++Dk (rch (acc.getLastD []) cs)
 |[],acc,_=>by simp[rch,Dk]
 |c::cs,acc,ne=>by
  rw[List.foldl_cons,Bt]
  by_cases h:(acc.getLastD []).isEmpty=true
  ·rw[if_pos h,Ia cs acc ne,if_pos h,if_pos h]
  ·rw[if_neg h,Ia cs _ (by simp),if_neg h]
   have e:(acc++[B3 c (acc.getLastD [])]).getLastD []=B3 c (acc.getLastD []):=by simp
   rw[e,rch,Dk]
   by_cases h2:(B3 c (acc.getLastD [])).isEmpty=true
   ·rw[if_pos h2,if_pos h2]
   ·rw[if_neg h2,if_neg h2,List.append_assoc];rfl
theorem M3{c:List Int}{cs:List (List Int)}:Br (c::cs)=if c.isEmpty=true then [c] else c::Dk (rch c cs):=by
 show(List.drop 1 (c::cs)).foldl Bt [c]=_;rw[List.drop_succ_cons,List.drop_zero,Ia cs [c] (by simp)];rfl
theorem D0:∀(l:List Int) (cs:List (List Int)),(rch l cs).length=cs.length
 |_,[]=>rfl
 |l,c::cs=>by rw[rch,List.length_cons,List.length_cons,D0]
theorem Qe:∀{cs:List (List Int)} {l:List Int} {i:Nat} {R:List Int} {r:Int},(rch l cs)[i]? = some R→(r∈R↔∃a∈l,∃w,w∈Ac (some a) (cs.take (i+1))∧w[i]? = some r)
 |[],l,i,R,r,h=>by simp[rch] at h
 |c::cs,l,0,R,r,h=>by
  simp only[rch,List.getElem?_cons_zero,Option.some.injEq] at h;subst h;rw[mem_beyond,List.take_succ_cons,List.take_zero];constructor
  ·rintro⟨hc,a,ha,hn⟩;exact⟨a,ha,[r],mem_wfrom_cons.mpr ⟨r,[],rfl,hc,hn,by simp[Ac]⟩,rfl⟩
  ·rintro⟨a,ha,w,hw,e⟩;obtain⟨y,v,rfl,hy,hn,_⟩:=mem_wfrom_cons.mp hw;simp at e;subst e;exact⟨hy,a,ha,hn⟩
 |c::cs,l,i+1,R,r,h=>by
  simp only[rch,List.getElem?_cons_succ] at h;rw[Qe h,List.take_succ_cons];constructor
  ·rintro⟨a,ha,w,hw,e⟩;obtain⟨hc,b,hb,hn⟩:=mem_beyond.mp ha;exact⟨b,hb,a::w,mem_wfrom_cons.mpr ⟨a,w,rfl,hc,hn,hw⟩,by simpa using e⟩
  ·rintro⟨b,hb,w,hw,e⟩;obtain⟨y,v,rfl,hy,hn,hv⟩:=mem_wfrom_cons.mp hw;exact⟨y,mem_beyond.mpr ⟨hy,b,hb,hn⟩,v,hv,by simpa using e⟩
theorem Hy{c:List Int}{cs:List (List Int)}{i:Nat}{R:List Int}{r:Int}(h:(c::rch c cs)[i]? = some R):r∈R↔∃w,Wy ((c::cs).take (i+1)) w∧w[i]? = some r:=by
 cases i with
 |zero=>
  simp only[List.getElem?_cons_zero,Option.some.injEq] at h;subst h;rw[List.take_succ_cons,List.take_zero];constructor
  ·intro hr;exact⟨[r],mem_ways.mp (mem_wfrom_cons.mpr ⟨r,[],rfl,hr,rfl,by simp[Ac]⟩),rfl⟩
  ·rintro⟨w,hw,e⟩;exact hw.mem 0 r c e rfl
 |succ i=>
  simp only[List.getElem?_cons_succ] at h;rw[Qe h,List.take_succ_cons];constructor
  ·rintro⟨a,ha,w,hw,e⟩;exact⟨a::w,mem_ways.mp (mem_wfrom_cons.mpr ⟨a,w,rfl,ha,rfl,hw⟩),by simpa using e⟩
  ·rintro⟨w,hw,e⟩;obtain⟨a,v,rfl,ha,_,hv⟩:=mem_wfrom_cons.mp (mem_ways.mpr hw);exact⟨a,ha,v,hv,by simpa using e⟩
theorem Wy.take{cs:List (List Int)}{w:List Int}(h:Wy cs w)(k:Nat):Wy (cs.take k) (w.take k):=by
 refine⟨by rw[List.length_take,List.length_take,h.len],fun i r c e1 e2=>?_,fun i a b e1 e2=>?_⟩
 ·rw[List.getElem?_take] at e1 e2
  split at e1
  ·rename_i hi;rw[if_pos hi] at e2;exact h.mem i r c e1 e2
  ·cases e1
 ·rw[List.getElem?_take] at e1 e2
  split at e1
  ·split at e2
   ·exact h.nr i a b e1 e2
   ·cases e2
  ·cases e1
theorem Wy.drop{cs:List (List Int)}{w:List Int}(h:Wy cs w)(k:Nat):Wy (cs.drop k) (w.drop k):=by
 refine⟨by rw[List.length_drop,List.length_drop,h.len],fun i r c e1 e2=>?_,fun i a b e1 e2=>?_⟩
 ·rw[List.getElem?_drop] at e1 e2;exact h.mem _ r c e1 e2
 ·rw[List.getElem?_drop] at e1 e2;exact h.nr _ a b e1 e2
theorem Wy.from{cs:List (List Int)}{w:List Int}{i:Nat}{r:Int}(h:Wy cs w)(e:w[i]? = some r):w.drop (i+1)∈Ac (some r) (cs.drop (i+1)):=
 mem_wfrom.mpr ⟨h.drop _,fun a x ea ex=>by cases ea;rw[List.getElem?_drop] at ex;exact h.nr i r x e ex⟩
theorem Wy.join{cs:List (List Int)}{u v:List Int}{i:Nat}{r:Int}(h:Wy (cs.take (i+1)) u)(hi:i<cs.length)(e:u[i]? = some r)(hv:v∈Ac (some r) (cs.drop (i+1))):Wy cs (u++v):=by
 obtain⟨h2,h3⟩:=mem_wfrom.mp hv;have hl:u.length=i+1:=by rw[h.len,List.length_take];omega
 have hl2:=h2.len;rw[List.length_drop] at hl2;refine⟨by rw[List.length_append];omega,fun j x c e1 e2=>?_,fun j a b e1 e2=>?_⟩
 ·by_cases hj:j<i+1
  ·rw[List.getElem?_append_left (by omega)] at e1
   exact h.mem j x c e1 (by rw[List.getElem?_take,if_pos hj];exact e2)
  ·rw[List.getElem?_append_right (by omega),hl] at e1
   refine h2.mem (j-(i+1)) x c e1 ?_;rw[List.getElem?_drop,show i+1+(j-(i+1))=j by omega];exact e2
 ·by_cases hj:j+1<i+1
  ·rw[List.getElem?_append_left (by omega)] at e1 e2
   exact h.nr j a b e1 e2
  ·by_cases hj2:j=i
   ·subst hj2;rw[List.getElem?_append_left (by omega),e] at e1
    rw[List.getElem?_append_right (by omega),hl,Nat.sub_self] at e2
    cases e1;exact h3 r b rfl e2
   ·rw[List.getElem?_append_right (by omega),hl] at e1 e2
    exact h2.nr (j-(i+1)) a b e1 (by rw[show j-(i+1)+1=j+1-(i+1) by omega];exact e2)
theorem passed{c:List Int}{cs:List (List Int)}{i:Nat}{R:List Int}{r:Int}(h:(c::rch c cs)[i]? = some R):(r∈R∧0<(Ac (some r) ((c::cs).drop (i+1))).length)↔∃w,Wy (c::cs) w∧w[i]? = some r:=by
 have hi:i<(c::cs).length:=by
  have:=(List.getElem?_eq_some_iff.mp h).1
  rw[List.length_cons,D0] at this
  rwa [List.length_cons]
 constructor
 ·rintro⟨hr,hp⟩;obtain⟨u,hu,e⟩:=(Hy h).mp hr;obtain⟨v,hv⟩:=List.exists_mem_of_length_pos hp;refine⟨u++v,Wy.join hu hi e hv,?_⟩;rw[List.getElem?_append_left (List.getElem?_eq_some_iff.mp e).1];exact e
 ·rintro⟨w,hw,e⟩;refine⟨(Hy h).mpr ⟨w.take (i+1),hw.take _,by rw[List.getElem?_take,if_pos (by omega)];exact e⟩,List.length_pos_of_mem (hw.from e)⟩
theorem Nu:∀{xs:List (List Int)},((Dk xs).getLastD []).isEmpty=false→Dk xs=xs
 |[],_=>rfl
 |x::xs,h=>by
  rw[Dk] at h ⊢
  by_cases hx:x.isEmpty=true
  ·rw[if_pos hx] at h;rw[show([x]:List (List Int)).getLastD []=x from rfl,hx] at h;cases h
  ·rw[if_neg hx] at h ⊢;cases hc:Dk xs with
   |nil=>
    cases xs with
    |nil=>rfl
    |cons y ys=>rw[Dk] at hc;split at hc<;>cases hc
   |cons y ys=>
    rw[←hc,Nu];rw[hc] at h ⊢;simpa using h
theorem Nr:∀{xs:List (List Int)},xs≠[]→((Dk xs).getLastD []).isEmpty=true→∃i:Nat,xs[i]? = some []
 |[],h,_=>absurd rfl h
 |x::xs,_,h=>by
  rw[Dk] at h
  by_cases hx:x.isEmpty=true
  ·exact⟨0,by rw[List.isEmpty_iff.mp hx];rfl⟩
  ·rw[if_neg hx] at h;cases hc:Dk xs with
   |nil=>rw[hc] at h;exact absurd h hx
   |cons y ys=>
    have hne:xs≠[]:=fun z=>by subst z;cases hc
    obtain⟨i,e⟩:=Nr hne (by rw[hc] at h ⊢;simpa using h)
    exact⟨i+1,by simpa using e⟩
theorem O6{c:List Int}{cs:List (List Int)}(hne:cs≠[]):(((Br (c::cs)).getLastD []).isEmpty=true↔Ac none (c::cs)=[])∧(((Br (c::cs)).getLastD []).isEmpty=false→Br (c::cs)=c::rch c cs):=by
 have empty_no:(∃i:Nat,(c::rch c cs)[i]? = some [])→Ac none (c::cs)=[]:=fun zz=>by
  obtain⟨i,e⟩:=zz;rw[List.eq_nil_iff_forall_not_mem];intro w hw;have hw:=mem_ways.mp hw;have hi:i<w.length:=by
   have:=(List.getElem?_eq_some_iff.mp e).1
   rw[List.length_cons,D0] at this;rw[hw.len,List.length_cons];exact this
  have:=((passed (r:=w[i]) e).mpr ⟨w,hw,List.getElem?_eq_getElem hi⟩).1
  simp at this
 have hr:rch c cs≠[]:=fun z=>by have:=D0 c cs;rw[z] at this;simp at this;exact hne (List.eq_nil_of_length_eq_zero this.symm)
 have full:((Br (c::cs)).getLastD []).isEmpty=false→Br (c::cs)=c::rch c cs:=fun h=>by
  rw[M3] at h ⊢
  by_cases hc:c.isEmpty=true
  ·rw[if_pos hc] at h;rw[show([c]:List (List Int)).getLastD []=c from rfl,hc] at h;cases h
  ·rw[if_neg hc] at h ⊢;cases hq:Dk (rch c cs) with
   |nil=>
    cases hz:rch c cs with
    |nil=>exact absurd hz hr
    |cons y ys=>rw[hz,Dk] at hq;split at hq<;>cases hq
   |cons y ys=>
    rw[←hq,Nu];rw[hq] at h ⊢;simpa using h
 refine⟨⟨fun h=>empty_no ?_,fun h=>?_⟩,full⟩
 ·rw[M3] at h
  by_cases hc:c.isEmpty=true
  ·exact⟨0,by rw[List.isEmpty_iff.mp hc];rfl⟩
  ·rw[if_neg hc] at h
   have:((Dk (rch c cs)).getLastD []).isEmpty=true:=by
    cases hq:Dk (rch c cs) with
    |nil=>
     cases hz:rch c cs with
     |nil=>exact absurd hz hr
     |cons y ys=>rw[hz,Dk] at hq;split at hq<;>cases hq
    |cons y ys=>rw[hq] at h;simpa using h
   obtain⟨i,e⟩:=Nr hr this;exact⟨i+1,by simpa using e⟩
 ·cases hq:((Br (c::cs)).getLastD []).isEmpty with
  |true=>rfl
  |false=>
   exfalso;have e:=full hq;rw[e] at hq;have hlen:(c::rch c cs).length=cs.length+1:=by rw[List.length_cons,D0]
   have hlast:(c::rch c cs)[cs.length]? = some ((c::rch c cs).getLastD []):=by
    rw[List.getLastD_eq_getLast?,List.getLast?_eq_getElem?,hlen,Nat.add_sub_cancel,List.getElem?_eq_getElem (by rw[hlen];omega)];rfl
   cases hR:(c::rch c cs).getLastD [] with
   |nil=>rw[hR] at hq;cases hq
   |cons r t=>
    rw[hR] at hlast;obtain⟨w,hw,_⟩:=(passed (r:=r) hlast).mp ⟨List.mem_cons_self ..,by
     rw[List.drop_of_length_le (by simp)];simp[Ac]⟩
    have:=mem_ways.mpr hw
    rw[h] at this;simp at this
theorem Qd:∀{cs:List (List Int)} {l x:List Int},x∈rch l cs→∃c∈cs,x.Sublist c
 |[],l,x,h=>by simp[rch] at h
 |c::cs,l,x,h=>by
  rw[rch] at h;rcases List.mem_cons.mp h with rfl|h
  ·exact⟨c,by simp,List.filter_sublist⟩
  ·obtain⟨d,hd,e⟩:=Qd h;exact⟨d,by simp[hd],e⟩
theorem Yu{c:List Int}(h:(∀i∈c,0≤i∧i≤8)∧c.Pairwise (· < ·)):Ju (Ah c)=true:=by
 show((c.map D.int).all (A8 0 8)&&Bu (c.map D.int))=true;rw[Bool.and_eq_true,Gf,List.all_map];exact⟨List.all_eq_true.mpr fun i hi=>by simp[A8,h.1 i hi],decide_eq_true h.2⟩
theorem ChanN.chan{cs:List (List Int)}(h:ChanN cs):Mq (chD cs)=true:=by
 unfold chD Mq;rw[Bool.and_eq_true,Bool.and_eq_true,List.length_map,List.all_map];exact⟨⟨decide_eq_true h.lo,decide_eq_true h.hi⟩,List.all_eq_true.mpr fun c hc=>Yu (h.rw c hc)⟩
theorem ChanN.len{cs:List (List Int)}(h:ChanN cs):∀c∈cs,c.length≤9:=fun c hc=>by have:=M1 (h.rw c hc).1 (h.rw c hc).2;omega
section
variable{P:Program}{w:World}{K:W.Frag}{mg:Str→Option Value}{base:Heap}
theorem E7{kvs:List (Key×D)}{k:Key}{d:D}(h:k ∉ kvs.map (·.1)):Jh kvs k d=kvs++[(k,d)]:=by
 unfold Jh;rw[if_neg];intro z;obtain⟨q,hq,e⟩:=List.any_eq_true.mp z;exact h (List.mem_map.mpr ⟨q,hq,of_decide_eq_true e⟩)
theorem Ic{p:Addr}{c:List Int}{same:Gp→Prop}{tv:DTE}{σ:DSt}{G:Gp}{Q:DK}(f:Int→Int)(nd:c.Nodup)(hp:G p=none)(hl:c.length<sizeLine)(hs:∀G',Sub G G'→same G')(hv:∀i∈c,∀G',Sub G G'→∀R:DK,(∀G2,Sub G' G2→R (.int (f i)) G2)→tv (some (.int i)::σ) G' R)(k:∀G',Sub G G'→G' p=some (.dkk (Ao (c.map fun i=>(i,f i))))→Q (.ref p) G') :
  Ua 1 p (c.map D.int) same (Ga 0) P1 (Rb 0) tv σ (Ab G p (.dkk [])) Q:=by
 refine⟨fun i kvs G'=>kvs=Ao ((c.take i).map fun i=>(i,f i))∧Sub G G'∧G' p=some (.dkk kvs),⟨rfl,Sub.new hp,Aa⟩,fun i kvs G' _ ⟨_,sb,e⟩=>⟨hs G' sb,e⟩,?_,?_⟩
 ·rintro i x kvs G' hx ⟨rfl,sb,e⟩;rw[List.getElem?_map] at hx;obtain⟨n,hn,rfl⟩:=Option.map_eq_some_iff.mp hx;have hil:i<c.length:=(List.getElem?_eq_some_iff.mp hn).1;refine⟨⟨[some (.int n)],rfl,rfl⟩,?_⟩;unfold P1;refine it0 rfl ?_;refine⟨.int n,rfl,hv n (List.mem_of_getElem? hn) G' sb _ fun G2 sb2=>⟨.inl n,rfl,sb2 _ _ e,by simp only[Ao,List.length_map,List.length_take];omega,?_⟩⟩
  have hnot:(Sum.inl n:Key) ∉ (Ao ((c.take i).map fun i=>(i,f i))).map (·.1):=fun z=>by
   simp only[Ao,List.map_map,List.mem_map,Function.comp] at z;obtain⟨m,hm,em⟩:=z;cases em;obtain⟨j,hj1,hj2⟩:=List.mem_take_iff_getElem.mp hm;have e1:c[j]? = some n:=by rw[List.getElem?_eq_getElem (by omega),hj2]
   have:=(List.getElem?_inj (i:=j) (j:=i) (by omega) nd).mp (e1.trans hn.symm)
   omega
  rw[E7 hnot];have et:Ao ((c.take i).map fun i=>(i,f i))++[(Sum.inl n,D.int (f n))]=Ao ((c.take (i+1)).map fun i=>(i,f i)):=by
   rw[List.take_add_one,hn,List.map_append];simp[Ao]
  rw[et];refine Fg.of ⟨rfl,fun b o eb=>?_,Aa⟩;have nb:b≠p:=fun z=>by rw[z,hp] at eb;cases eb
  rw[Ag nb];exact sb2 _ _ (sb b o eb)
 ·rintro kvs G' ⟨rfl,sb,e⟩;rw[List.length_map,List.take_length] at e;exact k G' sb e
theorem Fk{g:Int→Int}:∀{c:List Int} {o:Int},o∈c→vI (c.map fun r=>(r,g r)) o=g o:=fun {c o} h=>by
 have:=Ek (ps:=c.map fun r=>(r,g r)) (o:=o) (by rw[List.map_map];exact List.mem_map.mpr ⟨o,h,rfl⟩)
 obtain⟨r,_,e⟩:=List.mem_map.mp this;have e1:=congrArg Prod.fst e;have e2:=congrArg Prod.snd e;simp only at e1 e2;subst e1;exact e2.symm
theorem Ca{g:Int→Int}{c:List Int}:(c.map fun r=>(r,g r)).map (·.1)=c:=by rw[List.map_map];exact List.map_id c
def DictsAt(G:Gp)(as:List Addr)(pss:List (List (Int×Int))):Prop:=Paired (fun a ps=>G a=some (.dkk (Ao ps))) as pss
theorem DictsAt.sub{G G':Gp}(s:Sub G G'):∀{as:List Addr} {pss:List (List (Int×Int))},DictsAt G as pss→DictsAt G' as pss
 |_,_,.nil=>.nil
 |_,_,.cons h t=>.cons (s _ _ h) (DictsAt.sub s t)
theorem DictsAt.put{G:Gp}{p:Addr}{o u:GO}(hp:G p=some o)(no:∀ps,o≠.dkk ps):∀{as:List Addr} {pss:List (List (Int×Int))},DictsAt G as pss→DictsAt (Ab G p u) as pss
 |_,_,.nil=>.nil
 |_,_,.cons h t=>.cons (by rw[Ag (fun z=>by rw[z,hp] at h;exact no _ (Option.some.inj h))];exact h) (DictsAt.put hp no t)
theorem DictsAt.get{G:Gp}{as:List Addr}{pss:List (List (Int×Int))}(h:DictsAt G as pss){i:Nat}{ps:List (Int×Int)}(e:pss[i]? = some ps):∃a,as[i]? = some a∧G a=some (.dkk (Ao ps)):=by
 induction h generalizing i with
 |nil=>simp at e
 |cons h t ih=>
  cases i with
  |zero=>simp at e;subst e;exact⟨_,rfl,h⟩
  |succ i=>simpa using ih (by simpa using e)
def OnQ(G:Gp)(t:D)(pf:Addr)(init:List (List Int))(c:List Int)(i:Nat)(σ:DSt)(G':Gp):Prop:=∃v2 v3 a as,σ=[some t,some (.ref pf),v2,v3]∧Sub G G'∧G' pf=some (.lst ((as++[a]).map D.ref))∧DictsAt G' (a::as.reverse) (onL ((init++[c]).drop (init.length-i)))∧as.length=i
abbrev s_ways_onward:Stmt:=top 33
abbrev Jq:List Str:=["channel", "onward", "rows", "inward"]
abbrev p_ways_onward:List Str:=["channel"]
theorem sc_ways_onward:FnScope Jq p_ways_onward (Ad s_ways_onward):=⟨rfl,rfl,rfl,by decide +kernel,rfl,by decide +kernel,by decide +kernel⟩
theorem nd_ways_onward_1:((["row"]:List Str)++(["channel", "onward", "rows", "inward"]:List Str)).Nodup:=by decide +kernel
theorem nd_ways_onward_2:((["row"]:List Str)++(["channel", "onward", "rows", "inward"]:List Str)).Nodup:=by decide +kernel
theorem nd_ways_onward_3:((["other"]:List Str)++(["row", "channel", "onward", "rows", "inward"]:List Str)).Nodup:=by decide +kernel
def spOnward:DSp:=fun ds G Q _=>∃cs,ds=[chD cs]∧ChanN cs∧∀p as G',Sub G G'→G' p=some (.lst (as.map D.ref))→DictsAt G' as (onL cs)→Q (.ref p) G'
theorem Ry{f:Addr}{fd:FuncData}(F:Fun K "ways_onward" "ways_onward" s_ways_onward f fd)(T:Nums mg)(Aib:Def P w K mg base CX0 1 "rows_near" p_rows_near spNear):FnOk P w K mg base CX0 2 f fd p_ways_onward (Ak K spOnward):=by
 refine okD F sc_ways_onward (fun ds G Q E h=>?_) (fun cdv A outer s H XE ds G Q E hr h=>?_)
 ·obtain⟨cs,rfl,_⟩:=h;rfl
 ·obtain⟨cs,rfl,ok,k⟩:=h;refine⟨_,#["c",#["i",1,sc_ways_onward.nd,#["r",#["b",#["ak",["row"],["channel", "onward", "rows", "inward"],#["t",#["a",0]],#["k",0,nd_ways_onward_1],#["a",0]]]]],#["c",#["al",T,#["b",#["am",#["a",0]]],#["j",2,sc_ways_onward.nd],#["c",#["P",3,sc_ways_onward.nd,#["t",#["a",1]]],#["e",#["p",#["y",#["a",1],#["aB",["row"],["channel", "onward", "rows", "inward"],#["a",2],#["k",0,nd_ways_onward_2],#["a",0],#["aa",T,#["b",#["M",["other"],["row", "channel", "onward", "rows", "inward"],#["f",Aib,hr,#["d",#["aC",T,#["b",#["g",4]]],#["b",#["a",0]]]],#["k",0,nd_ways_onward_3],#["Q",#["g",5],#["a",0]]]]]]]]]]],#["c",#["p",#["an",#["a",1]]],#["e",#["h",#["a",1]]]]]],?_⟩;have ne:cs≠[]:=fun e=>by have:=ok.lo;rw[e] at this;simp at this
  obtain⟨init,c,rfl⟩:=B0 ne;have ndc:∀d∈init++[c],d.Nodup:=fun d hd=>(ok.up d hd).imp fun {a b} z e=>by omega
  have lnc:=ok.len;have e1:Bb G (chD (init++[c])) (-1)=some (Ah c):=by
   show atI ((init++[c]).map Ah) (-1)=_;rw[List.map_append];exact Bw _ _
  have e2:Cc ((init++[c]).map Ah) none (some (-1))=init.map Ah:=by rw[Nt];simp
  have sml:∀{n:Nat},n≤100→n<sizeLine:=fun h=>Nat.lt_of_le_of_lt h (Bo (by decide))
  simp![e1];refine⟨c.map D.int,rfl,fun p hp=>Ic (fun _=>1) (ndc c (by simp)) hp (sml (by have:=lnc c (by simp);omega)) (fun _ _=>rfl) (fun i _ G' sb R h=>h G' (Sub.refl _)) fun G1 sb e=>?_⟩
  refine⟨szl (by decide),fun pf hf=>?_⟩
  have f1:Ab G1 pf (.lst [.ref p]) pf=some (.lst (([]++[p]).map D.ref)):=Aa;have g1:=Ai (u:=.lst [.ref p]) e hf;have fz:=sb.none hf;have sb1:Sub G (Ab G1 pf (.lst [.ref p])):=sb.skip hf;generalize Ab G1 pf (.lst [.ref p])=G2 at *;unfold chD;rw[Dy,e2];refine⟨init.map Ah,rfl,?_⟩;have hil:init.length≤16:=by have:=ok.hi;simp at this;omega
  have d0:DictsAt G2 (p::[].reverse) (onL ((init++[c]).drop (init.length-0))):=by
   rw[Nat.sub_zero,List.drop_left];exact .cons (by simpa[Ac] using g1) .nil
  refine A4 (OnQ G (.tup ((init++[c]).map Ah)) pf init c) ⟨none,none,p,[],rfl,sb1,f1,d0,rfl⟩ (fun _ _ _ _ _=>trivial) ?_ ?_
  ·rintro i x σ G3 hx ⟨v2,v3,a,as,rfl,s3,f3,d3,hlen⟩;have hi:i<init.length:=by
    rcases Nat.lt_or_ge i init.length with z|z
    ·exact z
    ·rw[List.getElem?_eq_none (by simpa using z)] at hx;cases hx
   rw[←List.map_reverse,List.getElem?_map,List.getElem?_reverse hi] at hx;obtain⟨b,hb,rfl⟩:=Option.map_eq_some_iff.mp hx;have hbm:b∈init++[c]:=List.mem_append_left _ (List.mem_of_getElem? hb);have hdr:(init++[c]).drop (init.length-(i+1))=b::(init++[c]).drop (init.length-i):=by
    have e:=List.drop_eq_getElem_cons (l:=init++[c]) (i:=init.length-(i+1)) (by simp;omega)
    rw[e,show init.length-(i+1)+1=init.length-i by omega]
    congr 1;rw[List.getElem_append_left (by omega)]
    have:init[init.length-1-i]? = some init[init.length-(i+1)]:=by rw[show init.length-1-i=init.length-(i+1) by omega,List.getElem?_eq_getElem]
    rw[hb] at this;exact(Option.some.inj this).symm
   obtain⟨c1,rest,hc1⟩:∃c1 rest,(init++[c]).drop (init.length-i)=c1::rest:=by
    cases h:(init++[c]).drop (init.length-i) with
    |nil=>have:=congrArg List.length h;simp at this;omega
    |cons c1 rest=>exact⟨c1,rest,rfl⟩
   rw[hc1] at d3;have hc1m:c1∈init++[c]:=List.mem_of_mem_drop (by rw[hc1];exact List.mem_cons_self ..)
   have g3:G3 a=some (.dkk (Ao (c1.map fun r=>(r,((Ac (some r) rest).length:Int))))):=by cases d3 with|cons h _=>exact h
   have e3:Bb G3 (.ref pf) (-1)=some (.ref a):=by rw[As f3,List.map_append];exact Bw _ _
   simp![f3,e3];refine⟨⟨_,rfl⟩,b.map D.int,rfl,fun p2 hp2=>Ic (fun r=>((Ac (some r) (c1::rest)).length:Int)) (ndc b hbm) hp2 (sml (by have:=lnc b hbm;omega)) (fun _ _=>rfl) (fun j hj G4 s4 R h=>?_) fun G4 s4 e4=>?_⟩
   ·have g4:=s4 _ _ g3;simp![g4];refine⟨_,rfl,fun l hl=>?_⟩;rw[F0,Ca];have f5:Ab G4 l (.lst (c1.map D.int)) l=some (.lst (c1.map D.int)):=Aa;have s5:Sub G4 (Ab G4 l (.lst (c1.map D.int))):=Sub.new hl;generalize Ab G4 l (.lst (c1.map D.int))=G5 at *;refine⟨.ref l,c1,j,rfl,Am f5,sml (by have:=lnc c1 hc1m;omega),fun m hm=>?_⟩
    have f6:Ab G5 m (.lst ((c1.filter (Aq j)).map D.int)) m=some (.lst ((c1.filter (Aq j)).map D.int)):=Aa;have s6:Sub G4 (Ab G5 m (.lst ((c1.filter (Aq j)).map D.int))):=s5.skip hm;generalize Ab G5 m (.lst ((c1.filter (Aq j)).map D.int))=G6 at *;have mem:∀i∈c1.filter (Aq j),i∈c1:=fun i hi=>(List.mem_filter.mp hi).1;have lq:(c1.filter (Aq j)).length≤100:=Nat.le_trans (List.length_filter_le _ _) (by have:=lnc c1 hc1m;omega)
    have hsum:=Fc (some j) c1 rest;have hsum:((Ac (some j) (c1::rest)).length:Int)=((c1.filter (Aq j)).map fun y=>((Ac (some y) rest).length:Int)).sum:=hsum;rw[hsum] at h;generalize c1.filter (Aq j)=ks at *;refine⟨ks.map D.int,Am f6,fun p3 hp3=>?_⟩;have g6:=s6 _ _ g4;refine Ay (fun x=>.int ((Ac (some (A0 x)) rest).length:Int)) (fun _=>true) (by simpa using sml lq) (fun ys=>Am (Ai f6 hp3)) (by decide) (fun x ys hx hl R1 R2 g1 _=>?_) ?_
    ·obtain⟨i,hi,rfl⟩:=List.mem_map.mp hx;have ga:Ab G6 p3 (.lst ys) a=some (.dkk (Ao (c1.map fun r=>(r,((Ac (some r) rest).length:Int))))):=Ai g6 hp3;simp![hl,ga];refine⟨_,rfl,_,Gy (by rw[Ca];exact mem i hi),?_⟩
     rw[Fk (mem i hi)];exact Fg.of (g1 rfl)
    ·refine⟨p3,rfl,ks.map fun y=>((Ac (some y) rest).length:Int),by rw[Aa,Bd,List.map_map,List.map_map];rfl,h _ (s6.skip hp3)⟩
   ·have f4:=s4 _ _ f3;refine⟨_,f4,by simp;exact sml (by omega),Fs.of ⟨_,_,p2,as++[a],rfl,fun b o eb=>?_,?_,?_,by simp[hlen]⟩⟩
    ·have nb:b≠pf:=fun z=>by rw[z,fz] at eb;cases eb
     rw[Ag nb];exact s4 _ _ (s3 b o eb)
    ·rw[Aa];simp
    ·rw[hdr,hc1,List.reverse_append,onL];refine .cons ?_ (DictsAt.put f4 (fun ps z=>by cases z) (d3.sub s4))
     have n2:p2≠pf:=fun z=>by rw[z] at hp2;rw[f3] at hp2;cases hp2
     rw[Ag n2];exact e4
  ·rintro σ G3 ⟨v2,v3,a,as,rfl,s3,f3,d3,hlen⟩;simp![f3];rw[List.length_reverse,List.length_map,Nat.sub_self,List.drop_zero] at d3;refine Fq.of (k pf (a::as.reverse) _ (fun b o eb=>?_) (by rw[Aa];simp) (DictsAt.put f3 (fun ps z=>by cases z) d3))
   have nb:b≠pf:=fun z=>by rw[z,fz] at eb;cases eb
   rw[Ag nb];exact s3 b o eb
theorem Lc{cs:List (List Int)}(ok:ChanN cs):SzT (chD cs):=sz_ch (by have:=ok.hi;omega) fun c hc=>by have:=ok.len c hc;omega
theorem ChanN.head{cs:List (List Int)}(ok:ChanN cs):∃c r,cs=c::r∧r≠[]:=by
 cases cs with
 |nil=>have:=ok.lo;simp at this
 |cons c r=>exact⟨c,r,rfl,fun z=>by have:=ok.lo;rw[z] at this;simp at this⟩
theorem B7{n:Nat}(h:n<20000):n<sizeLine:=by rw[sizeLine_eq];omega
abbrev s_many_ways:Stmt:=top 34
abbrev N7:List Str:=["channel"]
abbrev p_many_ways:List Str:=["channel"]
theorem L6:FnScope N7 p_many_ways (Ad s_many_ways):=⟨rfl,rfl,rfl,by decide +kernel,rfl,by decide +kernel,by decide +kernel⟩
def spMany:DSp:=fun ds G Q _=>∃cs,ds=[chD cs]∧ChanN cs∧Q (.int ((Ac none cs).length:Int)) G
theorem Zz{f:Addr}{fd:FuncData}(F:Fun K "many_ways" "many_ways" s_many_ways f fd)(T:Nums mg)(Aic:Def P w K mg base CX0 5 "check_channel" p_check_channel spCheckC)(Aid:Def P w K mg base CX0 2 "ways_onward" p_ways_onward spOnward):FnOk P w K mg base CX0 6 f fd p_many_ways (Ak K spMany):=by
 refine okD F L6 (fun ds G Q E h=>?_) (fun cdv A outer s H XE ds G Q E hr h=>?_)
 ·obtain⟨cs,rfl,_⟩:=h;rfl
 ·obtain⟨cs,rfl,ok,k⟩:=h;refine⟨_,#["c",#["p",#["f",Aic,hr,#["b",#["a",0]]]],#["e",#["h",#["aD",T,#["n",#["f",Aid,hr,#["b",#["a",0]]]]]]]],?_⟩;simp![];refine⟨_,rfl,T3,Lc ok,ok.chan,cs,rfl,ok,fun p as G1 sb hp d=>?_⟩;obtain⟨c,r,rfl,_⟩:=ok.head;rw[onL] at d;cases d with
  |cons h t=>
   rename_i a as;refine⟨_,by rw[As hp,List.map_cons];exact Od,a,rfl,_,h,c.map fun r'=>((Ac (some r') r).length:Int),by simp only[Ao,List.map_map];rfl,⟨G,sb,?_⟩⟩
   have e:=Fc none c r;have e2:c.filter (okp none)=c:=List.filter_eq_self.mpr fun _ _=>rfl;rw[e2] at e;rw[←e];exact k
abbrev s_row_at:Stmt:=top 35
abbrev X1:List Str:=["onward", "rows", "place", "at", "left"]
abbrev C9:List Str:=["onward", "rows", "place"]
theorem sc_row_at:FnScope X1 C9 (Ad s_row_at):=⟨rfl,rfl,rfl,by decide +kernel,rfl,by decide +kernel,by decide +kernel⟩
def Lg:DSp:=fun ds G Q _=>∃(a:Addr) (d:D) (ps:List (Int×Int)) (ns:List Int) (k:Nat) (r:Int) (j:Nat),ds=[.ref a,d,.int k]∧G a=some (.dkk (Ao ps))∧Ar G d=some (ns.map D.int)∧(∀x∈ns,x∈ps.map (·.1))∧(∀x∈ns,0≤vI ps x)∧Cg (fun r=>(vI ps r).toNat) ns k=some (r,j)∧Q (.tup [.int r,.int j]) G
theorem Xf{G:Gp}{d:D}{ns:List Int}(h:Ar G d=some (ns.map D.int)){i:Nat}{x:Int}(e:ns[i]? = some x):Bb G d (i:Int)=some (.int x):=by
 have hd:(ns.map D.int)[i]? = some (.int x):=by rw[List.getElem?_map,e];rfl
 cases d with
 |tup ds=>simp only[Ar,Option.some.injEq] at h;subst h;exact B4 hd
 |ref a=>
  simp only[Ar] at h
  split at h
  ·rename_i ds g;cases h;rw[As g];exact B4 hd
  ·cases h
 |lint ms=>simp only[Ar,Option.some.injEq] at h;rw[Kg,h];exact B4 hd
 |_=>cases h
theorem Ws{f:Addr}{fd:FuncData}(F:Fun K "row_at" "row_at" s_row_at f fd)(T:Nums mg):FnOk P w K mg base CX0 1 f fd C9 (Ak K Lg):=by
 refine okD F sc_row_at (fun ds G Q E h=>?_) (fun cdv A outer s H XE ds G Q E hr h=>?_)
 ·obtain⟨_,_,_,_,_,_,_,rfl,_⟩:=h;rfl
 ·obtain⟨a,d,ps,ns,k,r,j,rfl,ha,hi,hk,hv,hp,q⟩:=h;refine⟨_,#["c",#["ai",3,sc_row_at.nd],#["c",#["i",4,sc_row_at.nd,#["a",2]],#["c",(@qs_while _ _ _ _ _ _ PassesOwn.never #["B",(@o_ge _),#["a",4],#["Q",#["a",0],#["v",#["a",1],#["a",3]]]] #["c",#["aE",4,sc_row_at.nd,(@ia_sub _),#["Q",#["a",0],#["v",#["a",1],#["a",3]]]],#["e",#["aF",3,sc_row_at.nd]]]),#["e",#["h",#["u",#["d",#["v",#["a",1],#["a",3]],#["b",#["a",4]]]]]]]]],?_⟩;simp![];refine⟨fun m σ G'=>∃(at' left:Nat),σ=[some (.ref a),some d,some (.int k),some (.int at'),some (.int left)]∧G'=G∧m=ns.length-at'∧Cg (fun r=>(vI ps r).toNat) (ns.drop at') left=some (r,j),⟨ns.length-0,0,k,rfl,rfl,rfl,hp⟩,?_⟩;rintro m σ G' ⟨at',left,rfl,rfl,rfl,hq⟩;cases hdr:ns.drop at' with
  |nil=>rw[hdr] at hq;simp[Cg] at hq
  |cons x rest=>
   rw[hdr,Cg] at hq;have hx:ns[at']? = some x:=by
    have:=congrArg (fun l=>l[0]?) hdr
    simpa using this
   have hxm:x∈ns:=List.mem_of_getElem? hx;have hrest:ns.drop (at'+1)=rest:=by
    have:=congrArg (List.drop 1) hdr
    simpa[List.drop_drop,Nat.add_comm] using this
   have hit:=Xf hi hx;have hlt:=(List.getElem?_eq_some_iff.mp hx).1;simp![hit,ha];refine⟨_,rfl,_,Gy (hk x hxm),_,rfl,?_⟩;have h0:=hv x hxm
   by_cases hc:left<(vI ps x).toNat
   ·rw[if_pos hc] at hq;cases hq;exact it1 (by omega) ⟨szl (by decide),Fq.of q⟩
   ·rw[if_neg hc] at hq;refine it0 (by omega) ?_
    refine⟨fun σ' G''=>∃left':Nat,σ'=[some (.ref a),some d,some (.int k),some (.int ((at'+1:Nat):Int)),some (.int left')]∧G''=G'∧Cg (fun r=>(vI ps r).toNat) (ns.drop (at'+1)) left'=some (r,j),fun σ' G'' ⟨left',e,eg,hp'⟩=>⟨ns.length-(at'+1),by omega,at'+1,left',e,eg,rfl,hp'⟩,_,rfl,_,Gy (hk x hxm),_,rfl,Fs.of ⟨left-(vI ps x).toNat,?_,rfl,by rw[hrest];exact hq⟩⟩
    have e1:(left:Int)-vI ps x=((left-(vI ps x).toNat:Nat):Int):=by omega
    rw[e1];rfl
def Jw(v:List Int):Option Int:=v.getLast?
theorem Sub.over{G0 G:Gp}(s:Sub G0 G){p:Addr}(h:G0 p=none)(o:GO):Sub G0 (Ab G p o):=fun a u e=>by rw[Ag (gne e h)];exact s a u e
def WWi(cs:List (List Int))(t:D)(place:Nat)(q p:Addr)(as:List Addr)(G:Gp)(i:Nat)(σ:DSt)(G':Gp):Prop:=∃(v:List Int) (k:Nat) (v4 v5 v6 v7:Option D),σ=[some t,some (.int place),some (.ref q),some (.int k),v4,v5,v6,v7]∧Sub G G'∧G' q=some (.lst (v.map D.int))∧G' p=some (.lst (as.map D.ref))∧DictsAt G' as (onL cs)∧v.length=i∧
 k<(Ac (Jw v) (cs.drop i)).length∧(Ac none cs)[place]? = ((Ac (Jw v) (cs.drop i))[k]?).map (v ++ ·)
theorem Of:∀{xs ys:List D} {i:Nat} {z:D},(C5 [xs,ys])[i]? = some z→∃u v:D,xs[i]? = some u∧ys[i]? = some v∧z=.tup [u,v]
 |[],ys,i,z,h=>by obtain⟨u,v,_,hu,_⟩:=Go (List.mem_of_getElem? h);cases hu
 |x::xs,[],i,z,h=>by obtain⟨u,v,_,_,hv⟩:=Go (List.mem_of_getElem? h);cases hv
 |x::xs,y::ys,0,z,h=>by rw[Hl] at h;simp at h;exact⟨x,y,rfl,rfl,h.symm⟩
 |x::xs,y::ys,i+1,z,h=>by
  rw[Hl] at h;obtain⟨u,v,h1,h2,h3⟩:=Of (xs:=xs) (ys:=ys) (i:=i) (by simpa using h)
  exact⟨u,v,by simpa using h1,by simpa using h2,h3⟩
theorem U3{G:Gp}{cs:List (List Int)}{p:Addr}{xs:List D}(h:G p=some (.lst xs)):A7 G [chD cs,.ref p]=some [cs.map Ah,xs]:=by
 simp only[A7,chD,Ar,h]
theorem Io{f g:Int→Nat}:∀{R:List Int} {k:Nat},(∀x∈R,f x=g x)→Cg f R k=Cg g R k
 |[],_,_=>rfl
 |r::R,k,h=>by
  rw[Cg,Cg,h r (by simp)]
  split
  ·rfl
  ·exact Io fun x hx=>h x (by simp[hx])
theorem Lu(p:Option Int)(c:List Int)(cs:List (List Int)):(Ac p (c::cs)).length=((c.filter (okp p)).map fun y=>(Ac (some y) cs).length).sum:=by
 rw[Ac,List.length_flatMap];congr 1;exact List.map_congr_left fun y _=>by simp
theorem Fy(v:List Int)(r:Int):Jw (v++[r])=some r:=by unfold Jw;simp
theorem Z5{G:Gp}{q:Addr}{v c:List Int}{R:DK}(hq:G q=some (.lst (v.map D.int)))(hz:c.length<sizeLine)(h:∀d G2,Sub G G2→Ar G2 d=some ((c.filter (okp (Jw v))).map D.int)→R d G2) :
  if (!(v.map D.int).isEmpty)=true then ∃x,Bb G (.ref q) (-1)=some x∧spNear [Ah c,x] G R noX else R (Ah c) G:=by
 cases hv:v with
 |nil=>
  refine it1 (by simp) (h _ _ (Sub.refl _) ?_)
  have:c.filter (okp (Jw v))=c:=by rw[hv];exact List.filter_eq_self.mpr fun _ _=>rfl
  rw[this];rfl
 |cons y r=>
  obtain⟨u,l,e⟩:=B0 (xs:=v) (by rw[hv];simp)
  rw[←hv];refine it0 (by rw[hv];rfl) ⟨.int l,by rw[As hq,e,List.map_append];exact Bw _ _,_,c,l,rfl,rfl,hz,fun m hm=>h _ _ (Sub.new hm) ?_⟩
  rw[e,Fy];exact Am Aa
abbrev s_way_with:Stmt:=top 36
abbrev Pw:List Str:=["channel", "place", "way", "left", "rows", "onward", "choices", "row"]
abbrev Bs:List Str:=["channel", "place"]
theorem sc_way_with:FnScope Pw Bs (Ad s_way_with):=⟨rfl,rfl,rfl,by decide +kernel,rfl,by decide +kernel,by decide +kernel⟩
def Kv:DSp:=fun ds G Q _=>∃cs k w,ds=[chD cs,.int ((k:Nat):Int)]∧ChanN cs∧(Ac none cs)[k]? = some w∧Q (Ah w) G
theorem Zr{f:Addr}{fd:FuncData}(F:Fun K "way_with" "way_with" s_way_with f fd)(T:Nums mg)(Aid:Def P w K mg base CX0 2 "ways_onward" p_ways_onward spOnward)(Aib:Def P w K mg base CX0 1 "rows_near" p_rows_near spNear)(Air:Def P w K mg base CX0 1 "row_at" C9 Lg):FnOk P w K mg base CX0 3 f fd Bs (Ak K Kv):=by
 refine okD F sc_way_with (fun ds G Q E h=>?_) (fun cdv A outer s H XE ds G Q E hr h=>?_)
 ·obtain⟨_,_,_,rfl,_⟩:=h;rfl
 ·obtain⟨cs,place,w,rfl,ok,hw,k⟩:=h;refine⟨_,#["c",#["1",2,sc_way_with.nd],#["c",#["i",3,sc_way_with.nd,#["a",1]],#["c",#["ao",T,#["d",#["a",0],#["b",#["f",Aid,hr,#["b",#["a",0]]]]],#["D",2,#["E",#["j",4,sc_way_with.nd],#["F",#["j",5,sc_way_with.nd]]]],#["c",#["i",6,sc_way_with.nd,#["ap",#["o",#["a",2]],#["f",Aib,hr,#["d",#["a",4],#["b",#["t",#["a",2]]]]],#["a",4]]],#["c",#["C",#["f",Air,hr,#["d",#["a",5],#["d",#["a",6],#["b",#["a",3]]]]],#["D",2,#["E",#["j",7,sc_way_with.nd],#["F",#["j",3,sc_way_with.nd]]]]],#["e",#["p",#["y",#["a",2],#["a",7]]]]]]],#["e",#["h",#["O",T,#["b",#["a",2]]]]]]]],?_⟩;have sz0:0≤sizeLine:=Nat.zero_le _;simp![sz0];intro q hq;refine⟨cs,rfl,ok,fun p as G1 sb hp d=>⟨_,U3 hp,?_⟩⟩;have hz:∀c∈cs,c.length<sizeLine:=fun c hc=>B7 (by have:=ok.len c hc;omega)
  have has:as.length=cs.length:=by have:=Paired.length d;rw[Lo] at this;exact this
  have hq1:G1 q=some (.lst []):=sb _ _ Aa;have npq:p≠q:=fun z=>by
   rw[z,hq1] at hp
   have:=ok.lo
   cases as with
   |nil=>simp at has;omega
   |cons _ _=>cases hp
  have sbG:Sub G G1:=(Sub.new hq).trans sb;have hpl:place<(Ac none cs).length:=(List.getElem?_eq_some_iff.mp hw).1;refine A4 (WWi cs (chD cs) place q p as G) ⟨[],place,none,none,none,none,rfl,sbG,hq1,hp,d,rfl,hpl,by show _=Option.map (fun x=>[]++x) (Ac none cs)[place]?;simp⟩ ?_ ?_ ?_
  ·rintro i σ G2 _ ⟨v,k',v4,v5,v6,v7,rfl,_,_,hp2,_⟩;exact U3 hp2
  ·rintro i x σ G2 hx ⟨v,k',v4,v5,v6,v7,rfl,s2,hq2,hp2,d2,hvl,hkl,hway⟩;obtain⟨u1,u2,e1,e2,rfl⟩:=Of hx;rw[List.getElem?_map] at e1 e2;obtain⟨c,hc,rfl⟩:=Option.map_eq_some_iff.mp e1;obtain⟨a,ha,rfl⟩:=Option.map_eq_some_iff.mp e2;have hcm:c∈cs:=List.mem_of_getElem? hc;have hil:=(List.getElem?_eq_some_iff.mp hc).1;have hdr:cs.drop i=c::cs.drop (i+1):=by
    rw[List.drop_eq_getElem_cons hil];congr 1;exact(List.getElem?_eq_some_iff.mp hc).2
   rw[hdr] at hkl hway;obtain⟨a',ha',hd'⟩:=d2.get (Lp hc);rw[ha] at ha';cases ha';have te:Kp G2 (.ref q)=some (!(v.map D.int).isEmpty):=P7 hq2;simp![te];refine Z5 hq2 (hz c hcm) fun dd G3 s3 hi3=>?_;rw[Lu] at hkl;obtain⟨r,j,hpk,hrm,hj⟩:=J6 hkl;have hrc:r∈c:=(List.mem_filter.mp hrm).1;have keys:(c.map fun r=>(r,((Ac (some r) (cs.drop (i+1))).length:Int))).map (·.1)=c:=Ca;refine⟨a,dd,_,_,k',r,j,rfl,s3 _ _ hd',hi3,fun x hx=>by rw[keys];exact(List.mem_filter.mp hx).1,fun x hx=>by rw[Fk (List.mem_filter.mp hx).1];omega,?_,?_⟩
   ·rw[←hpk];exact Io fun x hx=>by rw[Fk (List.mem_filter.mp hx).1];omega
   ·have hq3:=s3 _ _ hq2;refine⟨_,rfl,rfl,_,_,rfl,_,_,rfl,rfl,⟨_,hq3⟩,_,hq3,by rw[List.length_map];exact B7 (by have:=ok.hi;omega),Fs.of ⟨v++[r],j,_,_,_,_,rfl,Sub.over (s2.trans s3) hq _,by rw[Aa,List.map_append];rfl,by rw[Ag npq];exact s3 _ _ hp2,DictsAt.put hq3 (fun ps z=>by cases z) (d2.sub s3),by rw[List.length_append,hvl];rfl,by rw[Fy];exact hj,?_⟩⟩
    rw[hway,Vi hpk,Fy,Option.map_map];congr 1;funext z;simp
  ·rintro σ G2 ⟨v,k',v4,v5,v6,v7,rfl,s2,hq2,hp2,d2,hvl,hkl,hway⟩;have hn:(C5 [cs.map Ah,as.map D.ref]).length=cs.length:=by rw[Cr];simp[Dj,has]
   rw[hn,List.drop_of_length_le (Nat.le_refl _)] at hkl hway;rw[Ac,List.length_singleton] at hkl;have hk0:k'=0:=by omega
   subst hk0;rw[Ac,hw] at hway;have ew:w=v:=by simpa using hway
   subst ew;simp![Am hq2];exact⟨G,s2,k⟩
abbrev s_way_at:Stmt:=top 37
abbrev X0:List Str:=["channel", "place"]
abbrev p_way_at:List Str:=["channel", "place"]
theorem Rm:FnScope X0 p_way_at (Ad s_way_at):=⟨rfl,rfl,rfl,by decide +kernel,rfl,by decide +kernel,by decide +kernel⟩
def spAtX(CN:Addr):DSp:=fun ds G Q E=>∃cs d,ds=[chD cs,d]∧ChanN cs∧Kn G d∧(A8 0 (((Ac none cs).length:Int)-1) d=true→∃(place:Nat) (w:List Int),d=.int place∧(Ac none cs)[place]? = some w∧Q (Ah w) G)∧(A8 0 (((Ac none cs).length:Int)-1) d=false→E (.ref CN) G)
theorem ok_at{f CN:Addr}{fd:FuncData}(F:Fun K "way_at" "way_at" s_way_at f fd)(T:Nums mg)(O_NoNumber:ExcK K "NoNumber" CN)(Aie:Def P w K mg base CX0 6 "many_ways" p_many_ways spMany)(Aig:Def P w K mg base CX0 1 "is_whole_within" p_is_whole_within spWhole)(Aih:Def P w K mg base CX0 3 "way_with" Bs Kv):FnOk P w K mg base (CX1 P w) 7 f fd p_way_at (Ak K (spAtX CN)):=by
 refine okX F Rm (fun ds G Q E h=>?_) (fun cdv A outer s H XE ds G Q E hr h hE=>?_)
 ·obtain⟨_,_,rfl,_⟩:=h;rfl
 ·obtain⟨cs,d,rfl,ok,kn,k1,k2⟩:=h;refine⟨_,#["c",#["A",#["s",#["o",#["f",Aig,hr,#["d",#["a",1],#["0",#["b",#["2",#["f",Aie,hr,#["b",#["a",0]]]]]]]]]],#["e",#["aG",hE,O_NoNumber]]],#["e",#["h",#["f",Aih,hr,#["d",#["a",0],#["b",#["a",1]]]]]]],?_⟩;simp![];refine⟨cs,rfl,ok,?_⟩;refine⟨_,rfl,d,_,_,rfl,kn,_,rfl,?_⟩;cases hc:A8 0 (((Ac none cs).length:Int)-1) d with
  |true=>
   obtain⟨place,w,rfl,hw,q⟩:=k1 hc;exact it1 (by decide) ⟨cs,place,w,rfl,ok,hw,Fq.of q⟩
  |false=>exact it0 (by decide) ⟨szl (by decide),Fx.of (k2 hc)⟩
abbrev s_least_way:Stmt:=top 38
abbrev N8:List Str:=["channel"]
abbrev p_least_way:List Str:=["channel"]
theorem L7:FnScope N8 p_least_way (Ad s_least_way):=⟨rfl,rfl,rfl,by decide +kernel,rfl,by decide +kernel,by decide +kernel⟩
def Fo(cs:List (List Int)):D:=match Ac none cs with
 |[]=>.non
 |w::_=>Ah w
def spLeast:DSp:=fun ds G Q _=>∃cs,ds=[chD cs]∧ChanN cs∧Q (Fo cs) G
theorem Wu{f:Addr}{fd:FuncData}(F:Fun K "least_way" "least_way" s_least_way f fd)(T:Nums mg)(Aie:Def P w K mg base CX0 6 "many_ways" p_many_ways spMany)(Aih:Def P w K mg base CX0 3 "way_with" Bs Kv):FnOk P w K mg base CX0 7 f fd p_least_way (Ak K spLeast):=by
 refine okD F L7 (fun ds G Q E h=>?_) (fun cdv A outer s H XE ds G Q E hr h=>?_)
 ·obtain⟨_,rfl,_⟩:=h;rfl
 ·obtain⟨cs,rfl,ok,k⟩:=h;refine⟨_,#["c",#["ab",#["V",#["f",Aie,hr,#["b",#["a",0]]]]],#["e",#["h",#["f",Aih,hr,#["G",#["a",0]]]]]],?_⟩;simp![];refine⟨cs,rfl,ok,_,rfl,?_⟩;unfold Fo at k;cases e:Ac none cs with
  |nil=>rw[e] at k;exact it0 (by simp) (Fq.of k)
  |cons w r=>rw[e] at k;exact it1 (by simp;omega) ⟨cs,0,w,rfl,ok,by rw[e];rfl,Fq.of k⟩
abbrev s_step_on:Stmt:=top 39
abbrev Te:List Str:=["inward", "row", "steps"]
abbrev Bz:List Str:=["inward", "row"]
theorem sc_step_on:FnScope Te Bz (Ad s_step_on):=⟨rfl,rfl,rfl,by decide +kernel,rfl,by decide +kernel,by decide +kernel⟩
theorem nd_step_on_1:((["other"]:List Str)++(["inward", "row", "steps"]:List Str)).Nodup:=by decide +kernel
def Kx:DSp:=fun ds G Q _=>∃(a:Addr) (ps:List (Int×Int)) (r:Int),ds=[.ref a,.int r]∧G a=some (.dkk (Ao ps))∧ps.length≤100∧(Cz ps r=[]→Q .non G)∧∀M∈Cz ps r,(∀x∈Cz ps r,¬A6 x M)→Q (Bc M) G
theorem Zu{f:Addr}{fd:FuncData}(F:Fun K "step_on" "step_on" s_step_on f fd)(T:Nums mg)(Aib:Def P w K mg base CX0 1 "rows_near" p_rows_near spNear):FnOk P w K mg base CX0 2 f fd Bz (Ak K Kx):=by
 refine okD F sc_step_on (fun ds G Q E h=>?_) (fun cdv A outer s H XE ds G Q E hr h=>?_)
 ·obtain⟨_,_,_,rfl,_⟩:=h;rfl
 ·obtain⟨a,ps,r,rfl,ha,hl,k0,k⟩:=h;refine⟨_,#["c",#["ac",["other"],["inward", "row", "steps"],2,#["f",Aib,hr,#["d",#["aH",T,#["b",#["g",0]]],#["b",#["g",1]]]],#["k",0,nd_step_on_1],#["u",#["d",#["q",#["Q",#["g",1],#["a",0]],#["ap",#["aq",#["a",0],#["g",2]],#["w"],#["w"]]],#["b",#["a",0]]]],sc_step_on.nd,(by first|exact .inl rfl|exact .inr rfl),(by first|exact .inl rfl|exact .inr rfl)],#["e",#["h",#["aI",hr,T,#["a",2]]]]],?_⟩
  simp![ha];refine⟨_,rfl,fun p1 hp1=>?_⟩;rw[F0];have s1:Sub G (Ab G p1 (.lst ((ps.map (·.1)).map D.int))):=Sub.new hp1;have f1:Ab G p1 (.lst ((ps.map (·.1)).map D.int)) p1=some (.lst ((ps.map (·.1)).map D.int)):=Aa;generalize Ab G p1 (.lst ((ps.map (·.1)).map D.int))=G1 at *;refine⟨.ref p1,ps.map (·.1),r,rfl,Am f1,B7 (by rw[List.length_map];omega),fun p2 hp2=>?_⟩
  have mem:∀o∈(ps.map (·.1)).filter (Aq r),o∈ps.map (·.1):=fun o ho=>(List.mem_filter.mp ho).1;have lq:((ps.map (·.1)).filter (Aq r)).length≤100:=Nat.le_trans (List.length_filter_le _ _) (by rw[List.length_map];exact hl)
  have es:Cz ps r=((ps.map (·.1)).filter (Aq r)).map fun o=>(vI ps o+Bj r o,o):=rfl;rw[es] at k0 k;have s2:=s1.skip (o:=.lst (((ps.map (·.1)).filter (Aq r)).map D.int)) hp2;have f2:Ab G1 p2 (.lst (((ps.map (·.1)).filter (Aq r)).map D.int)) p2=some (.lst (((ps.map (·.1)).filter (Aq r)).map D.int)):=Aa;generalize Ab G1 p2 (.lst (((ps.map (·.1)).filter (Aq r)).map D.int))=G2 at *;generalize (ps.map (·.1)).filter (Aq r)=ks at *;refine⟨ks.map D.int,Am f2,fun p3 hp3=>?_⟩;refine Ay (fun x=>Bc (vI ps (A0 x)+Bj r (A0 x),A0 x)) (fun _=>true) (by simpa using B7 (by omega)) (fun ys=>Am (Ai f2 hp3)) (by decide) (fun x ys hx hlz R1 R2 g1 _=>?_) ?_
  ·obtain⟨o,ho,rfl⟩:=List.mem_map.mp hx;have ga:Ab G2 p3 (.lst ys) a=some (.dkk (Ao ps)):=Ai (s2 _ _ ha) hp3;have sz2:=sz2;simp![sz2,hlz,ga];have g1:R1 (.tup [.int (vI ps o+Bj r o),.int o]) (Ab G2 p3 (.lst (ys++[.tup [.int (vI ps o+Bj r o),.int o]]))):=g1 rfl;refine⟨_,rfl,_,Gy (mem o ho),?_⟩
   by_cases hb:o=r
   ·refine it1 (by simpa using hb) ?_
    rw[Hj,show(0:Int)=Bj r o from(if_neg (by simpa using hb)).symm]
    exact⟨Aa,by rw[B9];exact Fg.of g1⟩
   ·refine it0 (by simpa using hb) ?_
    rw[Hj,show(1:Int)=Bj r o from(if_pos hb).symm];exact⟨Aa,by rw[B9];exact Fg.of g1⟩
  ·have em:((ks.map D.int).filter fun _=>true).map (fun x=>Bc (vI ps (A0 x)+Bj r (A0 x),A0 x))=(ks.map fun o=>(vI ps o+Bj r o,o)).map Bc:=by
    rw[Bd,List.map_map,List.map_map];rfl
   rw[em];exact⟨p3,rfl,_,Aa,fun e=>⟨G,s2.skip hp3,k0 e⟩,fun M h1 h2=>⟨G,s2.skip hp3,k M h1 h2⟩⟩
inductive FDL:List (List Int)→List (List (Int×Int))→Prop
 |nil:FDL [] []
 |cons {c:List Int} {cs:List (List Int)} {ps:List (Int×Int)} {pss:List (List (Int×Int))}:FD c cs ps→FDL cs pss→FDL (c::cs) (ps::pss)
theorem FDL.len{cs:List (List Int)}{pss:List (List (Int×Int))}(h:FDL cs pss):cs.length=pss.length:=by
 induction h with
 |nil=>rfl
 |cons _ _ ih=>rw[List.length_cons,List.length_cons,ih]
theorem FD.len{c:List Int}{cs:List (List Int)}{ps:List (Int×Int)}(h:FD c cs ps):ps.length≤c.length:=by
 have:=congrArg List.length h.keys
 rw[List.length_map] at this;rw[this];exact List.length_filter_le _ _
def BnQ(G:Gp)(t:D)(pf:Addr)(init:List (List Int))(c:List Int)(i:Nat)(σ:DSt)(G':Gp):Prop:=∃v2 v3 v4 v5 a as pss,σ=[some t,some (.ref pf),v2,v3,v4,v5]∧Sub G G'∧G' pf=some (.lst ((as++[a]).map D.ref))∧DictsAt G' (a::as.reverse) pss∧FDL ((init++[c]).drop (init.length-i)) pss∧(a::as.reverse).Nodup∧(∀b∈a::as.reverse,G b=none)∧as.length=i
abbrev s_bends_onward:Stmt:=top 40
abbrev Jf:List Str:=["channel", "onward", "rows", "bends", "row", "step"]
abbrev p_bends_onward:List Str:=["channel"]
theorem sc_bends_onward:FnScope Jf p_bends_onward (Ad s_bends_onward):=⟨rfl,rfl,rfl,by decide +kernel,rfl,by decide +kernel,by decide +kernel⟩
theorem nd_bends_onward_1:((["row"]:List Str)++(["channel", "onward", "rows", "bends", ".1", "step"]:List Str)).Nodup:=by decide +kernel
def spBends:DSp:=fun ds G Q _=>∃cs,ds=[chD cs]∧ChanN cs∧∀p as pss G',Sub G G'→G' p=some (.lst (as.map D.ref))→DictsAt G' as pss→FDL cs pss→as.Nodup→(∀b∈as,G b=none)→Q (.ref p) G'
theorem Wz{f:Addr}{fd:FuncData}(F:Fun K "bends_onward" "bends_onward" s_bends_onward f fd)(T:Nums mg)(Aii:Def P w K mg base CX0 2 "step_on" Bz Kx):FnOk P w K mg base CX0 3 f fd p_bends_onward (Ak K spBends):=by
 refine okD F sc_bends_onward (fun ds G Q E h=>?_) (fun cdv A outer s H XE ds G Q E hr h=>?_)
 ·obtain⟨cs,rfl,_⟩:=h;rfl
 ·obtain⟨cs,rfl,ok,k⟩:=h;refine⟨_,#["c",#["i",1,sc_bends_onward.nd,#["r",#["b",#["ak",["row"],["channel", "onward", "rows", "bends", ".1", "step"],#["t",#["a",0]],#["k",0,nd_bends_onward_1],#["a",0]]]]],#["c",#["al",T,#["b",#["am",#["a",0]]],#["j",2,sc_bends_onward.nd],#["c",#["ar",3,sc_bends_onward.nd],#["c",#["z",#["a",2],#["j",4,sc_bends_onward.nd],#["c",#["i",5,sc_bends_onward.nd,#["f",Aii,hr,#["d",#["t",#["a",1]],#["b",#["a",4]]]]],#["e",#["A",#["as",#["a",5]],#["e",#["C",#["n",#["a",5]],#["X",#["a",3],#["a",4],(@s_dictK _ _ hr)]]]]]]],#["e",#["p",#["y",#["a",1],#["a",3]]]]]]],#["c",#["p",#["an",#["a",1]]],#["e",#["h",#["a",1]]]]]],?_⟩;have ne:cs≠[]:=fun e=>by have:=ok.lo;rw[e] at this;simp at this
  obtain⟨init,c,rfl⟩:=B0 ne;have ndc:∀d∈init++[c],d.Nodup:=fun d hd=>(ok.up d hd).imp fun {a b} z e=>by omega
  have lnc:=ok.len;have e1:Bb G (chD (init++[c])) (-1)=some (Ah c):=by
   show atI ((init++[c]).map Ah) (-1)=_;rw[List.map_append];exact Bw _ _
  have e2:Cc ((init++[c]).map Ah) none (some (-1))=init.map Ah:=by rw[Nt];simp
  simp![e1];refine⟨c.map D.int,rfl,fun p hp=>Ic (fun _=>0) (ndc c (by simp)) hp (B7 (by have:=lnc c (by simp);omega)) (fun _ _=>rfl) (fun i _ G' sb R h=>h G' (Sub.refl _)) fun G1 sb e=>?_⟩
  refine⟨szl (by decide),fun pf hf=>?_⟩
  have f1:Ab G1 pf (.lst [.ref p]) pf=some (.lst (([]++[p]).map D.ref)):=Aa;have g1:=Ai (u:=.lst [.ref p]) e hf;have fz:=sb.none hf;have sb1:Sub G (Ab G1 pf (.lst [.ref p])):=sb.skip hf;generalize Ab G1 pf (.lst [.ref p])=G2 at *;unfold chD;rw[Dy,e2];refine⟨init.map Ah,rfl,?_⟩;have hil:init.length≤16:=by have:=ok.hi;simp at this;omega
  have fd0:FD c [] (c.map fun i=>(i,0)):=⟨by rw[Ca (g:=fun _=>0)];exact(List.filter_eq_self.mpr fun _ _=>rfl).symm,fun q hq=>by
   obtain⟨r,_,rfl⟩:=List.mem_map.mp hq;exact few_zero.mpr rfl⟩
  refine A4 (BnQ G (.tup ((init++[c]).map Ah)) pf init c) ⟨none,none,none,none,p,[],[c.map fun i=>(i,0)],rfl,sb1,f1,.cons g1 .nil,by rw[Nat.sub_zero,List.drop_left];exact .cons fd0 .nil,by simp,fun b hb=>by simp at hb;subst hb;exact hp,rfl⟩ (fun _ _ _ _ _=>trivial) ?_ ?_
  ·rintro i x σ G3 hx ⟨v2,v3,v4,v5,a,as,pss,rfl,s3,f3,d3,fl3,nd3,fr3,hlen⟩;have hi:i<init.length:=by
    rcases Nat.lt_or_ge i init.length with z|z
    ·exact z
    ·rw[List.getElem?_eq_none (by simpa using z)] at hx;cases hx
   rw[←List.map_reverse,List.getElem?_map,List.getElem?_reverse hi] at hx;obtain⟨b,hb,rfl⟩:=Option.map_eq_some_iff.mp hx;have hbm:b∈init++[c]:=List.mem_append_left _ (List.mem_of_getElem? hb);have hdr:(init++[c]).drop (init.length-(i+1))=b::(init++[c]).drop (init.length-i):=by
    have e:=List.drop_eq_getElem_cons (l:=init++[c]) (i:=init.length-(i+1)) (by simp;omega)
    rw[e,show init.length-(i+1)+1=init.length-i by omega]
    congr 1;rw[List.getElem_append_left (by omega)]
    have:init[init.length-1-i]? = some init[init.length-(i+1)]:=by rw[show init.length-1-i=init.length-(i+1) by omega,List.getElem?_eq_getElem]
    rw[hb] at this;exact(Option.some.inj this).symm
   obtain⟨c1,rest,hc1⟩:∃c1 rest,(init++[c]).drop (init.length-i)=c1::rest:=by
    cases h:(init++[c]).drop (init.length-i) with
    |nil=>have:=congrArg List.length h;simp at this;omega
    |cons c1 rest=>exact⟨c1,rest,rfl⟩
   rw[hc1] at fl3 hdr;have hc1m:c1∈init++[c]:=List.mem_of_mem_drop (by rw[hc1];exact List.mem_cons_self ..)
   cases fl3 with
   |@cons _ _ qs pss fdc flr=>
   have g3:G3 a=some (.dkk (Ao qs)):=by cases d3 with|cons h _=>exact h
   have e3:Bb G3 (.ref pf) (-1)=some (.ref a):=by rw[As f3,List.map_append];exact Bw _ _
   have hql:qs.length≤100:=by have:=fdc.len;have:=lnc c1 hc1m;omega
   have nap:a≠pf:=fun z=>by rw[z,f3] at g3;cases g3
   simp![];intro p2 hp2;have npf:p2≠pf:=fun z=>by rw[z] at hp2;rw[f3] at hp2;cases hp2
   have npa:p2≠a:=fun z=>by rw[z] at hp2;rw[g3] at hp2;cases hp2
   have ndb:=ndc b hbm;refine⟨b.map D.int,rfl,?_⟩;refine A4 (fun j σ G'=>∃rs v4 v5,σ=[some (.tup ((init++[c]).map Ah)),some (.ref pf),some (Ah b),some (.ref p2),v4,v5]∧Ab G3 p2 (.dkk (Ao rs))=G'∧FD (b.take j) (c1::rest) rs) ⟨[],v4,v5,rfl,rfl,⟨by simp,fun q hq=>by simp at hq⟩⟩ (fun _ _ _ _ _=>rfl) ?_ ?_
   ·rintro j x σ _ hx ⟨rs,v4,v5,rfl,rfl,fdj⟩;rw[List.getElem?_map] at hx;obtain⟨r,hr,rfl⟩:=Option.map_eq_some_iff.mp hx;have tk:b.take (j+1)=b.take j++[r]:=by rw[List.take_add_one,hr];rfl
    have ga:Ab G3 p2 (.dkk (Ao rs)) a=some (.dkk (Ao qs)):=by rw[Ag npa.symm];exact g3
    have e4:Bb (Ab G3 p2 (.dkk (Ao rs))) (.ref pf) (-1)=some (.ref a):=by rw[As (by rw[Ag npf.symm];exact f3),List.map_append];exact Bw _ _
    simp![e4];refine⟨a,qs,r,rfl,ga,hql,fun e0=>?_,fun M hM least=>?_⟩
    ·refine it1 (by decide) (Fs.of ⟨rs,_,_,rfl,rfl,⟨?_,fdj.few⟩⟩)
     rw[tk,List.filter_append,←fdj.keys]
     have:=J4 fdc e0
     simp[this]
    ·obtain⟨_,_,_,few⟩:=Mw fdc hM least;have hrl:rs.length≤100:=by have:=fdj.len;rw[List.length_take] at this;have:=lnc b hbm;omega
     refine it0 (by rfl) ?_
     refine⟨.int M.1,rfl,_,Aa,by simp only[Ao,List.length_map];exact B7 (by omega),?_⟩
     have hnot:(Sum.inl r:Key) ∉ (Ao rs).map (·.1):=fun z=>by
      obtain⟨q,hq,eq⟩:=List.mem_map.mp z;obtain⟨q',hq',rfl⟩:=List.mem_map.mp hq;have eq:q'.1=r:=Sum.inl.inj eq;have hm:r∈rs.map (·.1):=List.mem_map.mpr ⟨q',hq',eq⟩;rw[fdj.keys] at hm;obtain⟨jj,hj1,hj2⟩:=List.mem_take_iff_getElem.mp (List.mem_filter.mp hm).1;have e1:b[jj]? = some r:=by rw[List.getElem?_eq_getElem (by omega),hj2]
      have:=(List.getElem?_inj (i:=jj) (j:=j) (by omega) ndb).mp (e1.trans hr.symm)
      omega
     rw[E7 hnot,B9];have et:Ao rs++[(Sum.inl r,D.int M.1)]=Ao (rs++[(r,M.1)]):=by simp[Ao]
     rw[et];refine Fs.of ⟨rs++[(r,M.1)],_,_,rfl,rfl,⟨?_,fun q hq=>?_⟩⟩
     ·rw[tk,List.filter_append,List.map_append,fdj.keys];obtain⟨w',hw',_⟩:=few.ex
      have:(Ac (some r) (c1::rest)).isEmpty=false:=by
       cases hz:Ac (some r) (c1::rest) with
       |nil=>rw[hz] at hw';simp at hw'
       |cons _ _=>rfl
      simp[this]
     ·rcases List.mem_append.mp hq with hq|hq
      ·exact fdj.few q hq
      ·simp at hq;subst hq;exact few
   ·rintro σ _ ⟨rs,v4,v5,rfl,rfl,fdj⟩;rw[List.length_map,List.take_length] at fdj;have f4:Ab G3 p2 (.dkk (Ao rs)) pf=some (.lst ((as++[a]).map D.ref)):=by rw[Ag npf.symm];exact f3
    simp![f4];have s4:Sub G3 (Ab G3 p2 (.dkk (Ao rs))):=Sub.new hp2;refine⟨⟨_,rfl⟩,by simp;exact B7 (by omega),Fs.of ⟨_,_,_,_,p2,as++[a],rs::qs::pss,rfl,Sub.over (s3.trans s4) fz _,by rw[Aa];simp,?_,by rw[hdr];exact .cons fdj (.cons fdc flr),?_,?_,by simp[hlen]⟩⟩
    ·rw[List.reverse_append];refine .cons (by rw[Ag npf];exact Aa) (DictsAt.put f4 (fun ps z=>by cases z) (d3.sub s4))
    ·rw[List.reverse_append,List.nodup_cons];refine⟨fun z=>?_,nd3⟩;obtain⟨ii,hii,e⟩:=List.getElem_of_mem z;have hlp:(a::as.reverse).length=(qs::pss).length:=Paired.length d3;have hii:ii<(a::as.reverse).length:=hii;obtain⟨a',ha',hd'⟩:=d3.get (i:=ii) (List.getElem?_eq_getElem (by omega))
     have:(a::as.reverse)[ii]? = some p2:=by rw[List.getElem?_eq_getElem hii];exact congrArg some e
     rw[this] at ha';cases ha';rw[hp2] at hd';cases hd'
    ·rw[List.reverse_append];intro b' hb';rcases List.mem_cons.mp hb' with rfl|hb'
     ·exact s3.none hp2
     ·exact fr3 b' hb'
  ·rintro σ G3 ⟨v2,v3,v4,v5,a,as,pss,rfl,s3,f3,d3,fl3,nd3,fr3,hlen⟩;simp![f3];rw[List.length_reverse,List.length_map,Nat.sub_self,List.drop_zero] at fl3;refine Fq.of (k pf (a::as.reverse) pss _ (Sub.over s3 fz _) (by rw[Aa];simp) (DictsAt.put f3 (fun ps z=>by cases z) d3) fl3 nd3 fr3)
theorem F3{n:Nat}{p:Addr}{ds:List D}{same:Gp→Prop}{g:DTG}{tf:DTT}{te:DTE}{σ:DSt}{G:Gp}{Q:DK}(f:D→D)(c:D→Bool)(hz:ds.length<sizeLine)(hsm:∀ys,same (Ab G p (.lst ys)))(hs:∀x ys,x∈ds→ys.length<sizeLine→∀(R1:D→Gp→Prop) (R2:Gp→Prop),(c x=true→R1 (f x) (Ab G p (.lst (ys++[f x]))))→(c x=false→R2 (Ab G p (.lst ys)))→
   g x (List.replicate n none++σ) (Ab G p (.lst ys)) fun σ2 G2=>P5 n σ σ2∧tf σ2 G2 fun b G3=>if b=true then te σ2 G3 fun y G4=>G4 p=some (.lst ys)∧ys.length<sizeLine∧Fg (R1 y) (Ab G4 p (.lst (ys++[y]))) else Fg R2 G3)(hq:Q (.ref p) (Ab G p (.lst ((ds.filter c).map f)))):Ef n p ds same g tf te σ (Ab G p (.lst [])) Q:=by
 refine⟨fun i ys G'=>ys=((ds.take i).filter c).map f∧Ab G p (.lst ys)=G',⟨rfl,rfl⟩,?_,?_,?_⟩
 ·rintro i ys _ _ ⟨_,rfl⟩;exact⟨hsm ys,Aa⟩
 ·rintro i x ys _ hx ⟨e,rfl⟩;have hi:=(List.getElem?_eq_some_iff.mp hx).1;have hl:ys.length<sizeLine:=by
   rw[e,List.length_map];refine Nat.lt_of_le_of_lt (List.length_filter_le _ _) ?_;rw[List.length_take];omega
  have tk:ds.take (i+1)=ds.take i++[x]:=by rw[List.take_add_one,hx];rfl
  refine hs x ys (List.mem_of_getElem? hx) hl (fun y G'=>ys++[y]=((ds.take (i+1)).filter c).map f∧Ab G p (.lst (ys++[y]))=G') (fun G'=>ys=((ds.take (i+1)).filter c).map f∧Ab G p (.lst ys)=G') (fun hc=>⟨?_,rfl⟩) (fun hc=>⟨?_,rfl⟩)
  ·rw[tk,List.filter_append,List.map_append,←e];simp[hc]
  ·rw[tk,List.filter_append,List.map_append,←e];simp[hc]
 ·rintro ys _ ⟨e,rfl⟩;rw[List.take_length] at e;rw[e];exact hq
theorem Fu{G:Gp}{p:Addr}{ds:List D}{lo hi:Option Int}{Q:DK}(h:G p=some (.lst ds))(k:∀q,G q=none→Q (.ref q) (Ab G q (.lst (Cc ds lo hi)))):Fl G (.ref p) lo hi Q:=by simp only[Fl,h];exact k
theorem FDL.get:∀{cs:List (List Int)} {pss:List (List (Int×Int))},FDL cs pss→∀{i:Nat} {c:List Int} {ps:List (Int×Int)},cs[i]? = some c→pss[i]? = some ps→FD c (cs.drop (i+1)) ps
 |_,_,.cons h t,0,c,ps,e1,e2=>by simp at e1 e2;subst e1;subst e2;exact h
 |_,_,.cons h t,i+1,c,ps,e1,e2=>by simpa using FDL.get t (i:=i) (by simpa using e1) (by simpa using e2)
theorem FewIs.one{r:Int}{cs:List (List Int)}{a b:Int}(h:FewIs r cs a)(h2:FewIs r cs b):a=b:=by
 obtain⟨w1,m1,e1⟩:=h.ex;obtain⟨w2,m2,e2⟩:=h2.ex
 have:=h.le w2 m2
 have:=h2.le w1 m1
 omega
theorem Ig{G:Gp}{a b:Addr}(h:b≠a):Fj G a b=G b:=by unfold Fj;rw[if_neg h]
theorem Sub.del{G0 G:Gp}{a:Addr}(s:Sub G0 G)(h:G0 a=none):Sub G0 (Fj G a):=fun b o e=>by
 rw[Ig (gne e h)];exact s b o e
theorem Xe(ps:List (Int×Int)):(Ao ps).map U4=ps.map Bc:=by
 unfold Ao;rw[List.map_map];rfl
def Yc:D→Int×Int
 |.tup [.int x,.int y]=>(x,y)
 |_=>(0,0)
def Tk:Option Int→Int→Int
 |none,_=>0
 |some a,r=>Bj a r
structure NextR(p:Option Int)(c:List Int)(cs:List (List Int))(r:Int):Prop where
 mem:r∈c
 ok:okp p r=true
 few:∃b,FewIs r cs b∧∀y b',y∈c→okp p y=true→FewIs y cs b'→¬A6 (b'+Tk p y,y) (b+Tk p r,r)
theorem NextR.one{p:Option Int}{c:List Int}{cs:List (List Int)}{r r':Int}(h:NextR p c cs r)(h':NextR p c cs r'):r=r':=by
 obtain⟨b,f,l⟩:=h.few;obtain⟨b',f',l'⟩:=h'.few;have h1:=l r' b' h'.mem h'.ok f';have h2:=l' r b h.mem h.ok f;unfold A6 at h1 h2;simp only at h1 h2;omega
inductive Gr:Option Int→List (List Int)→List Int→Prop
 |nil {p:Option Int}:Gr p [] []
 |cons {p:Option Int} {c:List Int} {cs:List (List Int)} {r:Int} {w:List Int}:NextR p c cs r→Gr (some r) cs w→Gr p (c::cs) (r::w)
theorem Gr.one:∀{cs:List (List Int)} {p:Option Int} {w v:List Int},Gr p cs w→Gr p cs v→w=v
 |[],_,_,_,.nil,.nil=>rfl
 |_::_,_,_,_,.cons n1 t1,.cons n2 t2=>by
  have e:=n1.one n2;subst e;rw[t1.one t2]
def StQ(cs rest:List (List Int))(t:D)(p5 q:Addr)(as:List Addr)(pss:List (List (Int×Int)))(G:Gp)(o1 o2 o3:Option D)(i:Nat)(σ:DSt)(G':Gp):Prop:=∃(v:List Int) (r b:Int) (v5:Option D),σ=[some t,o1,o2,o3,some (.ref q),v5]∧Sub G G'∧G' p5=some (.lst (as.map D.ref))∧G' q=some (.lst ((v++[r]).map D.int))∧DictsAt G' as pss∧v.length=i∧
 FewIs r (rest.drop i) b∧∀w,Gr (some r) (rest.drop i) w→Gr none cs (v++r::w)
abbrev s_straightest:Stmt:=top 41
abbrev Jr:List Str:=["channel", "onward", "fewest", "start", "way", "inward"]
abbrev p_straightest:List Str:=["channel"]
theorem sc_straightest:FnScope Jr p_straightest (Ad s_straightest):=⟨rfl,rfl,rfl,by decide +kernel,rfl,by decide +kernel,by decide +kernel⟩
theorem nd_straightest_1:((["row", "bends"]:List Str)++(["channel", "onward", "fewest", "start", "way", "inward"]:List Str)).Nodup:=by decide +kernel
def spStraight:DSp:=fun ds G Q _=>∃cs,ds=[chD cs]∧ChanN cs∧(Ac none cs=[]→Q .non G)∧∀w,Gr none cs w→Q (Ah w) G
theorem Nz{f:Addr}{fd:FuncData}(F:Fun K "straightest" "straightest" s_straightest f fd)(T:Nums mg)(Aic:Def P w K mg base CX0 5 "check_channel" p_check_channel spCheckC)(Ais:Def P w K mg base CX0 3 "bends_onward" p_bends_onward spBends)(Aii:Def P w K mg base CX0 2 "step_on" Bz Kx):FnOk P w K mg base CX0 6 f fd p_straightest (Ak K spStraight):=by
 refine okD F sc_straightest (fun ds G Q E h=>?_) (fun cdv A outer s H XE ds G Q E hr h=>?_)
 ·obtain⟨cs,rfl,_⟩:=h;rfl
 ·obtain⟨cs,rfl,ok,k0,k⟩:=h;refine⟨_,#["c",#["p",#["f",Aic,hr,#["b",#["a",0]]]],#["c",#["i",1,sc_straightest.nd,#["f",Ais,hr,#["b",#["a",0]]]],#["c",#["ab",#["s",#["o",#["n",#["a",1]]]]],#["c",#["C",#["R",(@c_minP _ _ rfl hr),T,#["b",#["aJ",["row", "bends"],["channel", "onward", "fewest", "start", "way", "inward"],#["n",#["a",1]],#["D",2,#["E",#["k",0,nd_straightest_1],#["F",#["k",1,nd_straightest_1]]]],#["u",#["d",#["a",1],#["b",#["a",0]]]]]]],#["D",2,#["E",#["j",2,sc_straightest.nd],#["F",#["j",3,sc_straightest.nd]]]]],#["c",#["i",4,sc_straightest.nd,#["r",#["b",#["a",3]]]],#["c",#["z",#["N",#["a",1]],#["j",5,sc_straightest.nd],#["e",#["p",#["y",#["a",4],#["n",#["f",Aii,hr,#["d",#["a",5],#["b",#["t",#["a",4]]]]]]]]]],#["e",#["h",#["O",T,#["b",#["a",4]]]]]]]]]]],?_⟩;have sz1:1≤sizeLine:=szl (by decide)
  have sz2:=sz2;simp![sz1];refine⟨_,rfl,T3,Lc ok,ok.chan,cs,rfl,ok,fun p as pss G1 sb hp d fl nd fr=>?_⟩;have lnc:=ok.len;have hhi:=ok.hi;obtain⟨c,rest,rfl,hrest⟩:=ok.head;cases fl with
  |@cons _ _ ps0 pss fd0 flr=>
  obtain⟨a0,as,rfl⟩:∃a0 as',as=a0::as':=by
   cases as with
   |nil=>cases d
   |cons a0 as=>exact⟨a0,as,rfl⟩
  have h0:G1 a0=some (.dkk (Ao ps0)):=by cases d with|cons h _=>exact h
  have dr:DictsAt G1 as pss:=by cases d with|cons _ t=>exact t
  have e0:Bb G1 (.ref p) 0=some (.ref a0):=by rw[As hp,List.map_cons];exact Od
  have t0:Kp G1 (.ref a0)=some (!(Ao ps0).isEmpty):=by simp only[Kp,h0]
  have npa:p≠a0:=fun z=>by rw[z,h0] at hp;cases hp
  simp![e0,h0,t0];cases hps:ps0 with
  |nil=>
   refine it0 (by rfl) ⟨G,sb,k0 ?_⟩
   rw[List.eq_nil_iff_forall_not_mem];intro u hu;obtain⟨y,v,rfl,hy,_,hv⟩:=mem_wfrom_cons.mp hu
   have:=(Ct fd0).mpr ⟨hy,v,hv⟩
   rw[hps] at this;simp at this
  |cons q0 qr=>
   rw[←hps];refine it1 (by rw[hps];simp[Ao]) ⟨_,rfl,fun p1 hp1=>?_⟩
   rw[Xe];have lp0:ps0.length≤9:=Nat.le_trans fd0.len (lnc c (by simp))
   have fr0:G a0=none:=fr a0 (by simp)
   have hp1G:G p1=none:=sb.none hp1;have na01:p1≠a0:=fun z=>by rw[z,h0] at hp1;cases hp1
   have npp1:p≠p1:=gne hp hp1;refine F3 (fun x=>Bc ((Yc x).2,(Yc x).1)) (fun _=>true) (by rw[List.length_map];exact B7 (by omega)) (fun _=>trivial) (fun x ys hx hlz R1 R2 g1 _=>?_) ?_
   ·obtain⟨o,ho,rfl⟩:=List.mem_map.mp hx;simp![sz2];exact⟨_,rfl,rfl,_,_,rfl,_,_,rfl,rfl,⟨[_,_],rfl,rfl⟩,hlz,Fg.of (g1 rfl)⟩
   ·have em:((ps0.map Bc).filter fun _=>true).map (fun x=>Bc ((Yc x).2,(Yc x).1))=(ps0.map fun q=>(q.2,q.1)).map Bc:=by
     rw[Bd,List.map_map,List.map_map];rfl
    rw[em];refine⟨p1,rfl,_,Aa,by rw[List.length_map,hps];simp,fun M hM least=>⟨_,rfl,rfl,_,_,rfl,_,_,rfl,rfl,fun q hq=>?_⟩⟩
    obtain⟨m0,hm0,rfl⟩:=List.mem_map.mp hM;have few0:=fd0.few m0 hm0;have hm0c:m0.1∈c:=((Ct fd0).mp (List.mem_map.mpr ⟨m0,hm0,rfl⟩)).1;have nx0:NextR none c rest m0.1:=⟨hm0c,rfl,m0.2,few0,fun y b' hy _ hb=>by
     obtain⟨v,hv,_⟩:=hb.ex;have hky:=(Ct fd0).mpr ⟨hy,v,hv⟩;have h1:=least _ (List.mem_map.mpr ⟨_,Ek hky,rfl⟩);have h2:=FewIs.one (fd0.few _ (Ek hky)) hb;have h2:vI ps0 y=b':=h2;unfold A6 at h1 ⊢;simp only[Tk] at h1 ⊢;omega⟩
    have sb2:Sub G (Ab (Fj G1 a0) p1 (.lst ((ps0.map fun q=>(q.2,q.1)).map Bc))):=Sub.over (Sub.del sb fr0) hp1G _;have hp2:Ab (Fj G1 a0) p1 (.lst ((ps0.map fun q=>(q.2,q.1)).map Bc)) p=some (.lst ((a0::as).map D.ref)):=by rw[Ag npp1,Ig npa];exact hp
    have nda:a0 ∉ as:=(List.nodup_cons.mp nd).1;have d2:DictsAt (Ab (Fj G1 a0) p1 (.lst ((ps0.map fun q=>(q.2,q.1)).map Bc))) as pss:=by
     have:∀{as:List Addr} {pss:List (List (Int×Int))},DictsAt G1 as pss→a0 ∉ as→DictsAt (Ab (Fj G1 a0) p1 (.lst ((ps0.map fun q=>(q.2,q.1)).map Bc))) as pss:=fun {as pss} h=>by
      induction h with
      |nil=>exact fun _=>.nil
      |cons h t ih=>exact fun hn=>.cons (by rw[Ag (gne h hp1),Ig fun z=>hn (by simp[z])];exact h) (ih fun z=>hn (by simp[z]))
     exact this dr nda
    generalize Ab (Fj G1 a0) p1 (.lst ((ps0.map fun q=>(q.2,q.1)).map Bc))=G2 at *;have hqG:=sb2.none hq;have sb3:=sb2.skip (o:=.lst [.int m0.1]) hq;have hp3:=Ai (u:=.lst [.int m0.1]) hp2 hq;have hq3:Ab G2 q (.lst [.int m0.1]) q=some (.lst (([]++[m0.1]).map D.int)):=Aa;have d3:=d2.sub (Sub.new (o:=.lst [.int m0.1]) hq);generalize Ab G2 q (.lst [.int m0.1])=G3 at *;refine Fu hp3 fun p5 hp5=>?_;have cut1:Cc ((a0::as).map D.ref) (some 1) none=as.map D.ref:=by rw[Hh];rfl
    rw[cut1];have n5q:p5≠q:=fun z=>by rw[z] at hp5;rw[hq3] at hp5;cases hp5
    have sb5:=sb3.skip (o:=.lst (as.map D.ref)) hp5;have h5:Ab G3 p5 (.lst (as.map D.ref)) p5=some (.lst (as.map D.ref)):=Aa;have hq5:=Ai (u:=.lst (as.map D.ref)) hq3 hp5;have d5:=d3.sub (Sub.new (o:=.lst (as.map D.ref)) hp5);generalize Ab G3 p5 (.lst (as.map D.ref))=G5 at *;refine⟨_,Am h5,?_⟩;have hasl:as.length=rest.length:=by have h1:as.length=pss.length:=Paired.length dr;rw[h1,←flr.len]
    have hrl:rest.length≤15:=by rw[List.length_cons] at hhi;omega
    refine A4 (StQ (c::rest) rest (chD (c::rest)) p5 q as pss G (some (.ref p)) (some (.int m0.2)) (some (.int m0.1))) ⟨[],m0.1,m0.2,none,rfl,sb5,h5,hq5,d5,rfl,few0,fun u hu=>.cons nx0 hu⟩ ?_ ?_ ?_
    ·rintro i σ G6 _ ⟨v,r,b,v5,rfl,_,h6,_⟩;exact Am h6
    ·rintro i x σ G6 hx ⟨v,r,b,v5,rfl,s6,h6,hq6,d6,hvl,few,hjoin⟩;rw[List.getElem?_map] at hx;obtain⟨a,ha,rfl⟩:=Option.map_eq_some_iff.mp hx;have hil:i<rest.length:=by rw[←hasl];exact(List.getElem?_eq_some_iff.mp ha).1
     have hdr:rest.drop i=rest[i]::rest.drop (i+1):=List.drop_eq_getElem_cons hil;have hpl:i<pss.length:=by rw[←flr.len];exact hil
     obtain⟨a',ha',hd'⟩:=d6.get (i:=i) (List.getElem?_eq_getElem hpl);rw[ha] at ha';cases ha';have fdi:=flr.get (List.getElem?_eq_getElem hil) (List.getElem?_eq_getElem hpl);rw[hdr] at few hjoin;have eq6:Bb G6 (.ref q) (-1)=some (.int r):=by rw[As hq6,List.map_append];exact Bw _ _
     simp![eq6,hq6];refine⟨⟨_,rfl⟩,a,_,r,rfl,hd',by have:=fdi.len;have:=lnc rest[i] (by simp);omega,fun e0=>?_,fun M hM2 least2=>?_⟩
     ·obtain⟨w',hw',_⟩:=few.ex;rw[J4 fdi e0] at hw';simp at hw'
     ·obtain⟨mc,mn,fw2,fw1⟩:=Mw fdi hM2 least2;have eb:=FewIs.one fw1 few;refine⟨.int M.2,rfl,_,hq6,by rw[List.length_map];exact B7 (by simp;omega),Fs.of ⟨v++[r],M.2,M.1-Bj r M.2,_,rfl,Sub.over s6 hqG _,by rw[Ag n5q];exact h6,by rw[Aa,List.map_append (l₁:=v++[r])];rfl,DictsAt.put hq6 (fun ps z=>by cases z) d6,by rw[List.length_append,hvl];rfl,fw2,fun u hu=>?_⟩⟩
      rw[List.append_assoc];refine hjoin _ (.cons ⟨mc,mn,_,fw2,fun y b' hy hyn hb=>?_⟩ hu);obtain⟨v',hv',_⟩:=hb.ex;have hky:=(Ct fdi).mpr ⟨hy,v',hv'⟩;have h1:=least2 _ (List.mem_map.mpr ⟨y,List.mem_filter.mpr ⟨hky,hyn⟩,rfl⟩);have h2:=FewIs.one (fdi.few _ (Ek hky)) hb;have h2:vI _ y=b':=h2;unfold A6 at h1 ⊢;simp only[Tk] at h1 ⊢;omega
    ·rintro σ G6 ⟨v,r,b,v5,rfl,s6,h6,hq6,d6,hvl,few,hjoin⟩;rw[List.length_map,hasl,List.drop_of_length_le (Nat.le_refl _)] at few hjoin;simp![Am hq6];exact⟨G,s6,k (v++[r]) (hjoin [] .nil)⟩
structure WayOk(cs:List (List Int))(ws:List Int):Prop where
 chan:Mq (chD cs)=true
 len:ws.length=cs.length
 small:cs.length≤16∧∀c∈cs,c.length≤9
 row:∀(i:Nat) r c,ws[i]? = some r→cs[i]? = some c→(0≤r∧r≤8)∧r∈c
 step:∀(i:Nat) r t,ws[i]? = some r→ws[i+1]? = some t→t-r≤1∧r-t≤1
theorem Wy.ok{cs:List (List Int)}{ws:List Int}(h:Wy cs ws)(ok:ChanN cs):WayOk cs ws:=⟨ok.chan,h.len,⟨ok.hi,ok.len⟩,fun i r c e1 e2=>⟨(ok.rw c (List.mem_of_getElem? e2)).1 r (h.mem i r c e1 e2),h.mem i r c e1 e2⟩,fun i r t e1 e2=>by have:=near_iff.mp (h.nr i r t e1 e2);omega⟩
structure GatesOk(cs:List (List Int))(gs:List (Int×Int)):Prop where
 len:gs.length=cs.length
 lo:∀(i:Nat) g,gs[i]? = some g→∃w,Wy cs w∧w[i]? = some g.1
 hi:∀(i:Nat) g,gs[i]? = some g→∃w,Wy cs w∧w[i]? = some g.2
 inn:∀(i:Nat) g w r,gs[i]? = some g→Wy cs w→w[i]? = some r→g.1≤r∧r≤g.2
theorem Qv{G:Gp}{p q:Addr}{xs ys:List D}(h:G p=some (.lst xs))(h2:G q=some (.lst ys)):A7 G [.ref p,.ref q]=some [xs,ys]:=by
 simp only[A7,Ar,h,h2]
def GtQ(cs:List (List Int))(t:D)(p1 p2 q:Addr)(rs:List (List Int))(as:List Addr)(G:Gp)(o1:Option D)(i:Nat)(σ:DSt)(G':Gp):Prop:=∃(gs:List (Int×Int)) (v3 v4 v5:Option D),σ=[some t,o1,some (.ref q),v3,v4,v5]∧Sub G G'∧G' p1=some (.lst (rs.map Ah))∧G' p2=some (.lst (as.map D.ref))∧G' q=some (.lst (gs.map Bc))∧DictsAt G' as (onL cs)∧gs.length=i∧
 ∀(j:Nat) g,gs[j]? = some g→(∃w,Wy cs w∧w[j]? = some g.1)∧(∃w,Wy cs w∧w[j]? = some g.2)∧∀w r,Wy cs w→w[j]? = some r→g.1≤r∧r≤g.2
abbrev s_gates:Stmt:=top 42
abbrev Aax:List Str:=["channel", "reached", "told", "rows", "onward", "passed"]
abbrev D1:List Str:=["channel"]
theorem sc_gates:FnScope Aax D1 (Ad s_gates):=⟨rfl,rfl,rfl,by decide +kernel,rfl,by decide +kernel,by decide +kernel⟩
theorem nd_gates_1:((["row"]:List Str)++(["channel", "reached", "told", "rows", "onward", "passed"]:List Str)).Nodup:=by decide +kernel
def Li:DSp:=fun ds G Q _=>∃cs,ds=[chD cs]∧ChanN cs∧(Ac none cs=[]→Q .non G)∧(Ac none cs≠[]→∀p gs G',GatesOk cs gs→Sub G G'→G p=none→G' p=some (.lst (gs.map Bc))→Q (.ref p) G')
theorem Ww{f:Addr}{fd:FuncData}(F:Fun K "gates" "gates" s_gates f fd)(T:Nums mg)(Aic:Def P w K mg base CX0 5 "check_channel" p_check_channel spCheckC)(Ait:Def P w K mg base CX0 3 "rows_reached" p_rows_reached spReached)(Aid:Def P w K mg base CX0 2 "ways_onward" p_ways_onward spOnward):FnOk P w K mg base CX0 6 f fd D1 (Ak K Li):=by
 refine okD F sc_gates (fun ds G Q E h=>?_) (fun cdv A outer s H XE ds G Q E hr h=>?_)
 ·obtain⟨cs,rfl,_⟩:=h;rfl
 ·obtain⟨cs,rfl,ok,k0,k⟩:=h;refine⟨_,#["c",#["p",#["f",Aic,hr,#["b",#["a",0]]]],#["c",#["i",1,sc_gates.nd,#["f",Ait,hr,#["b",#["a",0]]]],#["c",#["ab",#["s",#["o",#["t",#["a",1]]]]],#["c",#["1",2,sc_gates.nd],#["c",#["ao",T,#["d",#["a",1],#["b",#["f",Aid,hr,#["b",#["a",0]]]]],#["D",2,#["E",#["j",3,sc_gates.nd],#["F",#["3",4,sc_gates.nd]]]],#["c",#["aK",["row"],["channel", "reached", "told", "rows", "onward", "passed"],5,#["a",3],#["k",0,nd_gates_1],#["I",#["at",#["Q",#["g",5],#["a",0]]]],#["a",0],sc_gates.nd,(by first|exact .inl rfl|exact .inr rfl),(by first|exact .inl rfl|exact .inr rfl)],#["e",#["p",#["y",#["a",2],#["u",#["d",#["n",#["a",5]],#["b",#["t",#["a",5]]]]]]]]]],#["e",#["h",#["a",2]]]]]]]],?_⟩
  have sz0:0≤sizeLine:=Nat.zero_le _;have sz2:=sz2;simp![sz0];have lnc:=ok.len;have hhi:=ok.hi;obtain⟨c,rest,rfl,hrest⟩:=ok.head;refine⟨_,rfl,T3,Lc ok,ok.chan,c::rest,rfl,by simp,by omega,fun d hd=>by have:=lnc d hd;omega,fun p1 hp1=>?_⟩
  obtain⟨rw1,rfull⟩:=O6 (c:=c) hrest;have e1:Bb (Ab G p1 (.lst ((Br (c::rest)).map Ah))) (.ref p1) (-1)=some (Ah ((Br (c::rest)).getLastD [])):=by
   rw[As Aa];exact Qs (Vw _)
  simp![e1];refine⟨!((Br (c::rest)).getLastD []).isEmpty,by cases h:(Br (c::rest)).getLastD []<;>rfl,?_⟩
  cases hlast:((Br (c::rest)).getLastD []).isEmpty with
  |true=>exact it0 (by simp) ⟨G,Sub.new hp1,k0 (rw1.mp hlast)⟩
  |false=>
   refine it1 (by simp) ?_
   have hne:Ac none (c::rest)≠[]:=fun z=>by rw[rw1.mpr z] at hlast;cases hlast
   rw[rfull hlast];have sb1:Sub G (Ab G p1 (.lst ((c::rch c rest).map Ah))):=Sub.new hp1;have f1:Ab G p1 (.lst ((c::rch c rest).map Ah)) p1=some (.lst ((c::rch c rest).map Ah)):=Aa;generalize Ab G p1 (.lst ((c::rch c rest).map Ah))=G1 at *;intro q hq;have hqG:=sb1.none hq;refine⟨c::rest,rfl,ok,fun p2 as G2 sb2 hp2 d=>⟨_,Qv (sb2 _ _ (Ai f1 hq)) hp2,?_⟩⟩;have f2:=sb2 _ _ (Ai (u:=.lst []) f1 hq);have q2:G2 q=some (.lst []):=sb2 _ _ Aa;have sbG:Sub G G2:=(sb1.skip hq).trans sb2;have has:as.length=rest.length+1:=by have:=Paired.length d;rw[Lo] at this;exact this
   have nq1:p1≠q:=gne f1 hq;have nq2:p2≠q:=fun z=>by
    rw[z,q2] at hp2;cases as with
    |nil=>simp at has
    |cons _ _=>cases hp2
   have hup:∀R∈c::rch c rest,R.Pairwise (· < ·)∧R.length≤9:=fun R hR=>by
    rcases List.mem_cons.mp hR with rfl|hR
    ·exact⟨ok.up R (by simp),lnc R (by simp)⟩
    ·obtain⟨e,he,sub⟩:=Qd hR;exact⟨(ok.up e (by simp[he])).sublist sub,Nat.le_trans sub.length_le (lnc e (by simp[he]))⟩
   have hrl:rest.length≤15:=by rw[List.length_cons] at hhi;omega
   refine A4 (GtQ (c::rest) (chD (c::rest)) p1 p2 q (c::rch c rest) as G (some (.ref p1))) ⟨[],none,none,none,rfl,sbG,f2,hp2,q2,d,rfl,fun j g e=>by simp at e⟩ ?_ ?_ ?_
   ·rintro i σ G3 _ ⟨gs,v3,v4,v5,rfl,_,h1,h2,_⟩;exact Qv h1 h2
   ·rintro i x σ G3 hx ⟨gs,v3,v4,v5,rfl,s3,h1,h2,h3,d3,hgl,hgs⟩;obtain⟨u1,u2,e1,e2,rfl⟩:=Of hx;rw[List.getElem?_map] at e1 e2;obtain⟨R,hR,rfl⟩:=Option.map_eq_some_iff.mp e1;obtain⟨a,ha,rfl⟩:=Option.map_eq_some_iff.mp e2;have hil:i<(c::rest).length:=by rw[List.length_cons,←has];exact(List.getElem?_eq_some_iff.mp ha).1
    have hci:(c::rest)[i]? = some (c::rest)[i]:=List.getElem?_eq_getElem hil;obtain⟨a',ha',hd'⟩:=d3.get (Lp hci);rw[ha] at ha';cases ha';have hRm:=List.mem_of_getElem? hR;obtain⟨hRup,hRl⟩:=hup R hRm;have hRc:∀r∈R,r∈(c::rest)[i]:=fun r hr=>by
     obtain⟨u,hu,e⟩:=(Hy hR).mp hr;exact hu.mem i r _ e (by rw[List.getElem?_take,if_pos (by omega)];exact hci)
    have keys:((c::rest)[i].map fun r=>(r,((Ac (some r) ((c::rest).drop (i+1))).length:Int))).map (·.1)=(c::rest)[i]:=Ca;have hpass:∀r,r∈R.filter (fun r=>decide (0<(Ac (some r) ((c::rest).drop (i+1))).length))↔∃w,Wy (c::rest) w∧w[i]? = some r:=fun r=>by
     rw[List.mem_filter,decide_eq_true_eq];exact passed hR
    simp![];refine⟨R.map D.int,rfl,fun p4 hp4=>?_⟩;refine F3 id (fun d=>decide (0<(Ac (some (A0 d)) ((c::rest).drop (i+1))).length)) (by rw[List.length_map];exact B7 (by omega)) (fun _=>rfl) (fun x ys hx hlz R1 R2 g1 g2=>?_) ?_
    ·obtain⟨o,ho,rfl⟩:=List.mem_map.mp hx;have ga:=Ai (u:=.lst ys) hd' hp4;simp![ga];refine⟨⟨[_],rfl,rfl⟩,_,rfl,_,Gy (by rw[keys];exact hRc o ho),_,rfl,?_⟩
     rw[Fk (hRc o ho)]
     by_cases hz:0<(Ac (some o) ((c::rest).drop (i+1))).length
     ·exact it0 (by omega) ⟨hlz,Fg.of (g1 (decide_eq_true hz))⟩
     ·exact it1 (by omega) (Fg.of (g2 (decide_eq_false hz)))
    ·have em:((R.map D.int).filter fun d=>decide (0<(Ac (some (A0 d)) ((c::rest).drop (i+1))).length)).map id=(R.filter fun r=>decide (0<(Ac (some r) ((c::rest).drop (i+1))).length)).map D.int:=by
      rw[List.map_id,List.filter_map];rfl
     rw[em];have hPup:(R.filter fun r=>decide (0<(Ac (some r) ((c::rest).drop (i+1))).length)).Pairwise (· < ·):=hRup.filter _;generalize R.filter (fun r=>decide (0<(Ac (some r) ((c::rest).drop (i+1))).length))=Ps at *;obtain⟨w0,hw0⟩:=List.exists_mem_of_ne_nil _ hne;have hw0:=mem_ways.mp hw0;have hPne:Ps≠[]:=fun z=>by
      have:w0[i]? = some (w0[i]'(by rw[hw0.len];exact hil)):=List.getElem?_eq_getElem _
      have:=(hpass _).mpr ⟨w0,hw0,this⟩
      rw[z] at this;simp at this
     obtain⟨init,l,el⟩:=B0 hPne;obtain⟨y,t,ey⟩:∃y t,Ps=y::t:=by
      cases Ps with
      |nil=>exact absurd rfl hPne
      |cons y t=>exact⟨y,t,rfl⟩
     have f4:Ab G3 p4 (.lst (Ps.map D.int)) p4=some (.lst (Ps.map D.int)):=Aa;have s4:Sub G3 (Ab G3 p4 (.lst (Ps.map D.int))):=Sub.new hp4;have i0:Bb (Ab G3 p4 (.lst (Ps.map D.int))) (.ref p4) 0=some (.int y):=by rw[As f4,ey,List.map_cons];exact Od
     have i1:Bb (Ab G3 p4 (.lst (Ps.map D.int))) (.ref p4) (-1)=some (.int l):=by rw[As f4,el,List.map_append];exact Bw _ _
     generalize Ab G3 p4 (.lst (Ps.map D.int))=G4 at *;have q4:=s4 _ _ h3;simp![q4,i0,i1,sz2];refine⟨⟨_,rfl⟩,by rw[List.length_map];exact B7 (by omega),Fs.of ⟨gs++[(y,l)],_,_,_,rfl,Sub.over (s3.trans s4) hqG _,by rw[Ag nq1];exact s4 _ _ h1,by rw[Ag nq2];exact s4 _ _ h2,by rw[Aa,List.map_append];rfl,DictsAt.put q4 (fun ps z=>by cases z) (d3.sub s4),by rw[List.length_append,hgl];rfl,fun j g e=>?_⟩⟩
     by_cases hj:j<gs.length
     ·rw[List.getElem?_append_left hj] at e;exact hgs j g e
     ·have hji:j=i:=by
       have:=(List.getElem?_eq_some_iff.mp e).1
       rw[List.length_append,List.length_singleton] at this;omega
      subst hji;rw[List.getElem?_append_right (by omega),hgl,Nat.sub_self] at e
      simp at e;subst e;refine⟨(hpass y).mp (by rw[ey];exact List.mem_cons_self ..),(hpass l).mp (by rw[el];simp),fun u r hu eu=>?_⟩
      have hr:=(hpass r).mpr ⟨u,hu,eu⟩;constructor
      ·rw[ey] at hr hPup;rcases List.mem_cons.mp hr with rfl|hr
       ·exact Int.le_refl _
       ·exact Int.le_of_lt ((List.pairwise_cons.mp hPup).1 r hr)
      ·rw[el] at hr hPup;rcases List.mem_append.mp hr with hr|hr
       ·exact Int.le_of_lt ((List.pairwise_append.mp hPup).2.2 r hr l (by simp))
       ·simp at hr;subst hr;exact Int.le_refl _
   ·rintro σ G3 ⟨gs,v3,v4,v5,rfl,s3,h1,h2,h3,d3,hgl,hgs⟩;have hn:(C5 [(c::rch c rest).map Ah,as.map D.ref]).length=rest.length+1:=by rw[Cr];simp[Dj,has,D0]
    rw[hn] at hgl;simp![];exact Fq.of (k hne q gs G3 ⟨by rw[hgl,List.length_cons],fun i g e=>(hgs i g e).1,fun i g e=>(hgs i g e).2.1,fun i g u r e=>(hgs i g e).2.2 u r⟩ s3 hqG h3)
def RowOk(c:List Int):Prop:=(∀i∈c,0≤i∧i≤8)∧c.Pairwise (· < ·)
theorem RowOk.nil:RowOk []:=⟨by simp,.nil⟩
theorem Yv{xs:List (List Int)}{j:Nat}{y:List Int}:(xs.map Ah).set j (Ah y)=(xs.set j y).map Ah:=by rw[List.map_set]
abbrev s_L_channel:Stmt:=top 48
abbrev N9:List Str:=["_law_box_here", "_law_most", "_law_count_here", "_law_rows", "_law_found", "_law_thin", "_law_column"]
abbrev p_L_channel:List Str:=["_law_box_here", "_law_most"]
theorem sc_L_channel:FnScope N9 p_L_channel (Ad s_L_channel):=⟨rfl,rfl,rfl,by decide +kernel,rfl,by decide +kernel,by decide +kernel⟩
theorem nd_L_channel_1:((["_law_row"]:List Str)++(["_law_box_here", "_law_most", "_law_count_here", "_law_rows", "_law_found", "_law_thin", "_law_column"]:List Str)).Nodup:=by decide +kernel
def spLChan:DSp:=fun ds G Q _=>∃a m,ds=[.ref a,.int m]∧(∃b,G a=some (.lst [.int b]))∧2≤m∧m≤16∧∀cs G',Step a G G'→ChanN cs→(cs.length:Int)≤m→Q (chD cs) G'
theorem Wv{f:Addr}{fd:FuncData}(F:Fun K "_law_channel" "_law_channel" s_L_channel f fd)(T:Blt mg)(Aif:Def P w K mg base CX0 1 "_law_take" Da Kw):FnOk P w K mg base CX0 2 f fd p_L_channel (Ak K spLChan):=by
 refine okD F sc_L_channel (fun ds G Q E h=>?_) (fun cdv A outer s H XE ds G Q E hr h=>?_)
 ·obtain⟨a,m,rfl,_⟩:=h;rfl
 ·obtain⟨a,m,rfl,hG,m2,m16,q⟩:=h;refine⟨_,#["c",#["aL",2,3,4,sc_L_channel.nd,#["d",#["4",#["f",Aif,hr,#["d",#["g",0],#["b",#["2",#["a",1]]]]]],#["d",#["4",#["f",Aif,hr,#["G",#["g",0]]]],#["d",#["au"],(@qa_nil _)]]]],#["c",#["P",5,sc_L_channel.nd,#["4",#["f",Aif,hr,#["G",#["g",0]]]]],#["c",#["ad",T,#["b",#["a",2]],#["j",6,sc_L_channel.nd],#["e",#["p",#["y",#["a",4],#["O",T,#["b",#["aM",["_law_row"],["_law_box_here", "_law_most", "_law_count_here", "_law_rows", "_law_found", "_law_thin", "_law_column"],T,#["b",#["a",3]],#["k",0,nd_L_channel_1],#["I",#["at",#["f",Aif,hr,#["d",#["g",1],#["b",#["g",6]]]]]],#["a",0]]]]]]]],#["c",(@qs_ifM _ _ _ _ _ _ _ _ #["V",#["f",Aif,hr,#["G",#["g",0]]]] #["e",#["C",#["u",(@qa_nil _)],#["X",#["a",4],#["f",Aif,hr,#["d",#["g",0],#["b",#["a",2]]]],(@s_list _)]]] (@qss_nil _)),#["e",#["h",#["O",T,#["b",#["a",4]]]]]]]]],?_⟩;have sz0:0≤sizeLine:=szl (by decide)
  simp![sz0];refine Dw hG (by omega) (by omega) fun r1 b1 r10 r11=>?_
  have s1:=(Step.refl hG).take b1;generalize Ab G a (.lst [.int b1])=G1 at *;rw[Hj];refine Dw s1.box (by decide) (by decide) fun r2 b2 r20 r21=>?_
  have s2:=s1.take b2;generalize Ab G1 a (.lst [.int b2])=G2 at *;rw[Hj];intro pf hf;have nf:=Step.ne s2.box hf;have f0:=s2.back hf;have s3:=s2.lay (o:=.lst []) hf;have g3:Ab G2 pf (.lst []) pf=some (.lst []):=Aa;generalize Ab G2 pf (.lst [])=G3 at *;refine Dw s3.box (by decide) (by decide) fun r3 b3 r30 r31=>?_
  have s4:=s3.take b3;have g4:Ab G3 a (.lst [.int b3]) pf=some (.lst []):=by rw[Ag nf.symm];exact g3
  generalize Ab G3 a (.lst [.int b3])=G4 at *;simp![];refine⟨by omega,by omega,?_⟩
  refine Bm (fun i σ G'=>∃v,σ=[some (.ref a),some (.int m),some (.int (2+r1)),some (.int (1+r2)),some (.ref pf),some (.int (2+r3)),v]∧Step a G G'∧∃cs:List (List Int),G' pf=some (.lst (cs.map Ah))∧cs.length=i∧∀c∈cs,RowOk c) ⟨none,rfl,s4,[],g4,rfl,by simp⟩ ?_ ?_
  ·rintro i σ G5 hi ⟨v,rfl,s5,cs,g5,hl,hrw⟩;have szc:cs.length<sizeLine:=Nat.lt_of_le_of_lt (show cs.length≤100 by omega) (Bo (by decide))
   simp![g5];refine⟨⟨_,rfl⟩,by omega,by omega,fun pc hc=>?_⟩
   have c0:=s5.back hc;have nc:=Step.ne s5.box hc;have npf:pf≠pc:=gne g5 hc;refine⟨fun j ys G6=>∃ns:List Int,ys=ns.map D.int∧Step a G G6∧G6 pf=some (.lst (cs.map Ah))∧G6 pc=some (.lst ys)∧ns.Pairwise (· < ·)∧(∀k∈ns,0≤k∧k<(j:Int))∧ns.length≤j,⟨[],rfl,s5.lay hc,Ai g5 hc,Aa,.nil,by simp,Nat.zero_le _⟩,fun j ys G6 _ ⟨ns,_,_,_,e,_⟩=>⟨trivial,e⟩,?_,?_⟩
   ·rintro j x ys G6 hx ⟨ns,rfl,s6,g6,gc6,hp,hb,hnl⟩;have hj:j<(1+r2).toNat:=by
     have:=(List.getElem?_eq_some_iff.mp hx).1
     rw[Bq] at this;exact this
    rw[E3 hj] at hx;cases hx;simp![];refine⟨⟨[some (.int j)],rfl,rfl⟩,Dw s6.box (by omega) (by omega) fun r b' r0 r1'=>?_⟩
    have s7:=s6.take b';have g7:Ab G6 a (.lst [.int b']) pf=some (.lst (cs.map Ah)):=by rw[Ag nf.symm];exact g6
    have gc7:Ab G6 a (.lst [.int b']) pc=some (.lst (ns.map D.int)):=by rw[Ag nc.symm];exact gc6
    generalize Ab G6 a (.lst [.int b'])=G7 at *;simp![]
    by_cases hr:0<r
    ·rw[if_pos hr];refine⟨gc7,?_,Fg.of ⟨ns++[(j:Int)],by simp,s7.write c0 nc,?_,Aa,?_,?_,by simp;omega⟩⟩
     ·rw[List.length_map];exact Nat.lt_of_le_of_lt (show ns.length≤100 by omega) (Bo (by decide))
     ·rw[Ag npf];exact g7
     ·refine List.pairwise_append.mpr ⟨hp,by simp,fun x hx y hy=>?_⟩
      rw[List.mem_singleton.mp hy];exact(hb x hx).2
     ·intro k hk;rcases List.mem_append.mp hk with z|z
      ·have:=hb k z;omega
      ·rw[List.mem_singleton.mp z];omega
    ·rw[if_neg hr];exact Fg.of ⟨ns,rfl,s7,g7,gc7,hp,fun k hk=>by have:=hb k hk;omega,by omega⟩
   ·rintro ys G6 ⟨ns,rfl,s6,g6,gc6,hp,hb,hnl⟩;rw[Bq] at hb;have rok:RowOk ns:=⟨fun k hk=>by have:=hb k hk;omega,hp⟩
    simp![Am gc6,g6];refine⟨by rw[List.length_map];exact szc,Fs.of ⟨_,rfl,s6.write f0 nf,cs++[ns],by rw[Aa,List.map_append];rfl,by simp[hl],fun c hc=>?_⟩⟩
    rcases List.mem_append.mp hc with z|z
    ·exact hrw c z
    ·rw[List.mem_singleton.mp z];exact rok
  ·rintro σ G5 ⟨v,rfl,s5,cs,g5,hl,hrw⟩;have hlc:(cs.length:Int)=2+r1:=by omega
   simp![];refine⟨fun σ' G'=>∃v,σ'=[some (.ref a),some (.int m),some (.int (2+r1)),some (.int (1+r2)),some (.ref pf),some (.int (2+r3)),v]∧Step a G G'∧∃cs:List (List Int),G' pf=some (.lst (cs.map Ah))∧(cs.length:Int)=2+r1∧∀c∈cs,RowOk c,?_,?_⟩
   ·refine Dw s5.box (by decide) (by decide) fun r b' r0 r1'=>?_
    have s6:=s5.take b';have g6:Ab G5 a (.lst [.int b']) pf=some (.lst (cs.map Ah)):=by rw[Ag nf.symm];exact g5
    generalize Ab G5 a (.lst [.int b'])=G6 at *;simp![]
    by_cases h5:r=5
    ·rw[if_pos h5];refine⟨sz0,Dw (c:=2+r1) s6.box (by omega) (by omega) fun j b2 j0 j1=>?_⟩
     have s7:=s6.take b2;have g7:Ab G6 a (.lst [.int b2]) pf=some (.lst (cs.map Ah)):=by rw[Ag nf.symm];exact g6
     generalize Ab G6 a (.lst [.int b2])=G7 at *;simp![g7];refine⟨j.toNat,by unfold ixN;rw[if_pos j0,if_pos (by rw[List.length_map];omega)],Fs.of ⟨_,rfl,s7.write f0 nf,cs.set j.toNat [],by rw[Aa];exact congrArg (fun z=>some (GO.lst z)) (Yv (y:=[])),by rw[List.length_set];exact hlc,fun c hc=>?_⟩⟩
     rcases List.mem_or_eq_of_mem_set hc with z|z
     ·exact hrw c z
     ·rw[z];exact RowOk.nil
    ·rw[if_neg h5];exact Fs.of ⟨_,rfl,s6,cs,g6,hlc,hrw⟩
   ·rintro σ' G6 ⟨v,rfl,s6,cs,g6,hlc,hrw⟩;simp![Am g6];exact Fq.of (q cs G6 s6 ⟨by omega,by omega,hrw⟩ (by omega))
theorem near3{c:List Int}(h:c.Pairwise (· < ·))(r:Int):(c.filter (Aq r)).length≤3:=by
 have:=Ow id (a:=c.filter (Aq r)) (b:=[r-1,r,r+1]) ((h.filter _).imp fun {a b} z e=>by omega) (fun x hx=>by
  have:=near_iff.mp (List.mem_filter.mp hx).2
  show x∈[r-1,r,r+1];simp only[List.mem_cons,List.not_mem_nil,or_false];omega) fun _ _ _ _ e=>e
 simpa using this
theorem Oi{f:Int→Nat}{m:Nat}:∀{l:List Int},(∀x∈l,f x≤m)→(l.map f).sum≤l.length*m
 |[],_=>by simp
 |x::r,h=>by
  have:=Oi (l:=r) fun y hy=>h y (by simp[hy])
  have:=h x (by simp)
  rw[List.map_cons,List.sum_cons,List.length_cons,Nat.add_mul];omega
theorem cnt3:∀{cs:List (List Int)} (r:Int),(∀c∈cs,c.Pairwise (· < ·))→(Ac (some r) cs).length≤3 ^ cs.length
 |[],r,_=>by simp[Ac]
 |c::cs,r,h=>by
  rw[Lu];refine Nat.le_trans (Oi fun x _=>cnt3 x fun d hd=>h d (by simp[hd])) ?_
  rw[List.length_cons,Nat.pow_succ,Nat.mul_comm];exact Nat.mul_le_mul_left _ (near3 (h c (by simp)) r)
abbrev s_L_bends:Stmt:=top 54
abbrev Tj:List Str:=["_law_way"]
abbrev p_L_bends:List Str:=["_law_way"]
theorem O5:FnScope Tj p_L_bends (Ad s_L_bends):=⟨rfl,rfl,rfl,by decide +kernel,rfl,by decide +kernel,by decide +kernel⟩
theorem nd_L_bends_1:((["_law_spot"]:List Str)++(["_law_way"]:List Str)).Nodup:=by decide +kernel
def spLBends:DSp:=fun ds G Q _=>∃w:List Int,ds=[Ah w]∧1≤w.length∧w.length≤100∧Q (.int ((Cy w).length:Int)) G
theorem Rz{f:Addr}{fd:FuncData}(F:Fun K "_law_bends" "_law_bends" s_L_bends f fd)(T:Blt mg):FnOk P w K mg base CX0 1 f fd p_L_bends (Ak K spLBends):=by
 refine okD F O5 (fun ds G Q E h=>?_) (fun cdv A outer s H XE ds G Q E hr h=>?_)
 ·obtain⟨_,rfl,_⟩:=h;rfl
 ·obtain⟨v,rfl,h1,h2,k⟩:=h;refine⟨_,#["e",#["h",#["x",T,#["b",#["aN",["_law_spot"],["_law_way"],T,#["0",#["b",#["x",T,#["b",#["g",0]]]]],#["k",0,nd_L_bends_1],#["I",#["aq",#["v",#["g",1],#["a",0]],#["v",#["g",1],#["2",#["a",0]]]]],#["a",0]]]]]],?_⟩;unfold Ah;simp![List.length_map];refine⟨by omega,by omega,fun p hp=>?_⟩
  have hf:D3.Ce 1 (v.length:Int)=(List.range (v.length-1)).map fun i=>.int (1+(i:Int)):=by
   unfold D3.Ce;rw[show((v.length:Int)-1).toNat=v.length-1 by omega]
  rw[hf];refine F3 id (fun d=>decide (v.getD (A0 d).toNat 0≠v.getD ((A0 d).toNat-1) 0)) (by rw[List.length_map,List.length_range];exact B7 (by omega)) (fun _=>trivial) (fun x ys hx hlz R1 R2 g1 g2=>?_) ?_
  ·obtain⟨i,hi,rfl⟩:=List.mem_map.mp hx;have hi:=List.mem_range.mp hi;have t1:(1+(i:Int)).toNat=i+1:=by omega
   simp only[A0,t1,Nat.add_sub_cancel] at g1 g2;have a1:atI (v.map D.int) (1+(i:Int))=some (.int (v.getD (i+1) 0)):=by
    rw[show 1+(i:Int)=((i+1:Nat):Int) by omega]
    exact B4 (by rw[List.getElem?_map,List.getElem?_eq_getElem (by omega),List.getD_eq_getElem?_getD,List.getElem?_eq_getElem (by omega)];rfl)
   have a2:atI (v.map D.int) (1+(i:Int)-1)=some (.int (v.getD i 0)):=by
    rw[show 1+(i:Int)-1=((i:Nat):Int) by omega]
    exact B4 (by rw[List.getElem?_map,List.getElem?_eq_getElem (by omega),List.getD_eq_getElem?_getD,List.getElem?_eq_getElem (by omega)];rfl)
   simp![hlz,a2,a1];refine⟨⟨[_],rfl,rfl⟩,?_⟩
   by_cases h:v.getD (i+1) 0=v.getD i 0
   ·exact it1 (by simpa using h) (Fg.of (g2 (decide_eq_false fun z=>z h)))
   ·exact it0 (by simpa using h) (Fg.of (g1 (decide_eq_true h)))
  ·refine⟨_,Ex Aa,⟨G,Sub.new hp,?_⟩⟩
   have:(((List.range (v.length-1)).map fun(i:Nat)=>D.int (1+(i:Int))).filter fun d=>decide (v.getD (A0 d).toNat 0≠v.getD ((A0 d).toNat-1) 0)).map id=(Cy v).map fun(i:Nat)=>D.int (1+(i:Int)):=by
    rw[List.map_id,List.filter_map];congr 1;unfold Cy;refine List.filter_congr fun i _=>?_;have t1:(1+(i:Int)).toNat=i+1:=by omega
    simp only[Function.comp,A0,t1,Nat.add_sub_cancel]
   rw[this,List.length_map];exact k
theorem cx_K{CX:CXT}{N:List Str}{q:Str}{sc:Scope}{f:Addr}{cdv:Value}{A:Around}{outer:List Env}{s:Shared}{H:Hp}{XE:XK}:(C6 CX P w K mg base N q sc f cdv A outer s H XE).K=K:=rfl
theorem Ue:∀{a b:List Int},a.Pairwise (· < ·)→b.Pairwise (· < ·)→(∀x,x∈a↔x∈b)→a=b
 |[],[],_,_,_=>rfl
 |[],y::b,_,_,h=>by have:=(h y).mpr (by simp);simp at this
 |x::a,[],_,_,h=>by have:=(h x).mp (by simp);simp at this
 |x::a,y::b,ha,hb,h=>by
  obtain⟨a1,a2⟩:=List.pairwise_cons.mp ha;obtain⟨b1,b2⟩:=List.pairwise_cons.mp hb;have e:x=y:=by
   have h1:=(h x).mp (by simp)
   have h2:=(h y).mpr (by simp)
   rcases List.mem_cons.mp h1 with z|z
   ·exact z
   ·rcases List.mem_cons.mp h2 with u|u
    ·exact u.symm
    ·have:=b1 x z;have:=a1 y u;omega
  subst e;rw[Ue a2 b2 fun z=>?_];constructor
  ·intro hz;rcases List.mem_cons.mp ((h z).mp (List.mem_cons_of_mem _ hz)) with u|u
   ·have:=a1 z hz;omega
   ·exact u
  ·intro hz;rcases List.mem_cons.mp ((h z).mpr (List.mem_cons_of_mem _ hz)) with u|u
   ·have:=b1 z hz;omega
   ·exact u
theorem R5{c:List Int}(h:c.Pairwise (· < ·))(r:Int):c.filter (Aq r)=([r + -1,r+0,r+1]:List Int).filter fun y=>decide (y∈c):=by
 refine Ue (h.filter _) (List.Pairwise.filter _ (by simp;omega)) fun x=>?_
 rw[List.mem_filter,List.mem_filter,near_iff,decide_eq_true_eq];simp only[List.mem_cons,List.not_mem_nil,or_false];constructor
 ·rintro⟨h1,h2⟩;exact⟨by omega,h1⟩
 ·rintro⟨h1,h2⟩;exact⟨h2,by omega⟩
def gI(c:List Int)(f:Int→Int)(y:Int):Int:=if y∈c then f y else 0
theorem W1{c:List Int}(h:c.Pairwise (· < ·))(f:Int→Int)(r:Int):(([-1,0,1]:List Int).map fun d=>gI c f (r+d)).sum=((c.filter (Aq r)).map f).sum:=by
 rw[R5 h];simp only[List.map_cons,List.map_nil,List.filter_cons,List.filter_nil,decide_eq_true_eq,gI];generalize r + -1=x,r+0=y,r+1=z
 by_cases h1:x∈c<;>by_cases h2:y∈c<;>by_cases h3:z∈c<;>simp[h1,h2,h3]
theorem Aeh{c:List Int}{f:Int→Int}{y:Int}:(Ck (Ao (c.map fun r=>(r,f r))) (.inl y:Key)).getD (.int 0)=.int (gI c f y):=by
 unfold gI
 by_cases h:y∈c
 ·rw[if_pos h,Gy (by rw[Ca];exact h),Fk h];rfl
 ·rw[if_neg h]
  have:Ck (Ao (c.map fun r=>(r,f r))) (.inl y:Key)=none:=by
   unfold Ck;rw[Option.map_eq_none_iff,List.find?_eq_none];intro q hq;simp only[Ao,List.map_map,List.mem_map,Function.comp] at hq;obtain⟨x,hx,rfl⟩:=hq;simp only[decide_eq_true_eq];intro e;cases e;exact h hx
  rw[this];rfl
def Bk(cs:List (List Int))(i:Nat)(r:Int):Int:=((Ac (some r) (cs.take i).reverse).length:Int)
theorem Tc{cs:List (List Int)}{i:Nat}{c:List Int}(hc:cs[i]? = some c)(r:Int):Bk cs (i+1) r=((c.filter (Aq r)).map (Bk cs i)).sum:=by
 unfold Bk;rw[List.take_add_one,hc,Option.toList_some,List.reverse_append,List.reverse_singleton,List.singleton_append];exact Fc (some r) c _
theorem Xy{cs:List (List Int)}{i:Nat}{c:List Int}(ok:ChanN cs)(hi:i+1=cs.length)(hc:cs[i]? = some c):(c.map (Bk cs i)).sum=((Ac none cs).length:Int):=by
 rw[←Vh ok];have e:cs.reverse=c::(cs.take i).reverse:=by
  have:cs=cs.take i++[c]:=by
   have:=List.take_add_one (l:=cs) (i:=i)
   rw[hc,hi,List.take_length] at this;exact this
  conv=>lhs;rw[this]
  rw[List.reverse_append];rfl
 rw[e,Fc none c];congr 2;exact(List.filter_eq_self.mpr fun _ _=>rfl).symm
theorem Kb:∀{es acc:List (Key×D)},((acc++es).map (·.1)).Nodup→Hf acc es=acc++es
 |[],acc,_=>by simp[Hf]
 |e::es,acc,h=>by
  show Hf (Jh acc e.1 e.2) es=_;have hn:e.1 ∉ acc.map (·.1):=fun z=>by
   rw[List.map_append,List.nodup_append] at h;exact h.2.2 _ z e.1 (by simp) rfl
  rw[E7 hn,Kb (by simpa using h)]
  simp
theorem Gg{f:Int→Int}:∀c:List Int,Fm (c.map fun r=>D.tup [.int r,.int (f r)])=some (Ao (c.map fun r=>(r,f r)))
 |[]=>rfl
 |x::r=>by
  rw[List.map_cons,Fm,Gg r];rfl
theorem Xn{c:List Int}{f:Int→Int}(h:c.Nodup):((Ao (c.map fun r=>(r,f r))).map (·.1)).Nodup:=by
 have:(Ao (c.map fun r=>(r,f r))).map (·.1)=c.map (Sum.inl:Int→Key):=by simp[Ao,List.map_map]
 rw[this];exact List.Pairwise.map _ (fun a b z e=>z (Sum.inl.inj e)) h
theorem V4{c:List Int}{f:Int→Int}{j:Nat}{r:Int}(nd:c.Nodup)(h:c[j]? = some r):Jh (Ao ((c.take j).map fun r=>(r,f r))) (.inl r) (.int (f r))=Ao ((c.take (j+1)).map fun r=>(r,f r)):=by
 have hnot:(Sum.inl r:Key) ∉ (Ao ((c.take j).map fun i=>(i,f i))).map (·.1):=fun z=>by
  simp only[Ao,List.map_map,List.mem_map,Function.comp] at z;obtain⟨m,hm,em⟩:=z;cases em;obtain⟨i,hj1,hj2⟩:=List.mem_take_iff_getElem.mp hm;have e1:c[i]? = some r:=by rw[List.getElem?_eq_getElem (by omega),hj2]
  have:=(List.getElem?_inj (i:=i) (j:=j) (by omega) nd).mp (e1.trans h.symm)
  omega
 rw[E7 hnot,List.take_add_one,h,List.map_append];simp[Ao]
theorem Mv{A B:Gp}{p:Addr}{o:GO}(s:Sub A B):Sub (Ab A p o) (Ab B p o):=fun b u e=>by
 by_cases h:b=p
 ·subst h;rw[Aa] at e ⊢;exact e
 ·rw[Ag h] at e ⊢;exact s b u e
abbrev s_L_count:Stmt:=top 50
abbrev Ti:List Str:=["_law_channel_here", "_law_many_by", "_law_rows", "_law_fresh", "_law_row"]
abbrev p_L_count:List Str:=["_law_channel_here"]
theorem sc_L_count:FnScope Ti p_L_count (Ad s_L_count):=⟨rfl,rfl,rfl,by decide +kernel,rfl,by decide +kernel,by decide +kernel⟩
theorem nd_L_count_1:((["_law_row"]:List Str)++(["_law_channel_here", "_law_many_by", "_law_rows", "_law_fresh", ".1"]:List Str)).Nodup:=by decide +kernel
theorem nd_L_count_2:((["_law_far"]:List Str)++(["_law_channel_here", "_law_many_by", "_law_rows", "_law_fresh", "_law_row"]:List Str)).Nodup:=by decide +kernel
theorem nd_L_count_3:((["_law_row"]:List Str)++(["_law_channel_here", "_law_many_by", "_law_rows", "_law_fresh", ".2"]:List Str)).Nodup:=by decide +kernel
def spCount:DSp:=fun ds G Q _=>∃cs,ds=[chD cs]∧ChanN cs∧Q (.int ((Ac none cs).length:Int)) G
theorem Wx{f:Addr}{fd:FuncData}(F:Fun K "_law_count" "_law_count" s_L_count f fd)(T:Nums mg):FnOk P w K mg base CX0 1 f fd p_L_count (Ak K spCount):=by
 refine okD F sc_L_count (fun ds G Q E h=>?_) (fun cdv A outer s H XE ds G Q E hr h=>?_)
 ·obtain⟨cs,rfl,_⟩:=h;rfl
 ·obtain⟨cs,rfl,ok,k⟩:=h;refine⟨_,#["c",#["P",1,sc_L_count.nd,#["aO",(@c_dictK _ _ rfl hr),T,#["b",#["M",["_law_row"],["_law_channel_here", "_law_many_by", "_law_rows", "_law_fresh", ".1"],#["n",#["a",0]],#["k",0,nd_L_count_1],#["u",#["G",#["a",0]]]]]]],#["c",#["z",#["N",#["a",0]],#["j",2,sc_L_count.nd],#["c",#["ar",3,sc_L_count.nd],#["c",#["z",#["a",2],#["3",4,sc_L_count.nd],#["e",#["C",#["aa",T,#["b",#["aP",["_law_far"],["_law_channel_here", "_law_many_by", "_law_rows", "_law_fresh", "_law_row"],#["k",0,nd_L_count_2],#["aQ",hr,#["g",2],#["q",#["g",5],#["a",0]],#["w"]]]]],#["X",#["a",3],#["g",4],(@s_dictK _ _ hr)]]]],#["e",#["P",1,sc_L_count.nd,#["a",3]]]]]],#["e",#["h",#["aa",T,#["b",#["aR",["_law_row"],["_law_channel_here", "_law_many_by", "_law_rows", "_law_fresh", ".2"],(@q_frz _ _ _ _ #["g",1] (by rfl)),#["k",0,nd_L_count_3],#["aS",#["g",2],#["a",0]]]]]]]]],?_⟩
  have sz2:=sz2;have lnc:=ok.len;have hhi:=ok.hi;have nds:∀c∈cs,c.Nodup:=fun c hc=>(ok.up c hc).imp fun {a b} z e=>by omega
  have hup:=ok.up;have hall:∀{i c},i+1=cs.length→cs[i]? = some c→(c.map (Bk cs i)).sum=((Ac none cs).length:Int):=fun h1 h2=>Xy ok h1 h2;obtain⟨c0,rest,rfl,hrest⟩:=ok.head;have e0:Bb G (chD (c0::rest)) 0=some (Ah c0):=by show atI _ 0=_;rw[List.map_cons];exact Od
  have e2:Cc ((c0::rest).map Ah) (some 1) none=rest.map Ah:=by rw[Hh];rfl
  simp![cx_K,e0];refine⟨c0.map D.int,rfl,fun p hp=>Ay (fun x=>.tup [x,.int 1]) (fun _=>true) (by rw[List.length_map];exact B7 (by have:=lnc c0 (by simp);omega)) (fun _=>rfl) (by decide) (fun x ys hx hl R1 R2 g1 _=>?_) ?_⟩
  ·obtain⟨r,hr,rfl⟩:=List.mem_map.mp hx;simp![sz2,hl];exact Fg.of (g1 rfl)
  ·have em:((c0.map D.int).filter fun _=>true).map (fun x=>D.tup [x,.int 1])=c0.map fun r=>D.tup [.int r,.int ((fun _=>(1:Int)) r)]:=by rw[Bd,List.map_map];rfl
   refine⟨p,rfl,_,Aa,_,by rw[em];exact Gg c0,by simp only[Ao,List.length_map];exact B7 (by have:=lnc c0 (by simp);omega),fun p1 hp1=>?_⟩
   rw[Kb (by rw[List.nil_append];exact Xn (nds c0 (by simp))),List.nil_append]
   have fr1:G p1=none:=(Sub.new hp).none hp1;have sb1:Sub G (Ab (Ab G p (.lst (((c0.map D.int).filter fun _=>true).map fun x=>.tup [x,.int 1]))) p1 (.dkk (Ao (c0.map fun r=>(r,(fun _=>(1:Int)) r))))):=(Sub.new hp).skip hp1;have g1:Ab (Ab G p (.lst (((c0.map D.int).filter fun _=>true).map fun x=>.tup [x,.int 1]))) p1 (.dkk (Ao (c0.map fun r=>(r,(fun _=>(1:Int)) r)))) p1=some (.dkk (Ao (c0.map fun r=>(r,Bk (c0::rest) 0 r)))):=Aa;generalize Ab (Ab G p (.lst (((c0.map D.int).filter fun _=>true).map fun x=>.tup [x,.int 1]))) p1 (.dkk (Ao (c0.map fun r=>(r,(fun _=>(1:Int)) r))))=G1 at *;unfold chD;rw[Dy,e2];refine⟨rest.map Ah,rfl,A4 (fun i σ G'=>∃v2 v3 v4 a c,σ=[some (.tup ((c0::rest).map Ah)),some (.ref a),v2,v3,v4]∧Sub G G'∧G a=none∧(c0::rest)[i]? = some c∧G' a=some (.dkk (Ao (c.map fun r=>(r,Bk (c0::rest) i r))))) ⟨none,none,none,p1,c0,rfl,sb1,fr1,rfl,g1⟩ (fun _ _ _ _ _=>rfl) ?_ ?_⟩
   ·rintro i x σ G3 hx ⟨v2,v3,v4,a,c,rfl,s3,fra,hc,g3⟩;rw[List.getElem?_map] at hx;obtain⟨b,hb,rfl⟩:=Option.map_eq_some_iff.mp hx;have hb':(c0::rest)[i+1]? = some b:=by simpa using hb
    have hbm:=List.mem_of_getElem? hb';have hcm:=List.mem_of_getElem? hc;simp![];intro p2 hp2;have npa:a≠p2:=gne g3 hp2;refine⟨b.map D.int,rfl,A4 (fun j σ G'=>∃v4,σ=[some (.tup ((c0::rest).map Ah)),some (.ref a),some (Ah b),some (.ref p2),v4]∧Ab G3 p2 (.dkk (Ao ((b.take j).map fun r=>(r,Bk (c0::rest) (i+1) r))))=G') ⟨v4,rfl,rfl⟩ (fun _ _ _ _ _=>rfl) ?_ ?_⟩
    ·rintro j x σ _ hx ⟨v4,rfl,rfl⟩;rw[List.getElem?_map] at hx;obtain⟨r,hr,rfl⟩:=Option.map_eq_some_iff.mp hx;simp![];refine⟨szl (by decide),fun l hl=>⟨_,Am Aa,fun l2 hl2=>?_⟩⟩
     have ga:Ab (Ab G3 p2 (.dkk (Ao ((b.take j).map fun r=>(r,Bk (c0::rest) (i+1) r))))) l (.lst [D.int (-1),D.int 0,D.int 1]) a=some (.dkk (Ao (c.map fun r=>(r,Bk (c0::rest) i r)))):=Ai (by rw[Ag npa];exact g3) hl
     have gp:Ab (Ab G3 p2 (.dkk (Ao ((b.take j).map fun r=>(r,Bk (c0::rest) (i+1) r))))) l (.lst [D.int (-1),D.int 0,D.int 1]) p2=some (.dkk (Ao ((b.take j).map fun r=>(r,Bk (c0::rest) (i+1) r)))):=Ai Aa hl;have gl:Ab (Ab G3 p2 (.dkk (Ao ((b.take j).map fun r=>(r,Bk (c0::rest) (i+1) r))))) l (.lst [D.int (-1),D.int 0,D.int 1]) l=some (.lst [D.int (-1),D.int 0,D.int 1]):=Aa;have s4:=Mv (p:=p2) (o:=.dkk (Ao ((b.take (j+1)).map fun r=>(r,Bk (c0::rest) (i+1) r)))) (Sub.new (o:=.lst [D.int (-1),D.int 0,D.int 1]) hl);rw[B9] at s4;generalize Ab (Ab G3 p2 (.dkk (Ao ((b.take j).map fun r=>(r,Bk (c0::rest) (i+1) r))))) l (.lst [D.int (-1),D.int 0,D.int 1])=G4 at *;refine Ay (fun x=>.int (gI c (Bk (c0::rest) i) (r+A0 x))) (fun _=>true) (B7 (by decide)) (fun ys=>Am (Ai gl hl2)) (by decide) (fun x ys hx hlz R1 R2 g1 _=>?_) ?_
     ·obtain⟨y,hy,rfl⟩:=List.mem_map.mp (show x∈([-1,0,1]:List Int).map D.int from hx);have ga:=Ai (u:=.lst ys) ga hl2;simp![hlz,ga];refine⟨⟨_,rfl⟩,_,rfl,?_⟩;rw[Aeh];exact Fg.of (g1 rfl)
     ·refine⟨l2,rfl,([-1,0,1]:List Int).map fun d=>gI c (Bk (c0::rest) i) (r+d),by rw[Aa];rfl,_,Ai gp hl2,by simp only[Ao,List.length_map,List.length_take];exact B7 (by have:=lnc b hbm;omega),?_⟩
      rw[W1 (hup c hcm),←Tc hc,V4 (nds b hbm) hr];exact⟨_,s4.trans (Mv (Sub.new hl2)),_,rfl,rfl⟩
    ·rintro σ _ ⟨v4,rfl,rfl⟩;rw[List.length_map,List.take_length];simp![];exact Fs.of ⟨_,_,_,p2,rfl,s3.skip hp2,s3.none hp2,b,hb',Aa⟩
   ·rintro σ G3 ⟨v2,v3,v4,a,c,rfl,s3,fra,hc,g3⟩;rw[List.length_map] at hc g3;simp![g3];refine⟨_,rfl,_,rfl,fun p hp=>?_⟩;rw[F0,Ca];have ga:Ab G3 a (Jj K (Ao (c.map fun r=>(r,Bk (c0::rest) rest.length r)))) a=some (Jj K (Ao (c.map fun r=>(r,Bk (c0::rest) rest.length r)))):=Aa;have s4:Sub G (Ab G3 a (Jj K (Ao (c.map fun r=>(r,Bk (c0::rest) rest.length r))))):=Sub.over s3 fra _;generalize Ab G3 a (Jj K (Ao (c.map fun r=>(r,Bk (c0::rest) rest.length r))))=G4 at *;have hcm:=List.mem_of_getElem? hc;refine Ay (fun x=>.int (Bk (c0::rest) rest.length (A0 x))) (fun _=>true) (by rw[List.length_map];exact B7 (by have:=lnc c hcm;omega)) (fun _=>trivial) (by decide) (fun x ys hx hlz R1 R2 g1 _=>?_) ?_
    ·obtain⟨r,hr,rfl⟩:=List.mem_map.mp hx;have ga:=Ai (u:=.lst ys) ga hp;simp![hlz];refine⟨_,ga,_,Gy (by rw[Ca];exact hr),?_⟩
     rw[Fk hr];exact Fg.of (g1 rfl)
    ·refine⟨p,rfl,c.map (Bk (c0::rest) rest.length),by rw[Aa,Bd,List.map_map,List.map_map];rfl,?_⟩
     rw[hall rfl hc];exact⟨G,s4.skip hp,k⟩
abbrev Dd:List Str:=["NoSea", "NoCell", "NoDraught", "NoDay", "NoNotices", "NoNumber", "NoMark", "NoChannel", "NoSightings", "NoFairway", "NoSide", "NoColumns", "NoLine", "There", "Nothing", "Unlike", "NoText", "TooMany"]
abbrev kindNames:List Str:=["sea", "cell", "draught", "day", "notices", "number", "mark", "channel", "sightings", "fairway", "side", "columns", "line", "there", "nothing"]
def Et(tbl:List (Str×Addr))(x:Str):Addr:=(tbl.lookup x).getD 0
structure Cls(K:W.Frag)(mg:Str→Option Value)(tbl:List (Str×Addr)):Prop where
 mg:∀x:Str,x∈Dd→mg x=some (.ref (Et tbl x))
 own:∀x:Str,x∈Dd→OwnK K (Et tbl x)
structure ExKind(K:W.Frag)(tbl:List (Str×Addr))(C:Addr)(i:Nat):Prop where
 ec:ExcCl K C
 ve:W.mroIn K C (.type "ValueError")=some true
 lt:i<15
 ms:∀(j:Nat) (x:Str),Dd[j]? = some x→W.mroIn K C (.ref (Et tbl x))=some (j == i)∧(C=Et tbl x→(j == i)=true)
theorem isx{tbl:List (Str×Addr)}{G:Gp}{a C:Addr}{i:Nat}{Q:DK}(Z:Cls K mg tbl)(hG:G a=some (.any (excIs C)))(k:ExKind K tbl C i)(j:Nat){x:Str}(hj:Dd[j]? = some x)(q:Q (.bl (j == i)) G):rIsE K [.ref a,.ref (Et tbl x)] G Q:=
 ⟨a,C,_,_,rfl,hG,k.ec,Z.own x (List.mem_of_getElem? hj),(k.ms j x hj).1,(k.ms j x hj).2,q⟩
def fl(i:Nat):List Bool:=[0 == i,1 == i,2 == i,3 == i,4 == i,5 == i,6 == i,7 == i,8 == i,9 == i,10 == i,11 == i,12 == i,13 == i,14 == i,15 == i,16 == i,17 == i]
theorem Ael:∀i,i<15→(fl i).count true=1:=by decide
theorem Abn:∀i,i<15→(fl i)[i]? = some true∧∀m,m<i→(fl i)[m]? = some false:=by decide
theorem Hb{G:Gp}{p q:Addr}{xs ys zs:List D}{Q:DK}(hp:G p=some (.lst xs))(hq:G q=some (.lst ys))(hz:xs++ys=zs)(hl:xs.length+ys.length≤sizeLine)(k:∀r,G r=none→Q (.ref r) (Ab G r (.lst zs))):Oe (.ref p) (.ref q) G Q:=by
 subst hz;simp only[Oe,hp,hq];exact⟨hl,k⟩
abbrev wq(i:Nat):List D:=[D.bl (0 == i),D.bl (1 == i),D.bl (2 == i),D.bl (3 == i),D.bl (4 == i),D.bl (5 == i),D.bl (6 == i),D.bl (7 == i),D.bl (8 == i),D.bl (9 == i),D.bl (10 == i),D.bl (11 == i),D.bl (12 == i),D.bl (13 == i),D.bl (14 == i),D.bl (15 == i),D.bl (16 == i),D.bl (17 == i)]
abbrev wp(i:Nat):List D:=[D.bl (0 == i),D.bl (1 == i),D.bl (2 == i),D.bl (3 == i),D.bl (4 == i),D.bl (5 == i),D.bl (6 == i),D.bl (7 == i),D.bl (8 == i),D.bl (9 == i),D.bl (10 == i),D.bl (11 == i),D.bl (12 == i),D.bl (13 == i)]
abbrev wo(i:Nat):List D:=[D.bl (0 == i),D.bl (1 == i),D.bl (2 == i),D.bl (3 == i),D.bl (4 == i),D.bl (5 == i),D.bl (6 == i),D.bl (7 == i),D.bl (8 == i),D.bl (9 == i)]
abbrev wn(i:Nat):List D:=[D.bl (0 == i),D.bl (1 == i),D.bl (2 == i),D.bl (3 == i),D.bl (4 == i),D.bl (5 == i),D.bl (6 == i)]
abbrev wa(i:Nat):List D:=[D.bl (0 == i),D.bl (1 == i),D.bl (2 == i),D.bl (3 == i)]
abbrev wb(i:Nat):List D:=[D.bl (4 == i),D.bl (5 == i),D.bl (6 == i)]
abbrev wc(i:Nat):List D:=[D.bl (7 == i),D.bl (8 == i),D.bl (9 == i)]
abbrev wd(i:Nat):List D:=[D.bl (10 == i),D.bl (11 == i),D.bl (12 == i),D.bl (13 == i)]
abbrev we(i:Nat):List D:=[D.bl (14 == i),D.bl (15 == i),D.bl (16 == i),D.bl (17 == i)]
abbrev wz:List D:=[D.str "sea",D.str "cell",D.str "draught",D.str "day",D.str "notices",D.str "number",D.str "mark",D.str "channel",D.str "sightings",D.str "fairway",D.str "side",D.str "columns",D.str "line",D.str "there",D.str "nothing"]
abbrev wx:List D:=[D.str "sea",D.str "cell",D.str "draught",D.str "day",D.str "notices",D.str "number",D.str "mark",D.str "channel",D.str "sightings",D.str "fairway"]
abbrev wy:List D:=[D.str "side",D.str "columns",D.str "line",D.str "there",D.str "nothing"]
abbrev s_L_which:Stmt:=top 52
abbrev Tf:List Str:=["_law_e", "_law_marks", "_law_names"]
abbrev p_L_which:List Str:=["_law_e"]
theorem sc_L_which:FnScope Tf p_L_which (Ad s_L_which):=⟨rfl,rfl,rfl,by decide +kernel,rfl,by decide +kernel,by decide +kernel⟩
def Dx(K:W.Frag)(tbl:List (Str×Addr)):DSp:=fun ds G Q _=>∃a C i,ds=[.ref a]∧G a=some (.any (excIs C))∧ExKind K tbl C i∧Q (.tup [.str (kindNames.getD i "")]) G
theorem Wq{tbl:List (Str×Addr)}{f:Addr}{fd:FuncData}(F:Fun K "_law_which" "_law_which" s_L_which f fd)(T:Blt mg)(Z:Cls K mg tbl):FnH P w K mg base CX0 1 f fd p_L_which (Ak K (Dx K tbl)):=by
 refine okH F sc_L_which (fun ds G Q E h=>?_) (fun cdv A outer s H XE ds G Q E hr h=>?_)
 ·obtain⟨a,C,i,rfl,_⟩:=h;rfl
 ·obtain⟨a,C,i,rfl,hG,hk,q⟩:=h;refine⟨_,#["c",#["i",1,sc_L_which.nd,#["r",#["d",#["l",T,#["d",#["a",0],#["b",#["m",(Z.mg "NoSea" (by decide))]]]],#["d",#["l",T,#["d",#["a",0],#["b",#["m",(Z.mg "NoCell" (by decide))]]]],#["d",#["l",T,#["d",#["a",0],#["b",#["m",(Z.mg "NoDraught" (by decide))]]]],#["b",#["l",T,#["d",#["a",0],#["b",#["m",(Z.mg "NoDay" (by decide))]]]]]]]]]],#["c",#["i",1,sc_L_which.nd,#["q",#["a",1],#["r",#["d",#["l",T,#["d",#["a",0],#["b",#["m",(Z.mg "NoNotices" (by decide))]]]],#["d",#["l",T,#["d",#["a",0],#["b",#["m",(Z.mg "NoNumber" (by decide))]]]],#["b",#["l",T,#["d",#["a",0],#["b",#["m",(Z.mg "NoMark" (by decide))]]]]]]]]]],#["c",#["i",1,sc_L_which.nd,#["q",#["a",1],#["r",#["d",#["l",T,#["d",#["a",0],#["b",#["m",(Z.mg "NoChannel" (by decide))]]]],#["d",#["l",T,#["d",#["a",0],#["b",#["m",(Z.mg "NoSightings" (by decide))]]]],#["b",#["l",T,#["d",#["a",0],#["b",#["m",(Z.mg "NoFairway" (by decide))]]]]]]]]]],#["c",#["i",1,sc_L_which.nd,#["q",#["a",1],#["r",#["d",#["l",T,#["d",#["a",0],#["b",#["m",(Z.mg "NoSide" (by decide))]]]],#["d",#["l",T,#["d",#["a",0],#["b",#["m",(Z.mg "NoColumns" (by decide))]]]],#["d",#["l",T,#["d",#["a",0],#["b",#["m",(Z.mg "NoLine" (by decide))]]]],#["b",#["l",T,#["d",#["a",0],#["b",#["m",(Z.mg "There" (by decide))]]]]]]]]]]],#["c",#["i",1,sc_L_which.nd,#["q",#["a",1],#["r",#["d",#["l",T,#["d",#["a",0],#["b",#["m",(Z.mg "Nothing" (by decide))]]]],#["d",#["l",T,#["d",#["a",0],#["b",#["m",(Z.mg "Unlike" (by decide))]]]],#["d",#["l",T,#["d",#["a",0],#["b",#["m",(Z.mg "NoText" (by decide))]]]],#["b",#["l",T,#["d",#["a",0],#["b",#["m",(Z.mg "TooMany" (by decide))]]]]]]]]]]],#["c",#["aj",#["K",#["5",#["s",#["o",#["aT",T,#["d",#["a",0],#["b",#["L","ValueError",T]]]]]],(@qw_or1 _ _ _ _ #["B",(@o_ne _),#["aU",#["a",1],(@q_bl _ _ _ _)],#["w"]])]],#["e",#["h",#["av"]]],(@qss_nil _)],#["c",#["ae",#["o",#["n",#["a",1]]]],#["c",#["ae",#["o",#["n",#["a",1]]]],#["c",#["ae",#["o",#["n",#["a",1]]]],#["c",#["aV",2,sc_L_which.nd],#["e",#["h",#["u",#["b",#["v",#["aW",#["a",2]],#["aX",#["a",1],(@q_bl _ _ _ _)]]]]]]]]]]]]]]]],?_⟩
  simp![];have z4:4≤sizeLine:=szl (by decide)
  have z3:3≤sizeLine:=szl (by decide)
  refine isx Z hG hk 0 rfl ?_;refine isx Z hG hk 1 rfl ?_;refine isx Z hG hk 2 rfl ?_;refine isx Z hG hk 3 rfl ?_;refine⟨z4,fun p1 h1=>?_⟩;have b1:Ab G p1 (.lst (wa i)) p1=some (.lst (wa i)):=Aa;have e1:=Ai (u:=.lst (wa i)) hG h1;have s1:Sub G (Ab G p1 (.lst (wa i))):=(Sub.refl G).skip h1;generalize Ab G p1 (.lst (wa i))=G1 at *;have t1:=s1;refine isx Z e1 hk 4 rfl ?_;refine isx Z e1 hk 5 rfl ?_;refine isx Z e1 hk 6 rfl ?_;refine⟨z3,fun p2 h2=>?_⟩;have b2:Ab G1 p2 (.lst (wb i)) p2=some (.lst (wb i)):=Aa;have e2:=Ai (u:=.lst (wb i)) e1 h2;have a2:=Ai (u:=.lst (wb i)) b1 h2;have s2:Sub G (Ab G1 p2 (.lst (wb i))):=t1.skip h2;generalize Ab G1 p2 (.lst (wb i))=G2 at *;refine Hb (zs:=(wn i)) a2 b2 rfl (by simpa using szl (n:=7) (by decide)) fun r2 k2=>?_
  have c2:Ab G2 r2 (.lst (wn i)) r2=some (.lst (wn i)):=Aa;have d2:=Ai (u:=.lst (wn i)) e2 k2;have t2:Sub G (Ab G2 r2 (.lst (wn i))):=s2.skip k2;generalize Ab G2 r2 (.lst (wn i))=H2 at *;refine isx Z d2 hk 7 rfl ?_;refine isx Z d2 hk 8 rfl ?_;refine isx Z d2 hk 9 rfl ?_;refine⟨z3,fun p3 h3=>?_⟩;have b3:Ab H2 p3 (.lst (wc i)) p3=some (.lst (wc i)):=Aa;have e3:=Ai (u:=.lst (wc i)) d2 h3;have a3:=Ai (u:=.lst (wc i)) c2 h3;have s3:Sub G (Ab H2 p3 (.lst (wc i))):=t2.skip h3;generalize Ab H2 p3 (.lst (wc i))=G3 at *;refine Hb (zs:=(wo i)) a3 b3 rfl (by simpa using szl (n:=10) (by decide)) fun r3 k3=>?_
  have c3:Ab G3 r3 (.lst (wo i)) r3=some (.lst (wo i)):=Aa;have d3:=Ai (u:=.lst (wo i)) e3 k3;have t3:Sub G (Ab G3 r3 (.lst (wo i))):=s3.skip k3;generalize Ab G3 r3 (.lst (wo i))=H3 at *;refine isx Z d3 hk 10 rfl ?_;refine isx Z d3 hk 11 rfl ?_;refine isx Z d3 hk 12 rfl ?_;refine isx Z d3 hk 13 rfl ?_;refine⟨z4,fun p4 h4=>?_⟩;have b4:Ab H3 p4 (.lst (wd i)) p4=some (.lst (wd i)):=Aa;have e4:=Ai (u:=.lst (wd i)) d3 h4;have a4:=Ai (u:=.lst (wd i)) c3 h4;have s4:Sub G (Ab H3 p4 (.lst (wd i))):=t3.skip h4;generalize Ab H3 p4 (.lst (wd i))=G4 at *;refine Hb (zs:=(wp i)) a4 b4 rfl (by simpa using szl (n:=14) (by decide)) fun r4 k4=>?_
  have c4:Ab G4 r4 (.lst (wp i)) r4=some (.lst (wp i)):=Aa;have d4:=Ai (u:=.lst (wp i)) e4 k4;have t4:Sub G (Ab G4 r4 (.lst (wp i))):=s4.skip k4;generalize Ab G4 r4 (.lst (wp i))=H4 at *;refine isx Z d4 hk 14 rfl ?_;refine isx Z d4 hk 15 rfl ?_;refine isx Z d4 hk 16 rfl ?_;refine isx Z d4 hk 17 rfl ?_;refine⟨z4,fun p5 h5=>?_⟩;have b5:Ab H4 p5 (.lst (we i)) p5=some (.lst (we i)):=Aa;have e5:=Ai (u:=.lst (we i)) d4 h5;have a5:=Ai (u:=.lst (we i)) c4 h5;have s5:Sub G (Ab H4 p5 (.lst (we i))):=t4.skip h5;generalize Ab H4 p5 (.lst (we i))=G5 at *;refine Hb (zs:=(wq i)) a5 b5 rfl (by simpa using szl (n:=18) (by decide)) fun r5 k5=>?_
  have c5:Ab G5 r5 (.lst (wq i)) r5=some (.lst (wq i)):=Aa;have d5:=Ai (u:=.lst (wq i)) e5 k5;have t5:Sub G (Ab G5 r5 (.lst (wq i))):=s5.skip k5;generalize Ab G5 r5 (.lst (wq i))=H5 at *;have c6:H5 r5=some (.lst ((fl i).map D.bl)):=c5;refine⟨a,C,true,rfl,d5,hk.ec,hk.ve,true,rfl,it1 (by decide) ⟨r5,rfl,⟨_,c5⟩,fl i,c6,?_⟩⟩
  rw[Ael i hk.lt];have lt:=hk.lt;have f15:(15 == i)=false:=beq_eq_false_iff_ne.mpr (by omega)
  have f16:(16 == i)=false:=beq_eq_false_iff_ne.mpr (by omega)
  have f17:(17 == i)=false:=beq_eq_false_iff_ne.mpr (by omega)
  refine it1 (by decide) ⟨.bl (15 == i),by rw[As c5];rfl,false,by rw[f15];rfl,it1 (by decide) ⟨.bl (16 == i),by rw[As c5];rfl,false,by rw[f16];rfl,it1 (by decide) ⟨.bl (17 == i),by rw[As c5];rfl,false,by rw[f17];rfl,it1 (by decide) ?_⟩⟩⟩
  refine⟨szl (by decide),fun p6 h6=>?_⟩
  have b6:Ab H5 p6 (.lst wx) p6=some (.lst wx):=Aa;have a6:=Ai (u:=.lst wx) c6 h6;have s6:Sub G (Ab H5 p6 (.lst wx)):=t5.skip h6;generalize Ab H5 p6 (.lst wx)=G6 at *;refine⟨szl (by decide),fun p7 h7=>?_⟩
  have b7:Ab G6 p7 (.lst wy) p7=some (.lst wy):=Aa;have d7:=Ai (u:=.lst wy) b6 h7;have a7:=Ai (u:=.lst wy) a6 h7;have s7:Sub G (Ab G6 p7 (.lst wy)):=s6.skip h7;generalize Ab G6 p7 (.lst wy)=G7 at *;refine Hb (zs:=wz) d7 b7 rfl (by simpa using szl (n:=15) (by decide)) fun r8 k8=>?_
  have c8:Ab G7 r8 (.lst wz) r8=some (.lst wz):=Aa;have a8:=Ai (u:=.lst wz) a7 k8;have s8:Sub G (Ab G7 r8 (.lst wz)):=s7.skip k8;generalize Ab G7 r8 (.lst wz)=G8 at *;have nm:∀i,i<15→(kindNames.map D.str)[i]? = some (D.str (kindNames.getD i "")):=fun i hi=>by
   rw[List.getElem?_map,List.getD,List.getElem?_eq_getElem (show i<kindNames.length from hi)];rfl
  exact⟨r5,rfl,⟨_,a8⟩,fl i,a8,i,(Abn i lt).1,(Abn i lt).2,_,by rw[As c8];exact Vd (nm i lt),szl (by decide),G,s8,q⟩
abbrev s_L_said:Stmt:=top 53
abbrev X5:List Str:=["_law_call", "_law_e"]
abbrev E8:List Str:=["_law_call"]
theorem Ro:FnScope X5 E8 (Ad s_L_said):=⟨rfl,rfl,rfl,by decide +kernel,rfl,by decide +kernel,by decide +kernel⟩
theorem Zw{tbl:List (Str×Addr)}{f M:Addr}{fd:FuncData}{tm:List Value}{k kr:Nat}(F:Fun K "_law_said" "_law_said" s_L_said f fd)(hM:ExcK K "MarkError" M)(hmg:mg "MarkError" = some (.ref M))(hmM:mroK K M=some (.ref M::tm))(hB:tm.contains (.type "BaseException")=true){fw:Addr}{fdw:FuncData}(FW:FnH P w K mg base CX0 1 fw fdw p_L_which (Ak K (Dx K tbl)))(hmw:mg "_law_which" = some (.ref fw))(hkw:W.keepIn K (.ref fw)=true)(hbw:Binds K fdw p_L_which [])(hk1:3≤k)(hk2:kr≤k)(hms:mg "_law_said" = some (.ref f))(hbs:Binds K fd E8 []) :
  Said P w K mg base (k+1) kr "_law_said" M (Dx K tbl):=by
 have kp:=F.kp;obtain⟨oc,od,kV,doc,pm,an,cdv,ct,osl,rfl,lk,hcd⟩:=F.ex;exact⟨f,_,_,Wr (cn:="_law_call") (mn:="MarkError") (en:="_law_e") (wn:="_law_which") lk hcd Ro hM hmg hmM hB FW hmw hkw hbw hk1 hk2 rfl rfl (fun _ _=>rfl) (fun _ _=>rfl) (by decide) (by decide) (by decide) (by decide) (by decide) (by decide),hms,kp,hbs⟩
end
structure Sh(G:Gp)(b n:Nat)(d:D)(p:PyData):Prop where
 rep:RepD G d p
 ok:p.showable=true
 len:p.shown.length≤b
 dep:p.depth≤n
theorem Lf:∀{ts:List Str} {b:Nat},(∀t∈ts,t.length≤b)→(ts.map (·.length)).sum≤ts.length*b
 |[],b,h=>Nat.zero_le _
 |x::r,b,h=>by
  have ih:=Lf (ts:=r) (b:=b) fun t ht=>h t (by simp[ht])
  have hx:=h x (by simp)
  rw[List.map_cons,List.sum_cons,List.length_cons,Nat.succ_mul];omega
theorem shs{G:Gp}{b n:Nat}:∀{ds:List D},(∀d∈ds,∃p,Sh G b n d p)→∃ps,RepDs G ds ps∧PyData.showableAll ps=true∧(∀t∈PyData.shownAll ps,t.length≤b)∧PyData.depthAll ps≤n∧(PyData.shownAll ps).length=ds.length
 |[],_=>⟨[],.nil,rfl,(fun t h=>by simp[PyData.shownAll] at h),Nat.zero_le _,rfl⟩
 |d::ds,h=>by
  obtain⟨p,hp⟩:=h d (by simp)
  obtain⟨ps,h1,h2,h3,h4,h5⟩:=shs (ds:=ds) fun x hx=>h x (by simp[hx])
  refine⟨p::ps,.cons hp.rep h1,?_,fun t ht=>?_,?_,?_⟩
  ·rw[PyData.showableAll,hp.ok,h2];rfl
  ·rw[PyData.shownAll] at ht;rcases List.mem_cons.mp ht with e|e
   ·rw[e];exact hp.len
   ·exact h3 t e
  ·rw[PyData.depthAll];exact Nat.max_le.mpr ⟨hp.dep,h4⟩
  ·rw[PyData.shownAll,List.length_cons,h5];rfl
theorem Ab8{G:Gp}{b n c:Nat}{ds:List D}(h:∀d∈ds,∃p,Sh G b n d p)(hc:ds.length≤c):∃p,Sh G (c*(b+2)+103) (n+1) (.tup ds) p:=by
 obtain⟨ps,h1,h2,h3,h4,h5⟩:=shs h;refine⟨.tuple ps,.tup h1,by rw[PyData.showable];exact h2,?_,by rw[PyData.depth];omega⟩
 rw[PyData.shown];have hl:=tupleText_len_le (PyData.shownAll ps);have hs:=Lf h3;rw[h5] at hs hl;have hm:ds.length*(b+2)≤c*(b+2):=Nat.mul_le_mul_right _ hc
 have:ds.length*(b+2)=ds.length*b+2*ds.length:=by rw[Nat.mul_add];omega
 omega
theorem Uh{G:Gp}{b n c:Nat}{a:Addr}{ds:List D}(e:G a=some (.lst ds))(h:∀d∈ds,∃p,Sh G b n d p)(hc:ds.length≤c):∃p,Sh G (c*(b+2)+103) (n+1) (.ref a) p:=by
 obtain⟨ps,h1,h2,h3,h4,h5⟩:=shs h;refine⟨.list ps,.lst e h1,by rw[PyData.showable];exact h2,?_,by rw[PyData.depth];omega⟩
 rw[PyData.shown];have hl:=listText_len_le (PyData.shownAll ps);have hs:=Lf h3;rw[h5] at hs hl;have hm:ds.length*(b+2)≤c*(b+2):=Nat.mul_le_mul_right _ hc
 have:ds.length*(b+2)=ds.length*b+2*ds.length:=by rw[Nat.mul_add];omega
 omega
theorem Ad1{i:Int}(h:i.natAbs<10 ^ 25):i.natAbs.log2<1920:=by
 by_cases h0:i.natAbs=0
 ·rw[h0];decide
 ·exact Nat.lt_of_lt_of_le ((Nat.log2_lt h0).mpr (Nat.lt_trans h (show 10 ^ 25<2 ^ 100 by decide))) (by decide)
theorem Om{G:Gp}{i:Int}(h:i.natAbs<10 ^ 25):Sh G 30 0 (.int i) (.int i):=by
 refine⟨.int i,decide_eq_true (Ad1 h),?_,Nat.zero_le _⟩
 have:=int_text_length_le10 (a:=i) (k:=25) (by decide) h
 show(Str.ofString (toString i)).length≤30;rw[ofString_length];omega
theorem Sh.more{G:Gp}{b n b' n':Nat}{d:D}{p:PyData}(h:Sh G b n d p)(hb:b≤b')(hn:n≤n'):Sh G b' n' d p:=⟨h.rep,h.ok,Nat.le_trans h.len hb,Nat.le_trans h.dep hn⟩
theorem Aa2{n:Nat}(h:n≤16000000):n≤sizeLine:=by rw[sizeLine_eq];omega
section
variable{P:Program}{w:World}{K:W.Frag}{mg:Str→Option Value}{base:Heap}
abbrev s_L_same:Stmt:=top 51
abbrev X4:List Str:=["_law_found", "_law_due"]
abbrev Db:List Str:=["_law_found", "_law_due"]
theorem Rn:FnScope X4 Db (Ad s_L_same):=⟨rfl,rfl,rfl,by decide +kernel,rfl,by decide +kernel,by decide +kernel⟩
def Ky:DSp:=fun ds G Q _=>∃x y b p,ds=[x,y]∧Sh G b 90 x p∧Sh G b 90 y p∧b≤16000000∧Q (.bl true) G
theorem Zv{f:Addr}{fd:FuncData}(F:Fun K "_law_same" "_law_same" s_L_same f fd)(T:Blt mg):FnOk P w K mg base CX0 1 f fd Db (Ak K Ky):=by
 refine okD F Rn (fun ds G Q E h=>?_) (fun cdv A outer s H XE ds G Q E hr h=>?_)
 ·obtain⟨x,y,b,p,rfl,_⟩:=h;rfl
 ·obtain⟨x,y,b,p,rfl,hx,hy,hb,k⟩:=h;refine⟨_,#["e",#["h",#["7",(@o_eq _),#["R",(@c_repr _ _ hr),T,#["b",#["a",0]]],#["R",(@c_repr _ _ hr),T,#["b",#["a",1]]]]]],?_⟩;simp![];refine⟨p,hx.rep,hx.ok,Aa2 (Nat.le_trans hx.len hb),Nat.le_trans hx.dep (by decide),p,hy.rep,hy.ok,Aa2 (Nat.le_trans hy.len hb),Nat.le_trans hy.dep (by decide),Fq.of ?_⟩
  rw[decide_eq_true rfl];exact k
def Gc(p:Option Int)(w:List Int):Option Int:=match w.getLast? with|some r=>some r|none=>p
theorem Pd{p:Option Int}{r:Int}{w:List Int}:Gc p (r::w)=Gc (some r) w:=by
 unfold Gc;cases w with
 |nil=>rfl
 |cons x t=>rw[List.getLast?_cons_cons,List.getLast?_cons]
def Fi(p:Option Int)(c:List Int)(w:List Int):List (List Int):=(c.filter (okp (Gc p w))).map (w++[·])
theorem Ii:∀{cs:List (List Int)} {p:Option Int} {c:List Int},Ac p (cs++[c])=(Ac p cs).flatMap (Fi p c)
 |[],p,c=>by
  rw[List.nil_append,Ac,Ac,List.flatMap_cons,List.flatMap_nil,List.append_nil];unfold Fi;rw[←List.flatMap_singleton' (c.filter (okp (Gc p []))),List.map_flatMap];rfl
 |d::cs,p,c=>by
  rw[List.cons_append,Ac,Ac,List.flatMap_assoc];refine congrArg (fun f=>(d.filter (okp p)).flatMap f) (funext fun r=>?_);rw[Ii,List.map_flatMap,List.flatMap_map];refine congrArg (fun f=>(Ac (some r) cs).flatMap f) (funext fun w=>?_);unfold Fi;rw[Pd,List.map_map];rfl
theorem En{cs:List (List Int)}{i:Nat}{c:List Int}(h:cs[i]? = some c):Ac none (cs.take (i+1))=(Ac none (cs.take i)).flatMap (Fi none c):=by
 rw[List.take_add_one,h];exact Ii
theorem cnt9{cs:List (List Int)}(hl:cs.length≤7)(h9:∀c∈cs,c.length≤9)(up:∀c∈cs,c.Pairwise (· < ·)):(Ac none cs).length≤9*3 ^ 6:=by
 cases cs with
 |nil=>show 1≤_;decide
 |cons c r=>
  rw[Lu];have h1:=Oi (f:=fun y=>(Ac (some y) r).length) (m:=3 ^ 6) (l:=c.filter (okp none)) fun x _=>by
   refine Nat.le_trans (cnt3 x fun d hd=>up d (by simp[hd])) (Nat.pow_le_pow_right (by decide) ?_)
   rw[List.length_cons] at hl;omega
  have h2:(c.filter (okp none)).length≤9:=Nat.le_trans (List.length_filter_le _ _) (h9 c (by simp))
  exact Nat.le_trans h1 (Nat.mul_le_mul_right _ h2)
theorem Aau{u:List Int}{l:Int}:atI ((u++[l]).map D.int) (-1)=some (.int l):=by
 unfold atI ixN;rw[List.length_map,List.length_append,if_neg (by decide),if_pos (by simp;omega)]
 show((u++[l]).map D.int)[_]? = _;rw[show((-1:Int)+((u.length+[l].length:Nat):Int)).toNat=u.length by simp;omega,List.getElem?_map,List.getElem?_append_right (Nat.le_refl _),Nat.sub_self];rfl
abbrev s_L_ways:Stmt:=top 49
abbrev X2:List Str:=["_law_channel_here", "_law_found", "_law_rows", "_law_longer", "_law_way"]
abbrev p_L_ways:List Str:=["_law_channel_here"]
theorem sc_L_ways:FnScope X2 p_L_ways (Ad s_L_ways):=⟨rfl,rfl,rfl,by decide +kernel,rfl,by decide +kernel,by decide +kernel⟩
theorem nd_L_ways_1:((["_law_row"]:List Str)++(["_law_channel_here", "_law_found", "_law_rows", "_law_longer", "_law_way"]:List Str)).Nodup:=by decide +kernel
theorem nd_L_ways_2:((["_law_row"]:List Str)++(["_law_channel_here", "_law_found", "_law_rows", "_law_longer", "_law_way"]:List Str)).Nodup:=by decide +kernel
def spWays:DSp:=fun ds G Q _=>∃cs,ds=[chD cs]∧ChanN cs∧cs.length≤7∧∀a G',Sub G G'→G a=none→G' a=some (.lst ((Ac none cs).map Ah))→Q (.ref a) G'
theorem Zs{f:Addr}{fd:FuncData}(F:Fun K "_law_ways" "_law_ways" s_L_ways f fd)(T:Nums mg):FnOk P w K mg base CX0 1 f fd p_L_ways (Ak K spWays):=by
 refine okD F sc_L_ways (fun ds G Q E h=>?_) (fun cdv A outer s H XE ds G Q E hr h=>?_)
 ·obtain⟨cs,rfl,_⟩:=h;rfl
 ·obtain⟨cs,rfl,ok,h7,k⟩:=h;refine⟨_,#["c",#["ac",["_law_row"],["_law_channel_here", "_law_found", "_law_rows", "_law_longer", "_law_way"],1,#["n",#["a",0]],#["k",0,nd_L_ways_1],#["u",#["b",#["a",0]]],sc_L_ways.nd,(by first|exact .inl rfl|exact .inr rfl),(by first|exact .inl rfl|exact .inr rfl)],#["c",#["z",#["N",#["a",0]],#["j",2,sc_L_ways.nd],#["c",#["1",3,sc_L_ways.nd],#["c",#["z",#["a",1],#["3",4,sc_L_ways.nd],#["e",#["p",#["aY",#["a",3],#["9",["_law_row"],["_law_channel_here", "_law_found", "_law_rows", "_law_longer", "_law_way"],#["a",2],#["k",0,nd_L_ways_2],#["I",(@qt_chain _ _ _ _ _ _ _ _ _ _ _ _ (@o_le _) (@o_le _) #["2",#["t",#["g",5]]] #["a",0] #["af",#["t",#["g",5]]] (by with_unfolding_all rfl))],#["q",#["g",5],#["u",#["b",#["a",0]]]]]]]]],#["e",#["i",1,sc_L_ways.nd,#["a",3]]]]]],#["e",#["h",#["a",1]]]]],?_⟩
  have lnc:=ok.len;have hhi:=ok.hi;have hup:=ok.up;obtain⟨c0,rest,rfl,hrest⟩:=ok.head;have e0:Bb G (chD (c0::rest)) 0=some (Ah c0):=by show atI _ 0=_;rw[List.map_cons];exact Od
  have e2:Cc ((c0::rest).map Ah) (some 1) none=rest.map Ah:=by rw[Hh];rfl
  simp![e0];refine⟨c0.map D.int,rfl,fun p hp=>Ay (fun x=>.tup [x]) (fun _=>true) (by rw[List.length_map];exact B7 (by have:=lnc c0 (by simp);omega)) (fun _=>rfl) (by decide) (fun x ys hx hl R1 R2 g1 _=>?_) ?_⟩
  ·obtain⟨r,hr,rfl⟩:=List.mem_map.mp hx;simp![hl];exact⟨szl (by decide),Fg.of (g1 rfl)⟩
  ·have em:((c0.map D.int).filter fun _=>true).map (fun x=>D.tup [x])=(Ac none ((c0::rest).take (0+1))).map Ah:=by
    rw[Bd,List.map_map,En (c:=c0) rfl,List.take_zero,Ac,List.flatMap_cons,List.flatMap_nil,List.append_nil];unfold Fi;rw[show c0.filter (okp (Gc none []))=c0 from Bd,List.map_map];rfl
   have g1:Ab G p (.lst (((c0.map D.int).filter fun _=>true).map fun x=>.tup [x])) p=some (.lst ((Ac none ((c0::rest).take (0+1))).map Ah)):=by rw[Aa,em]
   have sb1:Sub G (Ab G p (.lst (((c0.map D.int).filter fun _=>true).map fun x=>.tup [x]))):=Sub.new hp;generalize Ab G p (.lst (((c0.map D.int).filter fun _=>true).map fun x=>.tup [x]))=G1 at *;unfold chD;rw[Dy,e2];refine⟨rest.map Ah,rfl,A4 (fun i σ G'=>∃v2 v3 v4 a,σ=[some (.tup ((c0::rest).map Ah)),some (.ref a),v2,v3,v4]∧Sub G G'∧G a=none∧G' a=some (.lst ((Ac none ((c0::rest).take (i+1))).map Ah))) ⟨none,none,none,p,rfl,sb1,hp,g1⟩ (fun _ _ _ _ _=>rfl) ?_ ?_⟩
   ·rintro i x σ G3 hx ⟨v2,v3,v4,a,rfl,s3,fra,g3⟩;rw[List.getElem?_map] at hx;obtain⟨b,hb,rfl⟩:=Option.map_eq_some_iff.mp hx;have hb':(c0::rest)[i+1]? = some b:=by simpa using hb
    have hbm:=List.mem_of_getElem? hb';simp![];refine⟨szl (by decide),fun p2 hp2=>?_⟩
    have npa:a≠p2:=gne g3 hp2;have f2:=s3.none hp2;generalize hW:Ac none ((c0::rest).take (i+1))=W at *;refine⟨W.map Ah,Am (Ai g3 hp2),A4 (fun j σ G'=>∃v4,σ=[some (.tup ((c0::rest).map Ah)),some (.ref a),some (Ah b),some (.ref p2),v4]∧Sub G G'∧G' a=some (.lst (W.map Ah))∧G' p2=some (.lst (((W.take j).flatMap (Fi none b)).map Ah))) ⟨v4,rfl,s3.skip hp2,Ai g3 hp2,Aa⟩ (fun _ _ _ _ z=>by obtain⟨_,_,_,z,_⟩:=z;exact Am z) ?_ ?_⟩
    ·rintro j x σ G4 hx ⟨v4,rfl,s4,ga,gp⟩;rw[List.getElem?_map] at hx;obtain⟨v,hv,rfl⟩:=Option.map_eq_some_iff.mp hx;simp![];have hvW:=List.mem_of_getElem? hv;have hvl:v.length=i+1:=by
      rw[←hW] at hvW;rw[(mem_ways.mp hvW).len,List.length_take,Nat.min_eq_left (Nat.le_of_lt (List.getElem?_eq_some_iff.mp hb').1)]
     obtain⟨u,l,rfl⟩:∃u l,v=u++[l]:=by
      rcases List.eq_nil_or_concat v with z|⟨u,l,z⟩
      ·rw[z] at hvl;cases hvl
      ·exact⟨u,l,by rw[z,List.concat_eq_append]⟩
     have el:Gc none (u++[l])=some l:=by unfold Gc;rw[List.getLast?_concat]
     have a1:∀{G:Gp},Bb G (Ah (u++[l])) (-1)=some (.int l):=fun {G}=>Aau;refine⟨⟨_,gp⟩,b.map D.int,rfl,fun p3 hp3=>Ay (fun x=>Ah (u++[l]++[A0 x])) (fun x=>Aq l (A0 x)) (by rw[List.length_map];exact B7 (by have:=lnc b hbm;omega)) (fun _=>rfl) (by decide) (fun x ys hx hl R1 R2 g1 g2=>?_) ?_⟩
     ·obtain⟨r,hr,rfl⟩:=List.mem_map.mp hx;simp![hl,a1];have en:=near_iff (a:=l) (b:=r)
      by_cases h1:l-1≤r
      ·rw[if_pos h1]
       by_cases h2:r≤l+1
       ·rw[if_pos h2];refine⟨szl (by decide),?_⟩
        show Oe (.tup ((u++[l]).map D.int)) (.tup ([r].map D.int)) _ _;rw[Aey,←List.map_append];have hi7:i+1<7:=Nat.lt_of_lt_of_le (List.getElem?_eq_some_iff.mp hb').1 h7;refine⟨by rw[List.length_map,List.length_map,hvl];exact szl (by show _+1≤_;omega),Aa,?_⟩
        rw[B9];exact Fg.of (g1 (en.mpr ⟨by omega,by omega⟩))
       ·rw[if_neg h2];exact Fg.of (g2 (Bool.eq_false_iff.mpr fun z=>by have:=en.mp z;omega))
      ·rw[if_neg h1];exact Fg.of (g2 (Bool.eq_false_iff.mpr fun z=>by have:=en.mp z;omega))
     ·have ex:((b.map D.int).filter fun x=>Aq l (A0 x)).map (fun x=>Ah (u++[l]++[A0 x]))=(Fi none b (u++[l])).map Ah:=by
       unfold Fi;rw[el,List.filter_map,List.map_map,List.map_map];rfl
      have et:(W.take (j+1)).flatMap (Fi none b)=(W.take j).flatMap (Fi none b)++Fi none b (u++[l]):=by
       rw[List.take_add_one,hv,List.flatMap_append];simp
      rw[ex];refine⟨p3,rfl,_,Ai gp hp3,_,Aa,?_,Fs.of ⟨_,rfl,Sub.over (s4.skip hp3) f2 _,by rw[Ag npa];exact Ai ga hp3,by rw[Aa,et,List.map_append]⟩⟩
      have e1:((W.take (j+1)).flatMap (Fi none b)).length≤(W.flatMap (Fi none b)).length:=by
       conv=>rhs;rw[←List.take_append_drop (j+1) W,List.flatMap_append,List.length_append]
       omega
      have e2:=cnt9 (cs:=(c0::rest).take (i+1+1)) (by rw[List.length_take];omega) (fun c hc=>lnc c (List.mem_of_mem_take hc)) (fun c hc=>hup c (List.mem_of_mem_take hc))
      rw[En hb',hW] at e2;rw[et,List.length_append] at e1;rw[List.length_map,List.length_map]
      have:9*3 ^ 6≤6561:=by decide
      exact Nat.le_of_lt (B7 (by omega))
    ·rintro σ G4 ⟨v4,rfl,s4,ga,gp⟩;rw[List.length_map,List.take_length] at gp;simp![];exact Fs.of ⟨_,_,_,p2,rfl,s4,f2,by rw[En hb',hW];exact gp⟩
   ·rintro σ G3 ⟨v2,v3,v4,a,rfl,s3,fra,g3⟩;rw[List.length_map] at g3;simp![];rw[show(c0::rest).take (rest.length+1)=c0::rest from List.take_of_length_le (by simp)] at g3
    exact Fq.of (k a G3 s3 fra g3)
def Lg2(cs:List (List Int))(a q:Addr)(G:Gp)(i:Nat)(σ:DSt)(G':Gp):Prop:=∃(gs:List (Int×Int)) (v2 v3:Option D),σ=[some (.ref a),some (.ref q),v2,v3]∧Sub G G'∧G' q=some (.lst (gs.map Bc))∧gs.length=i∧
 ∀(j:Nat) g,gs[j]? = some g→(∃w,Wy cs w∧w[j]? = some g.1)∧(∃w,Wy cs w∧w[j]? = some g.2)∧∀w r,Wy cs w→w[j]? = some r→g.1≤r∧r≤g.2
abbrev s_L_gates:Stmt:=top 55
abbrev Th:List Str:=["_law_some", "_law_found", "_law_column", "_law_rows"]
abbrev p_L_gates:List Str:=["_law_some"]
theorem sc_L_gates:FnScope Th p_L_gates (Ad s_L_gates):=⟨rfl,rfl,rfl,by decide +kernel,rfl,by decide +kernel,by decide +kernel⟩
theorem nd_L_gates_1:((["_law_way"]:List Str)++(["_law_some", "_law_found", "_law_column", "_law_rows"]:List Str)).Nodup:=by decide +kernel
def spLGates2:DSp:=fun ds G Q _=>∃(cs:List (List Int)) (a:Addr),ds=[.ref a]∧ChanN cs∧(Ac none cs).length<10000∧G a=some (.lst ((Ac none cs).map Ah))∧Ac none cs≠[]∧∀p gs G',GatesOk cs gs→Sub G G'→G p=none→G' p=some (.lst (gs.map Bc))→Q (.ref p) G'
theorem O9{f:Addr}{fd:FuncData}(F:Fun K "_law_gates" "_law_gates" s_L_gates f fd)(T:Nums mg):FnOk P w K mg base CX0 1 f fd p_L_gates (Ak K spLGates2):=by
 refine okD F sc_L_gates (fun ds G Q E h=>?_) (fun cdv A outer s H XE ds G Q E hr h=>?_)
 ·obtain⟨_,_,rfl,_⟩:=h;rfl
 ·obtain⟨cs,a,rfl,ok,hcn,hG,hne,k⟩:=h;refine⟨_,#["c",#["1",1,sc_L_gates.nd],#["c",#["ad",T,#["b",#["x",T,#["b",#["n",#["a",0]]]]],#["3",2,sc_L_gates.nd],#["c",#["ac",["_law_way"],["_law_some", "_law_found", "_law_column", "_law_rows"],3,#["a",0],#["k",0,nd_L_gates_1],#["v",#["a",0],#["g",3]],sc_L_gates.nd,(by first|exact .inl rfl|exact .inr rfl),(by first|exact .inl rfl|exact .inr rfl)],#["e",#["p",#["y",#["a",1],#["u",#["d",#["aZ",T,#["b",#["a",3]]],#["b",#["a0",T,#["b",#["a",3]]]]]]]]]]],#["e",#["h",#["a",1]]]]],?_⟩
  have sz0:0≤sizeLine:=Nat.zero_le _;have sz2:=sz2;have hhi:=ok.hi;obtain⟨w0,wr,ew⟩:∃w0 wr,Ac none cs=w0::wr:=by cases h:Ac none cs with|nil=>exact absurd h hne|cons x t=>exact⟨x,t,rfl⟩
  have hw0:Wy cs w0:=mem_ways.mp (by rw[ew];simp)
  simp![sz0];intro q hq;have hG1:=Ai (u:=.lst []) hG hq;refine⟨Ah w0,by rw[ew] at hG1;simp only[Bb,hG1];exact Od,w0.length,by show some _=_;rw[List.length_map],by omega,by rw[hw0.len];omega,?_⟩
  rw[hw0.len,Int.toNat_natCast];refine Bm (Lg2 cs a q G) ⟨[],none,none,rfl,Sub.new hq,Aa,rfl,fun j g e=>by simp at e⟩ ?_ ?_
  ·rintro i σ G2 hi ⟨gs,v2,v3,rfl,s2,hq2,hgl,hgs⟩;have hG2:=s2 _ _ hG;simp![];refine⟨_,Am hG2,fun p hp=>?_⟩;refine Ay (fun x=>.int ((Jg x).getD i 0)) (fun _=>true) (by rw[List.length_map];exact B7 (by omega)) (fun _=>Am (Ai hG2 hp)) (by decide) (fun x ys hx hlz R1 R2 g1 _=>?_) ?_
   ·obtain⟨v,hv,rfl⟩:=List.mem_map.mp hx;have hvl:=(mem_ways.mp hv).len;rw[E5] at g1;have a1:∀{G:Gp},Bb G (Ah v) (i:Int)=some (.int (v.getD i 0)):=fun {G}=>B4 (by rw[List.getElem?_map,List.getElem?_eq_getElem (by omega),List.getD_eq_getElem?_getD,List.getElem?_eq_getElem (by omega)];rfl)
    simp![hlz,a1];exact Fg.of (g1 rfl)
   ·have er:(((Ac none cs).map Ah).filter fun _=>true).map (fun x=>D.int ((Jg x).getD i 0))=((Ac none cs).map fun v=>v.getD i 0).map D.int:=by
     rw[Bd,List.map_map,List.map_map];exact List.map_congr_left fun v _=>by show D.int ((Jg (Ah v)).getD i 0)=_;rw[E5];rfl
    rw[er];have gq:=Ai (u:=.lst (((Ac none cs).map fun v=>v.getD i 0).map D.int)) hq2 hp;have hpos:0<((Ac none cs).map fun v=>v.getD i 0).length:=by rw[List.length_map];exact List.length_pos_iff.mpr hne
    have hmm:∀{M:Int},M∈(Ac none cs).map (fun v=>v.getD i 0)→∃w,Wy cs w∧w[i]? = some M:=fun {M} hM=>by
     obtain⟨v,hv,rfl⟩:=List.mem_map.mp hM;have hv:=mem_ways.mp hv;exact⟨v,hv,by rw[List.getD_eq_getElem?_getD,List.getElem?_eq_getElem (by rw[hv.len];exact hi)];rfl⟩
    refine⟨⟨_,gq⟩,p,rfl,_,Aa,hpos,fun m hm ml=>⟨p,rfl,_,Aa,hpos,fun M hM Ml=>⟨sz2,_,gq,by rw[List.length_map,hgl];exact B7 (by omega),Fs.of ⟨gs++[(m,M)],_,_,rfl,Sub.over (s2.skip hp) hq _,by rw[Aa,List.map_append];rfl,by rw[List.length_append,hgl];rfl,fun j g e=>?_⟩⟩⟩⟩
    rcases Nat.lt_or_ge j gs.length with hj|hj
    ·rw[List.getElem?_append_left hj] at e;exact hgs j g e
    ·rw[List.getElem?_append_right hj] at e;have hj2:j=i:=by
      have:=(List.getElem?_eq_some_iff.mp e).1
      simp at this;omega
     subst hj2;rw[hgl,Nat.sub_self] at e;cases e;refine⟨hmm hm,hmm hM,fun w r hw hr=>?_⟩;have hr2:r∈(Ac none cs).map fun v=>v.getD j 0:=List.mem_map.mpr ⟨w,mem_ways.mpr hw,by show w.getD j 0=r;rw[List.getD_eq_getElem?_getD,hr];rfl⟩
     exact⟨ml r hr2,Ml r hr2⟩
  ·rintro σ G2 ⟨gs,v2,v3,rfl,s2,hq2,hgl,hgs⟩;simp![];exact Fq.of (k q gs G2 ⟨hgl,fun i g e=>(hgs i g e).1,fun i g e=>(hgs i g e).2.1,fun i g w r e h1 h2=>(hgs i g e).2.2 w r h1 h2⟩ s2 hq hq2)
end
section
variable{P:Program}{w:World}{K:W.Frag}{mg:Str→Option Value}{base:Heap}{T0 M CN:Addr}{tbl:List (Str×Addr)}
structure Chn(K:W.Frag)(tbl:List (Str×Addr))(M CN:Addr):Prop where
 exk:ExcK K "NoNumber" CN
 mro:∃tl,mroK K CN=some (.ref CN::tl)∧(Value.ref CN::tl).contains (.ref M)=true
 kind:ExKind K tbl CN 5
theorem wh_go{G:Gp}{Q:DK}(B:Chn K tbl M CN)(k:∀a,G a=none→Q (.tup [.str "number"]) (Ab G a (.any (excIs CN)))):whX K M (Dx K tbl) Q (.ref CN) G:=by
 obtain⟨tl,h1,h2⟩:=B.mro;exact⟨CN,_,tl,rfl,B.exk,h1,h2,fun a ha=>⟨a,CN,5,rfl,Aa,B.kind,k a ha⟩⟩
theorem Aeu{G:Gp}{a p:Addr}{o:GO}(hG:∃b,G a=some (.lst [.int b]))(h:G p=some o)(hn:∀b,o≠.lst [.int b]):a≠p:=fun e=>by
 obtain⟨b,hb⟩:=hG;rw[e,h] at hb;exact hn b (Option.some.inj hb)
theorem Gr.ne:∀{cs:List (List Int)} {p:Option Int} {w:List Int},Gr p cs w→Ac p cs≠[]
 |[],_,_,.nil=>by simp[Ac]
 |_::_,_,_,.cons n t=>fun z=>by
  obtain⟨b,f,_⟩:=n.few;obtain⟨v,hv,_⟩:=f.ex
  have:=mem_wfrom_cons.mpr ⟨_,v,rfl,n.mem,n.ok,hv⟩
  rw[z] at this;simp at this
theorem GatesOk.one{cs:List (List Int)}{gs gs':List (Int×Int)}(h:GatesOk cs gs)(h':GatesOk cs gs'):gs=gs':=by
 apply List.ext_getElem?;intro i
 by_cases hi:i<cs.length
 ·have e1:gs[i]? = some (gs[i]'(by rw[h.len];exact hi)):=List.getElem?_eq_getElem _
  have e2:gs'[i]? = some (gs'[i]'(by rw[h'.len];exact hi)):=List.getElem?_eq_getElem _
  generalize (gs[i]'(by rw[h.len];exact hi))=g at *
  generalize (gs'[i]'(by rw[h'.len];exact hi))=g' at *
  obtain⟨w1,a1,b1⟩:=h.lo i g e1;obtain⟨w2,a2,b2⟩:=h.hi i g e1;obtain⟨w3,a3,b3⟩:=h'.lo i g' e2;obtain⟨w4,a4,b4⟩:=h'.hi i g' e2;have c1:=h'.inn i g' w1 _ e2 a1 b1;have c2:=h'.inn i g' w2 _ e2 a2 b2;have c3:=h.inn i g w3 _ e1 a3 b3;have c4:=h.inn i g w4 _ e1 a4 b4;rw[e1,e2];congr 1;exact Prod.ext (by omega) (by omega)
 ·rw[List.getElem?_eq_none (by rw[h.len];omega),List.getElem?_eq_none (by rw[h'.len];omega)]
theorem Ol{G:Gp}{w:List Int}(hl:w.length≤16)(h:∀i∈w,0≤i∧i≤8):∃p,Sh G 1000 2 (Ah w) p:=by
 obtain⟨p,hp⟩:=Ab8 (G:=G) (b:=30) (n:=0) (c:=16) (ds:=w.map D.int) (fun d hd=>by
  obtain⟨i,hi,rfl⟩:=List.mem_map.mp hd;have h1:=h i hi;have h2:(10:Nat) ^ 25>100:=by decide
  exact⟨_,Om (by omega)⟩) (by rw[List.length_map];exact hl)
 exact⟨p,hp.more (by decide) (by decide)⟩
theorem Vv{G:Gp}{a b:Addr}{ds:List D}{p:PyData}(ha:G a=some (.lst ds))(hb:G b=some (.lst ds))(h:RepD G (.ref a) p):RepD G (.ref b) p:=by
 cases h with
 |lst e r=>rw[ha] at e;cases e;exact .lst hb r
 |dct0 e=>rw[ha] at e;cases e
theorem Vr{G:Gp}{a:Addr}{cs:List (List Int)}{gs:List (Int×Int)}(ok:ChanN cs)(g:GatesOk cs gs)(e:G a=some (.lst (gs.map Bc)))(rows:∀w,Wy cs w→∀i∈w,0≤i∧i≤8):∃p,Sh G 20000 3 (.ref a) p:=by
 obtain⟨p,hp⟩:=Uh (G:=G) (b:=1000) (n:=2) (c:=16) e (fun d hd=>by
  obtain⟨q,hq,rfl⟩:=List.mem_map.mp hd;obtain⟨i,hi⟩:=List.getElem?_of_mem hq;obtain⟨w1,a1,b1⟩:=g.lo i q hi;obtain⟨w2,a2,b2⟩:=g.hi i q hi;have h1:=rows w1 a1 _ (List.mem_of_getElem? b1);have h2:=rows w2 a2 _ (List.mem_of_getElem? b2);exact Ol (w:=[q.1,q.2]) (by simp) (fun i hi=>by
   simp only[List.mem_cons,List.not_mem_nil,or_false] at hi;rcases hi with rfl|rfl
   ·exact h1
   ·exact h2)) (by rw[List.length_map,g.len];exact ok.hi)
 exact⟨p,hp.more (by decide) (by decide)⟩
theorem Wy.rows{cs:List (List Int)}{w:List Int}(ok:ChanN cs)(h:Wy cs w):w.length≤16∧∀i∈w,0≤i∧i≤8:=by
 refine⟨by rw[h.len];exact ok.hi,fun r hr=>?_⟩
 obtain⟨i,hi,rfl⟩:=List.getElem_of_mem hr;have hc:i<cs.length:=by rw[←h.len];exact hi
 have:=h.mem i _ _ (List.getElem?_eq_getElem hi) (List.getElem?_eq_getElem hc)
 exact(ok.rw _ (List.getElem_mem hc)).1 _ this
theorem Gr.rows:∀{cs:List (List Int)} {p:Option Int} {w:List Int},(∀c∈cs,∀i∈c,0≤i∧i≤8)→Gr p cs w→w.length=cs.length∧∀i∈w,0≤i∧i≤8
 |[],_,_,_,.nil=>⟨rfl,fun i hi=>by simp at hi⟩
 |c::cs,_,_,h,.cons n t=>by
  obtain⟨h1,h2⟩:=Gr.rows (fun c' hc'=>h c' (List.mem_cons_of_mem _ hc')) t;exact⟨by rw[List.length_cons,List.length_cons,h1],fun i hi=>by
   rcases List.mem_cons.mp hi with rfl|hi
   ·exact h c (by simp) _ n.mem
   ·exact h2 i hi⟩
def bdP:Option Int→List Int→Int
 |none,w=>bdW w
 |some a,w=>bdI a w
theorem Fe{p:Option Int}{r:Int}{u:List Int}:bdP p (r::u)=bdI r u+Tk p r:=by
 cases p with
 |none=>show bdI r u=bdI r u+0;omega
 |some a=>show(if r≠a then 1 else 0)+bdI r u=bdI r u+Bj a r;unfold Bj;omega
theorem U1{x y:Int×List Int}(h:lt2 x y=false):y.1≤x.1∧(x.1=y.1→A5 x.2 y.2=false):=by
 unfold lt2 at h
 by_cases e:x.1=y.1
 ·rw[if_pos e] at h;exact⟨by omega,fun _=>h⟩
 ·rw[if_neg e] at h;exact⟨by have:=of_decide_eq_false h;omega,fun z=>absurd z e⟩
theorem Gr.least:∀{cs:List (List Int)} {p:Option Int} {w:List Int},w∈Ac p cs→(∀v∈Ac p cs,lt2 (bdP p v,v) (bdP p w,w)=false)→Gr p cs w
 |[],p,w,h,_=>by
  rw[Ac,List.mem_singleton] at h;subst h;exact .nil
 |c::cs,p,w,h,l=>by
  obtain⟨r,u,rfl,hr,ho,hu⟩:=mem_wfrom_cons.mp h;have low:∀v∈Ac (some r) cs,bdI r u≤bdI r v∧(bdI r v=bdI r u→A5 v u=false):=fun v hv=>by
   have h1:=U1 (l (r::v) (mem_wfrom_cons.mpr ⟨r,v,rfl,hr,ho,hv⟩));rw[Fe,Fe] at h1;refine⟨by have:=h1.1;simp only at this;omega,fun e=>?_⟩
   have h2:=h1.2 (by show _+_=_+_;rw[e])
   simp only[A5,if_true] at h2;exact h2
  refine .cons ⟨hr,ho,bdI r u,⟨⟨u,hu,rfl⟩,fun v hv=>(low v hv).1⟩,fun y b' hy oy fy z=>?_⟩ (Gr.least hu fun v hv=>?_)
  ·obtain⟨v,hv,rfl⟩:=fy.ex;have h1:=U1 (l (y::v) (mem_wfrom_cons.mpr ⟨y,v,rfl,hy,oy,hv⟩));rw[Fe,Fe] at h1;unfold A6 at z;simp only at z h1;rcases z with z|⟨z1,z2⟩
   ·omega
   ·have h2:=h1.2 z1;rw[A5,if_neg (by omega),decide_eq_false_iff_not] at h2
    exact h2 z2
  ·show lt2 (bdI r v,v) (bdI r u,u)=false;obtain⟨h1,h2⟩:=low v hv;unfold lt2;simp only
   by_cases e:bdI r v=bdI r u
   ·rw[if_pos e];exact h2 e
   ·rw[if_neg e,decide_eq_false_iff_not];omega
def Due(cs:List (List Int))(G:Gp)(p:Addr):Prop:=(Ac none cs=[]∧G p=some (.lst [.non,.int 0,.non,.non]))∨∃w0 wr ws g gs,Ac none cs=w0::wr∧Gr none cs ws∧GatesOk cs gs∧G g=some (.lst (gs.map Bc))∧G p=some (.lst [Ah w0,.int ((Ac none cs).length:Int),Ah ws,.ref g])
theorem Due.sub{cs:List (List Int)}{G G':Gp}{p:Addr}(h:Due cs G p)(s:Sub G G'):Due cs G' p:=by
 rcases h with ⟨h1,h2⟩|⟨w0,wr,ws,g,gs,h1,h2,h3,h4,h5⟩
 ·exact .inl ⟨h1,s _ _ h2⟩
 ·exact .inr ⟨w0,wr,ws,g,gs,h1,h2,h3,s _ _ h4,s _ _ h5⟩
theorem sh_non{G:Gp}:Sh G 30 0 .non .none:=⟨.non,rfl,by decide,Nat.zero_le _⟩
theorem Qb{G:Gp}{p p':Addr}{d0 d1 d2 d3 d3':D}{q0 q1 q2 q3:PyData}(h:G p=some (.lst [d0,d1,d2,d3]))(h':G p'=some (.lst [d0,d1,d2,d3']))(s0:Sh G 20000 3 d0 q0)(s1:Sh G 20000 3 d1 q1)(s2:Sh G 20000 3 d2 q2)(s3:Sh G 20000 3 d3 q3)(cv:∀q,RepD G d3 q→RepD G d3' q):∃pd,Sh G 100000 90 (.ref p) pd∧Sh G 100000 90 (.ref p') pd:=by
 obtain⟨pd,hpd⟩:=Uh (G:=G) (b:=20000) (n:=3) (c:=4) h (fun d hd=>by
  simp only[List.mem_cons,List.not_mem_nil,or_false] at hd;rcases hd with rfl|rfl|rfl|rfl
  ·exact⟨_,s0⟩
  ·exact⟨_,s1⟩
  ·exact⟨_,s2⟩
  ·exact⟨_,s3⟩) (by simp)
 have rep2:RepD G (.ref p') pd:=by
  have z:=hpd.rep;cases z with
  |lst e r=>
   rw[h] at e;cases e;cases r with
   |cons r1 r=>
    cases r with
    |cons r2 r=>
     cases r with
     |cons r3 r=>
      cases r with
      |cons r4 r=>cases r;exact .lst h' (.cons r1 (.cons r2 (.cons r3 (.cons (cv _ r4) .nil))))
  |dct0 e=>rw[h] at e;cases e
 exact⟨pd,hpd.more (by decide) (by decide),Sh.more ⟨rep2,hpd.ok,hpd.len,hpd.dep⟩ (by decide) (by decide)⟩
theorem Q5{ds:List D}{lo hi:Option Int}{d:D}(h:d∈Cc ds lo hi):d∈ds:=List.mem_of_mem_drop (List.mem_of_mem_take h)
theorem Nv{ds:List D}{lo hi:Option Int}:(Cc ds lo hi).length≤ds.length:=by
 unfold Cc;rw[List.length_take,List.length_drop];omega
theorem Lq{w:List Int}:(PyData.tuple (w.map PyData.int)).canLay0=true:=by
 rw[PyData.canLay0];exact Nh w
theorem Acf{G:Gp}{w:List Int}{Q:DK}(h:Q (.bl false) G):dNeD (Ah w) (Ah w) G Q:=by
 have e:PyData.eqv (.tuple (w.map PyData.int)) (.tuple (w.map PyData.int))=true:=SeqAt.eqv_refl _ Lq;refine⟨_,_,.tup Hr,.tup Hr,Lq,Lq,?_,?_⟩
 ·rw[Nat.min_self,PyData.depth,Nq];decide
 ·rw[e];exact h
abbrev s_L_one_right:Stmt:=top 56
abbrev Ej:List Str:=["_law_channel_here", "_law_some", "_law_due", "_law_lap", "_law_found", "_law_places", "_law_place"]
abbrev Bh:List Str:=["_law_channel_here"]
theorem sc_L_one_right:FnScope Ej Bh (Ad s_L_one_right):=⟨rfl,rfl,rfl,by decide +kernel,rfl,by decide +kernel,by decide +kernel⟩
theorem nd_L_one_right_1:((["_law_way"]:List Str)++(["_law_channel_here", "_law_some", "_law_due", "_law_lap", "_law_found", "_law_places", "_law_place"]:List Str)).Nodup:=by decide +kernel
def Pz(T0:Addr)(q0:Str):DSp:=fun ds G Q _=>∃cs,ds=[chD cs]∧ChanN cs∧cs.length≤7∧(Ac none cs).length<400∧G T0=some (.tbl q0)∧Q (.bl true) G
theorem Adr{f c0:Addr}{fd:FuncData}(F:Fun K "_law_one_right" "_law_one_right" s_L_one_right f fd)(T:Nums mg)(hfc:fd.code=.ref c0)(hC:W.codeHdIn K c0 T0=true)(B:Chn K tbl M CN)(S_said:Said P w K mg base 9 8 "_law_said" M (Dx K tbl))(Aiu:Def P w K mg base CX0 1 "_law_ways" p_L_ways spWays)(Aiv:Def P w K mg base CX0 1 "_law_bends" p_L_bends spLBends)(Aiw:Def P w K mg base CX0 1 "_law_gates" p_L_gates spLGates2)(Aix:Def P w K mg base CX0 1 "_law_same" Db Ky)(Aie:Def P w K mg base CX0 6 "many_ways" p_many_ways spMany)(Aik:Def P w K mg base (CX1 P w) 7 "way_at" p_way_at (spAtX CN))(Aiy:Def P w K mg base CX0 7 "least_way" p_least_way spLeast)(Aiz:Def P w K mg base CX0 6 "straightest" p_straightest spStraight)(Ai0:Def P w K mg base CX0 6 "gates" D1 Li) :
  FnOk P w K mg base CX0 10 f fd Bh (Ak K (Pz T0 ("_law_one_right" ++ ".<locals>." ++ "<lambda>"))):=by
 refine okDc F hfc sc_L_one_right (fun ds G Q E h=>?_) (fun A outer s H XE ds G Q E hr h=>?_)
 ·obtain⟨cs,rfl,_⟩:=h;rfl
 ·obtain⟨cs,rfl,ok,h7,h4,hT0,q⟩:=h;have hcode:(C6 CX0 P w K mg base Ej "_law_one_right" (Ad s_L_one_right) f (.ref c0) A outer s H XE).nox.env.code=.ref c0:=rfl;refine⟨_,#["c",#["P",1,sc_L_one_right.nd,#["f",Aiu,hr,#["b",#["g",0]]]],#["c",#["a1",2,sc_L_one_right.nd],#["c",#["A",#["B",(@o_neE _ _ hr),#["g",1],#["au"]],#["e",#["i",2,sc_L_one_right.nd,#["r",#["d",#["R",(@c_minW _ _ rfl hr),T,#["b",#["g",1]]],#["d",#["x",T,#["b",#["g",1]]],#["d",#["n",#["R",(@c_minB _ _ rfl hr),T,#["b",#["M",["_law_way"],["_law_channel_here", "_law_some", "_law_due", "_law_lap", "_law_found", "_law_places", "_law_place"],#["g",1],#["k",0,nd_L_one_right_1],#["u",#["d",#["f",Aiv,hr,#["b",#["a",0]]],#["b",#["a",0]]]]]]]],#["b",#["f",Aiw,hr,#["b",#["g",1]]]]]]]]]]],#["c",#["W",T,#["j",3,sc_L_one_right.nd],#["c",#["i",4,sc_L_one_right.nd,#["r",#["d",#["f",Aiy,hr,#["b",#["g",0]]],#["d",#["f",Aie,hr,#["b",#["g",0]]],#["d",#["f",Aiz,hr,#["b",#["g",0]]],#["b",#["f",Ai0,hr,#["b",#["g",0]]]]]]]]],#["c",#["H",#["s",#["o",#["f",Aix,hr,#["d",#["a",4],#["b",#["a",2]]]]]]],#["e",#["A",#["as",#["n",#["a",4]]],#["e",#["p",#["y",#["n",#["a",4]],#["w"]]]]]]]]],#["c",#["i",5,sc_L_one_right.nd,#["a2",T,T,#["b",#["x",T,#["b",#["g",1]]]]]],#["c",#["z",#["q",#["q",#["aw",#["a",5],(@qo_none _),(@qo_some _ _ _ #["w"])],#["aw",#["a",5],(@qo_some _ _ _ (@q_neg _ _ _ _ #["w"])),(@qo_none _)]],(@q_step _ _ _ _ _ _ _ #["a",5] #["4",#["U",#["x",T,#["b",#["g",1]]]]])],#["j",6,sc_L_one_right.nd],#["e",#["H",#["B",(@o_neD _ _ hr),#["a3",Aik,hr,passF,#["d",#["g",0],#["b",#["a",6]]]],#["v",#["a4",T,#["b",#["g",1]]],#["a",6]]]]]],#["e",#["h",#["7",(@o_eqD _ _ hr),#["a5",["_law_channel_here", "_law_some"],[0,1],S_said,hr,hcode,hC,(fun _=>rfl),(fun E f c A outer s H hr=>(@q_call _ _ _ _ _ _ _ _ E _ _ _ Aik (L2.Room.mono (hr.deeper _) (by decide)) (passL (fun _ _ _ z=>z)) (@qa_consP _ _ _ _ _ (@q_v3 _ _ 0 _ (by exact⟨rfl,rfl,rfl,rfl⟩)) (@qa_consP _ _ _ _ _ (@q_callB _ _ _ _ _ _ _ _ _ (@c_len _) (T.blt (by decide)) (by decide +kernel) (@qa_consP _ _ _ _ _ (@q_v3 _ _ 1 _ (by exact⟨rfl,rfl,rfl,rfl⟩)) (@qa_nil _) (by rfl)) (by rfl) (by decide) (by decide) (by rfl) (by rfl)) (@qa_nil _) (by rfl)) (by rfl)) (by rfl) (by decide) (by rfl) (by rfl))),(And.intro rfl (And.intro rfl trivial)),(And.intro (And.intro rfl (And.intro rfl rfl)) (And.intro (And.intro rfl (And.intro rfl rfl)) trivial)),(LamScope.mk rfl rfl rfl (by decide +kernel)),(fun _ _ _ _ _=>rfl)],#["av"]]]]]]]]]],?_⟩
  have szz:∀{n:Nat},n≤100→n≤sizeLine:=fun h=>szl (by omega)
  have sz0:0≤sizeLine:=szz (by omega)
  have sz1:1≤sizeLine:=szz (by omega)
  have sz2:2≤sizeLine:=szz (by omega)
  have sz4:4≤sizeLine:=szz (by omega)
  simp![sz4,sz0];refine⟨cs,rfl,ok,h7,fun a G1 s1 fa ga=>?_⟩;refine fun p hp=>?_;have ga1:=Ai (u:=.lst [.non,.int 0,.non,.non]) ga hp;have gp1:Ab G1 p (.lst [.non,.int 0,.non,.non]) p=some (.lst [.non,.int 0,.non,.non]):=Aa;have s2:Sub G (Ab G1 p (.lst [.non,.int 0,.non,.non])):=s1.skip hp;generalize Ab G1 p (.lst [.non,.int 0,.non,.non])=G2 at *;intro p1 hp1;generalize hL:Ku (D3.Mg 2) (fun _=>True) (Ga 3) _ _=L;have tail:∀p G2,Sub G G2→G2 a=some (.lst ((Ac none cs).map Ah))→Due cs G2 p→L [some (chD cs),some (.ref a),some (.ref p),none,none,none,none] G2:=fun p G2 s2 ga du=>by
   subst hL;refine Bm (n:=2) (fun j σ G'=>∃v3 v4,σ=[some (chD cs),some (.ref a),some (.ref p),v3,v4,none,none]∧Sub G2 G') ⟨none,none,rfl,Sub.refl _⟩ ?_ ?_
   ·rintro j σ G3 hj ⟨v3,v4,rfl,s3⟩;have du:=du.sub s3;simp![sz4];refine⟨cs,rfl,ok,cs,rfl,ok,cs,rfl,ok,?_⟩;rcases du with ⟨h0,gp⟩|⟨w0,wr,ws,g,gs,hw0,hws,gok,gg,gp⟩
    ·have eL:Fo cs=.non:=by unfold Fo;rw[h0]
     refine⟨fun _=>⟨cs,rfl,ok,fun _=>fun p1 hp1=>?_,fun z=>absurd h0 z⟩,fun w hw=>absurd h0 hw.ne⟩;rw[eL,h0];have gp':=Ai (u:=.lst [.non,.int 0,.non,.non]) gp hp1;have gA:Ab G3 p1 (.lst [.non,.int 0,.non,.non]) p1=some (.lst [.non,.int 0,.non,.non]):=Aa;have sA:Sub G2 (Ab G3 p1 (.lst [.non,.int 0,.non,.non])):=s3.skip hp1;show Ky _ (Ab G3 p1 (.lst [.non,.int 0,.non,.non])) _ _;generalize Ab G3 p1 (.lst [.non,.int 0,.non,.non])=GA at *;obtain⟨pd,a1,a2⟩:=Qb gA gp' (sh_non.more (by decide) (by decide)) ((Om (by decide)).more (by decide) (by decide)) (sh_non.more (by decide) (by decide)) (sh_non.more (by decide) (by decide)) fun q h=>h
     have e3:Bb GA (.ref p1) 3=some .non:=by rw[As gA];rfl
     exact⟨_,_,_,pd,rfl,a1,a2,by decide,true,rfl,it1 (by decide) ⟨_,e3,it1 (by decide) (Fs.of ⟨_,_,rfl,sA⟩)⟩⟩
    ·have h0:Ac none cs≠[]:=by rw[hw0];simp
     have eL:Fo cs=Ah w0:=by unfold Fo;rw[hw0]
     refine⟨fun z=>absurd z h0,fun ws' hws'=>⟨cs,rfl,ok,fun z=>absurd z h0,fun _ g1 gs' G4 gok' s4 fr1 gg1 p1 hp1=>?_⟩⟩;obtain rfl:=hws.one hws';obtain rfl:=gok.one gok';rw[eL];have gA:Ab G4 p1 (.lst [Ah w0,.int ((Ac none cs).length:Int),Ah ws,.ref g1]) p1=some (.lst [Ah w0,.int ((Ac none cs).length:Int),Ah ws,.ref g1]):=Aa;have gp2:=Ai (u:=.lst [Ah w0,.int ((Ac none cs).length:Int),Ah ws,.ref g1]) (s4 _ _ gp) hp1;have gg2:=Ai (u:=.lst [Ah w0,.int ((Ac none cs).length:Int),Ah ws,.ref g1]) (s4 _ _ gg) hp1;have gg1:=Ai (u:=.lst [Ah w0,.int ((Ac none cs).length:Int),Ah ws,.ref g1]) gg1 hp1;have sA:Sub G2 (Ab G4 p1 (.lst [Ah w0,.int ((Ac none cs).length:Int),Ah ws,.ref g1])):=(s3.trans s4).skip hp1;generalize Ab G4 p1 (.lst [Ah w0,.int ((Ac none cs).length:Int),Ah ws,.ref g1])=GA at *;have hwy0:=(mem_ways.mp (show w0∈Ac none cs by rw[hw0];simp)).rows ok
     have hwys:=hws.rows (fun c hc=>(ok.rw c hc).1);obtain⟨p0,h0'⟩:=Ol (G:=GA) hwy0.1 hwy0.2;obtain⟨p2,h2'⟩:=Ol (G:=GA) (by rw[hwys.1];exact ok.hi) hwys.2
     obtain⟨p3,h3'⟩:=Vr ok gok gg1 fun w hw=>(hw.rows ok).2;have big:(10:Nat) ^ 25>1000000000:=by decide
     obtain⟨pd,a1,a2⟩:=Qb gA gp2 (h0'.more (by decide) (by decide)) ((Om (i:=((Ac none cs).length:Int)) (by omega)).more (by decide) (by decide)) (h2'.more (by decide) (by decide)) h3' fun q h=>Vv gg1 gg2 h
     have e3:Bb GA (.ref p1) 3=some (.ref g1):=by rw[As gA];rfl
     exact⟨_,_,_,pd,rfl,a1,a2,by decide,true,rfl,it1 (by decide) ⟨_,e3,it0 rfl ⟨_,e3,g1,rfl,⟨_,gg1⟩,_,gg1,by rw[List.length_map,gok.len];exact B7 (by have:=ok.hi;omega),Fs.of ⟨_,_,rfl,Sub.over sA (s3.none fr1) _⟩⟩⟩⟩
   ·rintro σ G3 ⟨v3,v4,rfl,s3⟩;simp![];have ga3:=s3 _ _ ga;refine⟨_,Ex ga3,by omega,by rw[List.length_map];omega,fun l hl=>?_⟩
    rw[List.length_map];have hPL:∀d∈D3.Ce 0 ((Ac none cs).length:Int),∃k:Nat,d=.int (k:Int)∧k<(Ac none cs).length:=fun d hd=>by
     obtain⟨k,hk,rfl⟩:=List.mem_map.mp hd
     have:=List.mem_range.mp hk
     exact⟨k,by rw[Int.zero_add],by omega⟩
    have lPL:(D3.Ce 0 ((Ac none cs).length:Int)).length<400:=by unfold D3.Ce;rw[List.length_map,List.length_range];omega
    generalize D3.Ce 0 ((Ac none cs).length:Int)=PL at *;have ga4:=Ai (u:=.lst PL) ga3 hl;have gl4:Ab G3 l (.lst PL) l=some (.lst PL):=Aa;have s4:Sub G2 (Ab G3 l (.lst PL)):=s3.skip hl;generalize Ab G3 l (.lst PL)=G4 at *;refine Fu gl4 fun q1 hq1=>?_;have l1:=Nv (ds:=PL) (lo:=none) (hi:=some 6);have m1:∀d∈Cc PL none (some 6),d∈PL:=fun d hd=>Q5 hd;generalize Cc PL none (some 6)=C1 at *;have ga5:=Ai (u:=.lst C1) ga4 hq1;have gl5:=Ai (u:=.lst C1) gl4 hq1;have gq5:Ab G4 q1 (.lst C1) q1=some (.lst C1):=Aa;have s5:Sub G2 (Ab G4 q1 (.lst C1)):=s4.skip hq1;generalize Ab G4 q1 (.lst C1)=G5 at *;refine Fu gl5 fun q2 hq2=>?_;have l2:=Nv (ds:=PL) (lo:=some (-6)) (hi:=none);have m2:∀d∈Cc PL (some (-6)) none,d∈PL:=fun d hd=>Q5 hd;generalize Cc PL (some (-6)) none=C2 at *;have ga6:=Ai (u:=.lst C2) ga5 hq2;have gl6:=Ai (u:=.lst C2) gl5 hq2;have gq6:=Ai (u:=.lst C2) gq5 hq2;have gr6:Ab G5 q2 (.lst C2) q2=some (.lst C2):=Aa;have s6:Sub G2 (Ab G5 q2 (.lst C2)):=s5.skip hq2;generalize Ab G5 q2 (.lst C2)=G6 at *;refine Hb (zs:=C1++C2) gq6 gr6 rfl (Nat.le_of_lt (B7 (by omega))) fun q3 hq3=>?_
    have ga7:=Ai (u:=.lst (C1++C2)) ga6 hq3;have gl7:=Ai (u:=.lst (C1++C2)) gl6 hq3;have gq7:Ab G6 q3 (.lst (C1++C2)) q3=some (.lst (C1++C2)):=Aa;have s7:Sub G2 (Ab G6 q3 (.lst (C1++C2))):=s6.skip hq3;generalize Ab G6 q3 (.lst (C1++C2))=G7 at *;refine⟨_,Ex ga7,by omega,PL,gl7,fun q4 es hq4 hes les=>?_⟩
    have ga8:=Ai (u:=.lst es) ga7 hq4;have gq8:=Ai (u:=.lst es) gq7 hq4;have gr8:Ab G7 q4 (.lst es) q4=some (.lst es):=Aa;have s8:Sub G2 (Ab G7 q4 (.lst es)):=s7.skip hq4;generalize Ab G7 q4 (.lst es)=G8 at *;refine Hb (zs:=C1++C2++es) gq8 gr8 rfl (by rw[List.length_append];exact Nat.le_of_lt (B7 (by omega))) fun q5 hq5=>⟨_,Am Aa,?_⟩
    have hall:∀d∈C1++C2++es,∃k:Nat,d=.int (k:Int)∧k<(Ac none cs).length:=fun d hd=>hPL d (by
     rcases List.mem_append.mp hd with h|h
     ·rcases List.mem_append.mp h with h|h
      ·exact m1 d h
      ·exact m2 d h
     ·exact hes d h)
    generalize C1++C2++es=CL at *;have ga9:=Ai (u:=.lst CL) ga8 hq5;have gq9:Ab G8 q5 (.lst CL) q5=some (.lst CL):=Aa;have s9:Sub G (Ab G8 q5 (.lst CL)):=s2.trans (s8.skip hq5);generalize Ab G8 q5 (.lst CL)=G9 at *;refine A4 (fun i σ G'=>∃v6,σ=[some (chD cs),some (.ref a),some (.ref p),v3,v4,some (.ref l),v6]∧Sub G9 G') ⟨none,rfl,Sub.refl _⟩ (fun i σ G' _ z=>by obtain⟨_,_,s⟩:=z;exact Am (s _ _ gq9)) ?_ ?_
    ·rintro i x σ GA hx ⟨v6,rfl,sA⟩;obtain⟨k,rfl,hk⟩:=hall x (List.mem_of_getElem? hx);obtain⟨w,hw⟩:∃w,(Ac none cs)[k]? = some w:=⟨_,List.getElem?_eq_getElem hk⟩;have gaA:=sA _ _ ga9;simp![];refine⟨cs,.int k,rfl,ok,⟨_,rfl⟩,fun _=>⟨k,w,rfl,hw,Ac none cs,gaA,by omega,cs.length-1,fun u hu=>by rw[(mem_ways.mp hu).len];have:=ok.lo;omega,Dh ok.up,fun l1 hl1=>⟨Ah w,by rw[As Aa];exact B4 (by rw[List.getElem?_map,hw];rfl),Acf ⟨_,rfl,it1 (by decide) (Fs.of ⟨_,rfl,sA.skip hl1⟩)⟩⟩⟩,fun z=>?_⟩
     simp[A8] at z;omega
    ·rintro σ GA ⟨v6,rfl,sA⟩;have gaA:=sA _ _ ga9;simp![cx_K,sz1];refine⟨(s9.trans sA) _ _ hT0,?_⟩;show T1 (spAtX CN) _ _ [some (chD cs),some (.ref a)] _ _;simp![];refine⟨_,Ex gaA,cs,_,rfl,ok,⟨_,rfl⟩,fun z=>(by simp[A8] at z;omega),fun _=>wh_go B fun ax hax=>?_⟩
     have cl:(PyData.tuple [.str "number"]).canLay0=true:=by simp only[PyData.canLay0,PyData.canLayAll0];decide +kernel
     have e:PyData.eqv (.tuple [.str "number"]) (.tuple [.str "number"])=true:=SeqAt.eqv_refl _ cl;refine⟨.tuple [.str "number"],.tuple [.str "number"],.tup (.cons (.str _) .nil),.tup (.cons (.str _) .nil),cl,cl,by decide,?_⟩
     rw[e];exact⟨G,(s9.trans sA).skip hax,q⟩
  have ga2:=Ai (u:=.lst []) ga1 hp1;have gp2:=Ai (u:=.lst []) gp1 hp1;have s3:Sub G (Ab G2 p1 (.lst [])):=s2.skip hp1;generalize Ab G2 p1 (.lst [])=G3 at *;refine⟨a,rfl,_,ga2,?_⟩;cases hw:Ac none cs with
  |nil=>exact it1 (by simp) (tail p G3 s3 ga2 (.inl ⟨hw,gp2⟩))
  |cons w0 wr=>
   refine it0 (by simp) ⟨a,rfl,Ac none cs,ga2,by rw[hw];simp,fun m hm lm=>?_⟩
   have em:m=w0:=by
    have hs:=Dh (p:=none) ok.up;rw[hw] at hs hm;rcases List.mem_cons.mp hm with e|e
    ·exact e
    ·have h1:=(List.pairwise_cons.mp hs).1 m e;rw[lm w0 (by rw[hw];simp)] at h1;cases h1
   subst em;refine⟨_,Ex ga2,_,Am ga2,fun p3 hp3=>?_⟩;refine Ay (fun x=>bwD (((Cy (Jg x)).length:Int),Jg x)) (fun _=>true) (by rw[List.length_map];exact B7 (by omega)) (fun _=>Am (Ai ga2 hp3)) (by decide) (fun x ys hx hlz R1 R2 g1 _=>?_) ?_
   ·obtain⟨v,hv,rfl⟩:=List.mem_map.mp hx;have hvl:=(mem_ways.mp hv).len;have hlo:=ok.lo;rw[E5] at g1;simp![hlz];exact⟨v,rfl,by omega,by omega,sz2,Aa,by rw[B9];exact Fg.of (g1 rfl)⟩
   ·have er:(((Ac none cs).map Ah).filter fun _=>true).map (fun x=>bwD (((Cy (Jg x)).length:Int),Jg x))=((Ac none cs).map fun v=>(((Cy v).length:Int),v)).map bwD:=by
     rw[Bd,List.map_map,List.map_map];exact List.map_congr_left fun v _=>by show bwD (((Cy (Jg (Ah v))).length:Int),Jg (Ah v))=_;rw[E5];rfl
    rw[er];have ga3:=Ai (u:=.lst (((Ac none cs).map fun v=>(((Cy v).length:Int),v)).map bwD)) ga2 hp3;have s4:Sub G (Ab G3 p3 (.lst (((Ac none cs).map fun v=>(((Cy v).length:Int),v)).map bwD))):=s3.skip hp3;refine⟨p3,rfl,_,Aa,by rw[List.length_map,hw];simp,fun k hk lk=>?_⟩
    generalize Ab G3 p3 (.lst (((Ac none cs).map fun v=>(((Cy v).length:Int),v)).map bwD))=G4 at *;obtain⟨v,hv,rfl⟩:=List.mem_map.mp hk;have gr:Gr none cs v:=Gr.least hv fun u hu=>by
     have:=lk _ (List.mem_map.mpr ⟨u,hu,rfl⟩)
     rw[Ly,Ly] at this;exact this
    refine⟨Ah v,rfl,cs,a,rfl,ok,by omega,ga3,by rw[hw];simp,fun g gs G5 gok s5 frg gg p4 hp4=>tail p4 _ ((s4.trans s5).skip hp4) (Ai (s5 _ _ ga3) hp4) (.inr ⟨m,wr,v,g,gs,hw,gr,gok,Ai gg hp4,?_⟩)⟩
    rw[List.length_map];exact Aa
abbrev qR:Str:="_law_one_right" ++ ".<locals>." ++ "<lambda>"
theorem Aar{cs:List (List Int)}(h1:2≤cs.length)(h2:cs.length≤16)(h:∀c∈cs,c=[]∨∃i,c=[i]∧0≤i∧i≤8):ChanN cs:=⟨h1,h2,fun c hc=>by
 rcases h c hc with rfl|⟨i,rfl,hi⟩
 ·exact⟨fun i hi=>by simp at hi,.nil⟩
 ·exact⟨fun j hj=>by simp at hj;subst hj;exact hi,List.pairwise_singleton _ _⟩⟩
abbrev s_L_right:Stmt:=top 57
abbrev Tg:List Str:=["_law_box_here", "_law_turn", "_law_channel_here"]
abbrev Cj:List Str:=["_law_box_here"]
theorem sc_L_right:FnScope Tg Cj (Ad s_L_right):=⟨rfl,rfl,rfl,by decide +kernel,rfl,by decide +kernel,by decide +kernel⟩
def Lh(T0:Addr)(q0:Str):DSp:=fun ds G Q _=>∃a,ds=[.ref a]∧(∃b,G a=some (.lst [.int b]))∧G T0=some (.tbl q0)∧∀G',Step a G G'→Q (.bl true) G'
theorem Wt{f:Addr}{fd:FuncData}(F:Fun K "_law_right" "_law_right" s_L_right f fd)(T:Nums mg)(Ai1:Def P w K mg base CX0 2 "_law_channel" p_L_channel spLChan)(Ai2:Def P w K mg base CX0 1 "_law_count" p_L_count spCount)(Aij:Def P w K mg base CX0 10 "_law_one_right" Bh (Pz T0 qR)) :
  FnOk P w K mg base CX0 11 f fd Cj (Ak K (Lh T0 qR)):=by
 refine okD F sc_L_right (fun ds G Q E h=>?_) (fun cdv A outer s H XE ds G Q E hr h=>?_)
 ·obtain⟨a,rfl,_⟩:=h;rfl
 ·obtain⟨a,rfl,hG,hT0,q⟩:=h;refine⟨_,#["c",#["W",T,#["j",1,sc_L_right.nd],#["c",#["i",2,sc_L_right.nd,#["f",Ai1,hr,#["G",#["a",0]]]],#["e",#["H",#["K",#["ag",#["B",(@o_lt _),#["f",Ai2,hr,#["b",#["a",2]]],#["w"]],(@qw_and1 _ _ _ _ #["s",#["o",#["f",Aij,hr,#["b",#["a",2]]]]])]]]]]],#["e",#["h",#["Y",#["ax",Aij,hr],#["Y",#["ax",Aij,hr],(@q_one _ _ _ _ _ #["a6",Aij,hr])]]]]],?_⟩;have sz0:0≤sizeLine:=szl (by omega)
  have sz1:1≤sizeLine:=szl (by omega)
  have sz2:2≤sizeLine:=szl (by omega)
  have nT:a≠T0:=Aeu hG hT0 fun b z=>by cases z
  simp![];refine Bm (n:=3) (fun i σ G'=>∃v1 v2,σ=[some (.ref a),v1,v2]∧Step a G G') ⟨none,none,rfl,Step.refl hG⟩ ?_ ?_
  ·rintro i σ G1 hi ⟨v1,v2,rfl,st⟩;simp![];refine⟨a,7,rfl,st.box,by decide,by decide,fun cs G2 s2 ok hl=>?_⟩
   have st2:=st.trans s2;refine⟨cs,rfl,ok,?_⟩;refine⟨_,rfl,?_⟩
   by_cases h4:((Ac none cs).length:Int)<400
   ·exact it0 h4 ⟨cs,rfl,ok,by omega,by omega,st2.get nT hT0,true,rfl,it1 (by decide) (Fs.of ⟨_,_,rfl,st2⟩)⟩
   ·exact it1 h4 (Fs.of ⟨_,_,rfl,st2⟩)
  ·rintro σ G1 ⟨v1,v2,rfl,st⟩;have hT:=st.get nT hT0;simp![sz1,sz2,sz0];have one:∀{cs:List (List Int)} {Q':DK},cs.length=2→(∀c∈cs,c=[]∨∃i,c=[i]∧0≤i∧i≤8)→(Ac none cs).length<400→Q' (.bl true) G1→Pz T0 qR [chD cs] G1 Q' noX:=fun {cs Q'} h1 h2 h3 k=>⟨cs,rfl,Aar (by omega) (by omega) h2,by omega,h3,hT,k⟩
   refine one (cs:=[[0],[1]]) rfl (fun c hc=>?_) (by decide) ⟨true,rfl,it0 rfl (one (cs:=[[0],[2]]) rfl (fun c hc=>?_) (by decide) ⟨true,rfl,it0 rfl (one (cs:=[[],[]]) rfl (fun c hc=>?_) (by decide) (Fq.of (q _ st)))⟩)⟩
   ·simp only[List.mem_cons,List.not_mem_nil,or_false] at hc;rcases hc with rfl|rfl
    ·exact .inr ⟨_,rfl,by decide,by decide⟩
    ·exact .inr ⟨_,rfl,by decide,by decide⟩
   ·simp only[List.mem_cons,List.not_mem_nil,or_false] at hc;rcases hc with rfl|rfl
    ·exact .inr ⟨_,rfl,by decide,by decide⟩
    ·exact .inr ⟨_,rfl,by decide,by decide⟩
   ·simp only[List.mem_cons,List.not_mem_nil,or_false] at hc;rcases hc with rfl|rfl
    ·exact .inl rfl
    ·exact .inl rfl
abbrev s_law:Stmt:=top 58
abbrev N_law:List Str:=["_law_script", "_law_k", "_law_lap"]
abbrev Tw:List Str:=["_law_script"]
theorem sc_law:FnScope N_law Tw (Ad s_law):=⟨rfl,rfl,rfl,by decide +kernel,rfl,by decide +kernel,by decide +kernel⟩
theorem Adt{f:Addr}{fd:FuncData}(F:Fun K "law" "law" s_law f fd)(T:Nums mg)(Ai3:Def P w K mg base CX0 2 "_law_box" p_L_box spBox)(Ai4:Def P w K mg base CX0 11 "_law_right" Cj (Lh T0 qR)):FnOk P w K mg base CX0 12 f fd Tw (Ak K (K0 [(T0,qR)])):=by
 refine okD F sc_law (fun ds G Q E h=>?_) (fun cdv A outer s H XE ds G Q E hr h=>?_)
 ·obtain⟨ns,rfl,_⟩:=h;rfl
 ·obtain⟨ns,rfl,hl,hT,q⟩:=h;have hT0:G T0=some (.tbl qR):=hT (T0,qR) (by simp)
  refine⟨_,#["c",#["ad",T,#["b",#["a7",T,#["0",#["b",#["a8",T,#["G",#["x",T,#["b",#["a",0]]]]]]]]],#["j",1,sc_law.nd],#["e",#["W",T,#["j",2,sc_law.nd],#["e",#["H",#["s",#["o",#["f",Ai4,hr,#["b",#["f",Ai3,hr,#["d",#["a",0],#["d",#["a",1],#["b",#["a",2]]]]]]]]]]]]]],#["e",#["h",(@q_bl _ _ _ _)]]],?_⟩;simp![Ng];have hb:∀n:Int,0≤n→1≤(if (if 4<n then 4 else n)>1 then (if 4<n then 4 else n) else 1)∧(if (if 4<n then 4 else n)>1 then (if 4<n then 4 else n) else 1)≤4:=fun n hn=>by
   by_cases h:4<n
   ·rw[if_pos h];decide
   ·rw[if_neg h]
    by_cases h2:n>1
    ·rw[if_pos h2];omega
    ·rw[if_neg h2];decide
  obtain⟨b1,b2⟩:=hb (ns.length:Nat) (by omega)
  generalize (if (if (4:Int)<(ns.length:Nat) then (4:Int) else (ns.length:Nat))>1 then (if (4:Int)<(ns.length:Nat) then (4:Int) else (ns.length:Nat)) else 1)=m at *;refine⟨by omega,by omega,?_⟩
  refine Bm (fun i σ G'=>∃v1 v2,σ=[some (.lint ns),v1,v2]∧G' T0=some (.tbl qR)) ⟨none,none,rfl,hT0⟩ ?_ ?_
  ·rintro i σ G1 hi ⟨v1,v2,rfl,hT0⟩;simp![];refine Bm (n:=2) (fun j σ G'=>∃v2,σ=[some (.lint ns),some (.int (i:Nat)),v2]∧G' T0=some (.tbl qR)) ⟨v2,rfl,hT0⟩ ?_ ?_
   ·rintro j σ G2 hj ⟨v2,rfl,hT0⟩;simp![];refine⟨ns,(i:Nat),(j:Nat),rfl,⟨by omega,by omega,by omega,by omega⟩,fun p hp n=>?_⟩
    have k0:=Ai (u:=.lst [.int n]) hT0 hp;refine⟨p,rfl,⟨n,Aa⟩,k0,fun G3 st=>⟨true,rfl,it1 (by decide) (Fs.of ⟨_,rfl,?_⟩)⟩⟩
    ·exact st.get (gne hT0 hp).symm k0
   ·rintro σ G2 ⟨v2,rfl,hT0⟩;exact⟨G2,Sub.refl _,_,_,rfl,hT0⟩
  ·rintro σ G1 ⟨v1,v2,rfl,_⟩;simp![];exact Fq.of (q _)
theorem Ta{K:W.Frag}:∀f fd,Fun K "_law_cell" "_law_cell" s_L_cell f fd→Binds K fd p_L_cell []:=fun f fd F=>F.binds (ps:=p_L_cell) fun _ _ _ _ _ _ us hl=>by obtain⟨_,_,rfl⟩:=ln2 hl;rfl
theorem Xv{K:W.Frag}:∀f fd,Fun K "_law_mix" "_law_mix" s_L_mix f fd→Binds K fd D2 []:=fun f fd F=>F.binds (ps:=D2) fun _ _ _ _ _ _ us hl=>by obtain⟨_,_,rfl⟩:=ln2 hl;rfl
theorem Xw{K:W.Frag}:∀f fd,Fun K "_law_box" "_law_box" s_L_box f fd→Binds K fd p_L_box []:=fun f fd F=>F.binds (ps:=p_L_box) fun _ _ _ _ _ _ us hl=>by obtain⟨_,_,_,rfl⟩:=ln3 hl;rfl
theorem S7{K:W.Frag}:∀f fd,Fun K "_law_take" "_law_take" s_L_take f fd→Binds K fd Da []:=fun f fd F=>F.binds (ps:=Da) fun _ _ _ _ _ _ us hl=>by obtain⟨_,_,rfl⟩:=ln2 hl;rfl
theorem Me{K:W.Frag}:∀f fd,Fun K "_law_channel" "_law_channel" s_L_channel f fd→Binds K fd p_L_channel []:=fun f fd F=>F.binds (ps:=p_L_channel) fun _ _ _ _ _ _ us hl=>by obtain⟨_,_,rfl⟩:=ln2 hl;rfl
theorem Pt{K:W.Frag}:∀f fd,Fun K "_law_count" "_law_count" s_L_count f fd→Binds K fd p_L_count []:=fun f fd F=>F.binds (ps:=p_L_count) fun _ _ _ _ _ _ us hl=>by obtain⟨_,rfl⟩:=ln1 hl;rfl
theorem S8{K:W.Frag}:∀f fd,Fun K "_law_same" "_law_same" s_L_same f fd→Binds K fd Db []:=fun f fd F=>F.binds (ps:=Db) fun _ _ _ _ _ _ us hl=>by obtain⟨_,_,rfl⟩:=ln2 hl;rfl
theorem Er{K:W.Frag}:∀f fd,Fun K "is_whole_within" "is_whole_within" s_is_whole_within f fd→Binds K fd p_is_whole_within []:=fun f fd F=>F.binds (ps:=p_is_whole_within) fun _ _ _ _ _ _ us hl=>by obtain⟨_,_,_,rfl⟩:=ln3 hl;rfl
theorem Dv{K:W.Frag}:∀f fd,Fun K "are_rising_within" "are_rising_within" s_are_rising_within f fd→Binds K fd Av []:=fun f fd F=>F.binds (ps:=Av) fun _ _ _ _ _ _ us hl=>by obtain⟨_,_,_,rfl⟩:=ln3 hl;rfl
theorem N5{K:W.Frag}:∀f fd,Fun K "are_rows" "are_rows" s_are_rows f fd→Binds K fd B1 []:=fun f fd F=>F.binds (ps:=B1) fun _ _ _ _ _ _ us hl=>by obtain⟨_,rfl⟩:=ln1 hl;rfl
theorem Jp{K:W.Frag}:∀f fd,Fun K "is_channel" "is_channel" s_is_channel f fd→Binds K fd Bp []:=fun f fd F=>F.binds (ps:=Bp) fun _ _ _ _ _ _ us hl=>by obtain⟨_,rfl⟩:=ln1 hl;rfl
theorem F7{K:W.Frag}:∀f fd,Fun K "check_channel" "check_channel" s_check_channel f fd→Binds K fd p_check_channel []:=fun f fd F=>F.binds (ps:=p_check_channel) fun _ _ _ _ _ _ us hl=>by obtain⟨_,rfl⟩:=ln1 hl;rfl
theorem Mb{K:W.Frag}:∀f fd,Fun K "rows_near" "rows_near" s_rows_near f fd→Binds K fd p_rows_near []:=fun f fd F=>F.binds (ps:=p_rows_near) fun _ _ _ _ _ _ us hl=>by obtain⟨_,_,rfl⟩:=ln2 hl;rfl
theorem Ja{K:W.Frag}:∀f fd,Fun K "ways_onward" "ways_onward" s_ways_onward f fd→Binds K fd p_ways_onward []:=fun f fd F=>F.binds (ps:=p_ways_onward) fun _ _ _ _ _ _ us hl=>by obtain⟨_,rfl⟩:=ln1 hl;rfl
theorem Mc{K:W.Frag}:∀f fd,Fun K "many_ways" "many_ways" s_many_ways f fd→Binds K fd p_many_ways []:=fun f fd F=>F.binds (ps:=p_many_ways) fun _ _ _ _ _ _ us hl=>by obtain⟨_,rfl⟩:=ln1 hl;rfl
theorem S5{K:W.Frag}:∀f fd,Fun K "row_at" "row_at" s_row_at f fd→Binds K fd C9 []:=fun f fd F=>F.binds (ps:=C9) fun _ _ _ _ _ _ us hl=>by obtain⟨_,_,_,rfl⟩:=ln3 hl;rfl
theorem N4{K:W.Frag}:∀f fd,Fun K "way_with" "way_with" s_way_with f fd→Binds K fd Bs []:=fun f fd F=>F.binds (ps:=Bs) fun _ _ _ _ _ _ us hl=>by obtain⟨_,_,rfl⟩:=ln2 hl;rfl
theorem S4{K:W.Frag}:∀f fd,Fun K "way_at" "way_at" s_way_at f fd→Binds K fd p_way_at []:=fun f fd F=>F.binds (ps:=p_way_at) fun _ _ _ _ _ _ us hl=>by obtain⟨_,_,rfl⟩:=ln2 hl;rfl
theorem Md{K:W.Frag}:∀f fd,Fun K "least_way" "least_way" s_least_way f fd→Binds K fd p_least_way []:=fun f fd F=>F.binds (ps:=p_least_way) fun _ _ _ _ _ _ us hl=>by obtain⟨_,rfl⟩:=ln1 hl;rfl
theorem Po{K:W.Frag}:∀f fd,Fun K "step_on" "step_on" s_step_on f fd→Binds K fd Bz []:=fun f fd F=>F.binds (ps:=Bz) fun _ _ _ _ _ _ us hl=>by obtain⟨_,_,rfl⟩:=ln2 hl;rfl
theorem Gm{K:W.Frag}:∀f fd,Fun K "bends_onward" "bends_onward" s_bends_onward f fd→Binds K fd p_bends_onward []:=fun f fd F=>F.binds (ps:=p_bends_onward) fun _ _ _ _ _ _ us hl=>by obtain⟨_,rfl⟩:=ln1 hl;rfl
theorem Jb{K:W.Frag}:∀f fd,Fun K "straightest" "straightest" s_straightest f fd→Binds K fd p_straightest []:=fun f fd F=>F.binds (ps:=p_straightest) fun _ _ _ _ _ _ us hl=>by obtain⟨_,rfl⟩:=ln1 hl;rfl
theorem Jc{K:W.Frag}:∀f fd,Fun K "rows_beyond" "rows_beyond" s_rows_beyond f fd→Binds K fd Bg []:=fun f fd F=>F.binds (ps:=Bg) fun _ _ _ _ _ _ us hl=>by obtain⟨_,_,rfl⟩:=ln2 hl;rfl
theorem Gk{K:W.Frag}:∀f fd,Fun K "rows_reached" "rows_reached" s_rows_reached f fd→Binds K fd p_rows_reached []:=fun f fd F=>F.binds (ps:=p_rows_reached) fun _ _ _ _ _ _ us hl=>by obtain⟨_,rfl⟩:=ln1 hl;rfl
theorem Xu{K:W.Frag}:∀f fd,Fun K "gates" "gates" s_gates f fd→Binds K fd D1 []:=fun f fd F=>F.binds (ps:=D1) fun _ _ _ _ _ _ us hl=>by obtain⟨_,rfl⟩:=ln1 hl;rfl
theorem S6{K:W.Frag}:∀f fd,Fun K "_law_ways" "_law_ways" s_L_ways f fd→Binds K fd p_L_ways []:=fun f fd F=>F.binds (ps:=p_L_ways) fun _ _ _ _ _ _ us hl=>by obtain⟨_,rfl⟩:=ln1 hl;rfl
theorem Pu{K:W.Frag}:∀f fd,Fun K "_law_bends" "_law_bends" s_L_bends f fd→Binds K fd p_L_bends []:=fun f fd F=>F.binds (ps:=p_L_bends) fun _ _ _ _ _ _ us hl=>by obtain⟨_,rfl⟩:=ln1 hl;rfl
theorem Pr{K:W.Frag}:∀f fd,Fun K "_law_gates" "_law_gates" s_L_gates f fd→Binds K fd p_L_gates []:=fun f fd F=>F.binds (ps:=p_L_gates) fun _ _ _ _ _ _ us hl=>by obtain⟨_,rfl⟩:=ln1 hl;rfl
theorem Pp{K:W.Frag}:∀f fd,Fun K "_law_which" "_law_which" s_L_which f fd→Binds K fd p_L_which []:=fun f fd F=>F.binds (ps:=p_L_which) fun _ _ _ _ _ _ us hl=>by obtain⟨_,rfl⟩:=ln1 hl;rfl
theorem S9{K:W.Frag}:∀f fd,Fun K "_law_said" "_law_said" s_L_said f fd→Binds K fd E8 []:=fun f fd F=>F.binds (ps:=E8) fun _ _ _ _ _ _ us hl=>by obtain⟨_,rfl⟩:=ln1 hl;rfl
theorem Jd{K:W.Frag}:∀f fd,Fun K "_law_one_right" "_law_one_right" s_L_one_right f fd→Binds K fd Bh []:=fun f fd F=>F.binds (ps:=Bh) fun _ _ _ _ _ _ us hl=>by obtain⟨_,rfl⟩:=ln1 hl;rfl
theorem Pq{K:W.Frag}:∀f fd,Fun K "_law_right" "_law_right" s_L_right f fd→Binds K fd Cj []:=fun f fd F=>F.binds (ps:=Cj) fun _ _ _ _ _ _ us hl=>by obtain⟨_,rfl⟩:=ln1 hl;rfl
theorem Aev{h:Heap}(X:K.In h)(G:h.Ns mainGlobals mg)(z0:W.nsIn K mainGlobals "len" = some none)(z1:W.nsIn K mainGlobals "range" = some none)(z2:W.nsIn K mainGlobals "abs" = some none)(z3:W.nsIn K mainGlobals "divmod" = some none)(z4:W.nsIn K mainGlobals "max" = some none)(z5:W.nsIn K mainGlobals "min" = some none)(z6:W.nsIn K mainGlobals "tuple" = some none)(z7:W.nsIn K mainGlobals "int" = some none)(z8:W.nsIn K mainGlobals "bool" = some none)(z9:W.nsIn K mainGlobals "list" = some none)(z10:W.nsIn K mainGlobals "str" = some none)(z11:W.nsIn K mainGlobals "isinstance" = some none)(z12:W.nsIn K mainGlobals "all" = some none)(z13:W.nsIn K mainGlobals "sorted" = some none)(z14:W.nsIn K mainGlobals "repr" = some none)(z15:W.nsIn K mainGlobals "dict" = some none)(z16:W.nsIn K mainGlobals "zip" = some none)(z17:W.nsIn K mainGlobals "set" = some none)(z18:W.nsIn K mainGlobals "sum" = some none)(z19:W.nsIn K mainGlobals "reversed" = some none)(z20:W.nsIn K mainGlobals "enumerate" = some none)(z21:W.nsIn K mainGlobals "ValueError" = some none):Blt mg:=⟨fun {x} hx=>by
 simp only[Nw,List.mem_cons,List.not_mem_nil,or_false] at hx;rcases hx with rfl|rfl|rfl|rfl|rfl|rfl|rfl|rfl|rfl|rfl|rfl|rfl|rfl|rfl|rfl|rfl|rfl|rfl|rfl|rfl|rfl|rfl
 ·exact W.mg_none_of X G z0
 ·exact W.mg_none_of X G z1
 ·exact W.mg_none_of X G z2
 ·exact W.mg_none_of X G z3
 ·exact W.mg_none_of X G z4
 ·exact W.mg_none_of X G z5
 ·exact W.mg_none_of X G z6
 ·exact W.mg_none_of X G z7
 ·exact W.mg_none_of X G z8
 ·exact W.mg_none_of X G z9
 ·exact W.mg_none_of X G z10
 ·exact W.mg_none_of X G z11
 ·exact W.mg_none_of X G z12
 ·exact W.mg_none_of X G z13
 ·exact W.mg_none_of X G z14
 ·exact W.mg_none_of X G z15
 ·exact W.mg_none_of X G z16
 ·exact W.mg_none_of X G z17
 ·exact W.mg_none_of X G z18
 ·exact W.mg_none_of X G z19
 ·exact W.mg_none_of X G z20
 ·exact W.mg_none_of X G z21⟩
theorem Z3{h:Heap}(X:K.In h)(G:h.Ns mainGlobals mg)(B:Blt mg){t0 t1 t2:Tok}(a0:W.nsIn K mainGlobals "LEAST_COLUMNS" = some (some (.int 2 t0)))(a1:W.nsIn K mainGlobals "MOST_COLUMNS" = some (some (.int 16 t1)))(a2:W.nsIn K mainGlobals "LAST_ROW" = some (some (.int 8 t2))):Nums mg:=⟨B,⟨t0,W.mg_of X G a0⟩,⟨t1,W.mg_of X G a1⟩,⟨t2,W.mg_of X G a2⟩⟩
structure ClSeen(K:W.Frag)(x:Str)(a:Addr):Prop where
 nm:W.nsIn K mainGlobals x=some (some (.ref a))
 ty:W.typeIn K (.ref a)=some (.type "type")
 ob:W.mroIn K a (.type "object")=some true
theorem Hi{x:Str}:∀{tbl:List (Str×Addr)},x∈tbl.map (·.1)→(x,Et tbl x)∈tbl
 |[],h=>by cases h
 |(y,a)::r,h=>by
  unfold Et;rw[List.lookup_cons]
  by_cases e:x=y
  ·subst e;rw[show(x == x)=true by simp]
   exact List.mem_cons_self
  ·rw[show(x == y)=false by simpa using e]
   exact List.mem_cons_of_mem _ (Hi ((List.mem_cons.mp h).elim (fun q=>absurd q e) id))
theorem Aeo{h:Heap}(X:K.In h)(G:h.Ns mainGlobals mg)(hn:tbl.map (·.1)=Dd)(hs:AllP (fun p:Str×Addr=>ClSeen K p.1 p.2) tbl):Cls K mg tbl:=
 ⟨fun x hx=>W.mg_of X G (hs.get _ (Hi (by rw[hn];exact hx))).nm,fun x hx=>⟨(hs.get _ (Hi (by rw[hn];exact hx))).ty,(hs.get _ (Hi (by rw[hn];exact hx))).ob⟩⟩
theorem Aew{x:Str}{j k:Nat}:∀{tbl:List (Str×Addr)},(tbl.map (·.1)).Nodup→(tbl.map (·.1))[j]? = some x→((x,Et tbl x),j+k)∈tbl.zipIdx k
 |tbl,nd,h=>by
  obtain⟨p,hp,e⟩:=Option.map_eq_some_iff.mp (by rw[List.getElem?_map] at h;exact h)
  have hm:=Hi (tbl:=tbl) (x:=x) (List.mem_of_getElem? h);obtain⟨i,hi,ei⟩:=List.getElem_of_mem hm;have hj:j<tbl.length:=(List.getElem?_eq_some_iff.mp hp).1;have ij:i=j:=by
   have h1:(tbl.map (·.1))[i]? = some x:=by rw[List.getElem?_map,List.getElem?_eq_getElem hi,ei];rfl
   have a1:=(List.getElem?_eq_some_iff.mp h1);have a2:=(List.getElem?_eq_some_iff.mp h);exact(List.getElem_inj nd).mp (a1.2.trans a2.2.symm)
  subst ij;refine List.mem_of_getElem? (i:=i) ?_;rw[List.getElem?_zipIdx,List.getElem?_eq_getElem hi,ei];simp[Nat.add_comm]
theorem Aah{i:Nat}(hn:tbl.map (·.1)=Dd)(hi:i<15)(ga:W.findIn K (.ref CN) "__getattribute__" = some (some (.builtin "BaseException.__getattribute__")))(gt:W.findIn K (.ref CN) "__getattr__" = some none)(cl:W.findIn K (.ref CN) "__class__" = some (some (.builtin "object.__class__")))(ob:W.mroIn K CN (.type "object")=some true)(be:W.mroIn K CN (.type "BaseException")=some true)(ve:W.mroIn K CN (.type "ValueError")=some true)(ms:AllP (fun p:(Str×Addr)×Nat=>W.mroIn K CN (.ref p.1.2)=some (p.2 == i)) tbl.zipIdx)(ne:AllP (fun p:(Str×Addr)×Nat=>CN=p.1.2→(p.2 == i)=true) tbl.zipIdx):ExKind K tbl CN i:=
 ⟨⟨ga,gt,cl,ob,be⟩,ve,hi,fun j x hx=>by
  have hm:((x,Et tbl x),j+0)∈tbl.zipIdx 0:=Aew (by rw[hn];decide +kernel) (by rw[hn];exact hx)
  exact⟨ms.get _ hm,ne.get _ hm⟩⟩
theorem U0{C:Addr}{oc:Value}{od:Option Addr}{cd:ClassData}{sl:Array (Option Value)}{tl:List Value}(l:K.lookup C=some ⟨oc,od,.cls cd,sl⟩)(e:cd.mro=.ref C::tl):mroK K C=some (.ref C::tl):=by
 unfold mroK;rw[l];exact congrArg some e
structure LamIs(K:W.Frag)(x:Str)(st:Stmt)(T0:Addr):Prop where
 ex:∃f fd c0,Fun K x x st f fd∧W.nsIn K mainGlobals x=some (some (.ref f))∧W.keepIn K (.ref f)=true∧fd.code=.ref c0∧W.codeHdIn K c0 T0=true
theorem Ni{x:Str}{st:Stmt}{f c0:Addr}{od an:Option Addr}{sl:Array (Option Value)}{oc kV dc pm ct:Value}(a:W.nsIn K mainGlobals x=some (some (.ref f)))(l:K.lookup f=some ⟨oc,od,.func (W.fnOf x x (D8 st) (Bv st) (Ad st) .none kV dc pm an (.ref c0) ct),sl⟩)(c:W.codeIn K (.ref c0) x=true)(k:W.keepIn K (.ref f)=true)(t:W.codeHdIn K c0 T0=true):LamIs K x st T0:=
 ⟨f,_,c0,U6 l c k,a,k,rfl,t⟩
theorem Aao{h:Heap}{x:Str}{st:Stmt}{k:Nat}{ps:List Str}{sp:DSp}(I:FnIs K x st)(X:K.In h)(G:h.Ns mainGlobals mg)(hb:∀f fd,Fun K x x st f fd→Binds K fd ps [])(ok:∀f fd,Fun K x x st f fd→FnOk P w K mg base (CX1 P w) k f fd ps (Ak K sp)):Def P w K mg base (CX1 P w) k x ps sp:=by
 obtain⟨f,fd,F,a,kp⟩:=I.ex;exact⟨f,fd,ok f fd F,W.mg_of X G a,kp,hb f fd F⟩
structure MkIs(K:W.Frag)(M:Addr):Prop where
 exk:ExcK K "MarkError" M
 mro:∃tm,mroK K M=some (.ref M::tm)∧tm.contains (.type "BaseException")=true
theorem Aex{h:Heap}(X:K.In h)(G:h.Ns mainGlobals mg)(T:Nums mg)(Z:Cls K mg tbl)(C:Chn K tbl M CN)(Mk:MkIs K M)(J_L_one_right:LamIs K "_law_one_right" s_L_one_right T0)(Ai5:FnIs K "_law_cell" s_L_cell)(Ai6:FnIs K "_law_mix" s_L_mix)(Ai7:FnIs K "_law_box" s_L_box)(Ai8:FnIs K "_law_take" s_L_take)(Ai9:FnIs K "_law_channel" s_L_channel)(Aja:FnIs K "_law_count" s_L_count)(Ajb:FnIs K "_law_same" s_L_same)(Ajc:FnIs K "is_whole_within" s_is_whole_within)(Ajd:FnIs K "are_rising_within" s_are_rising_within)(Aje:FnIs K "are_rows" s_are_rows)(Ajf:FnIs K "is_channel" s_is_channel)(Ajg:FnIs K "check_channel" s_check_channel)(Ajh:FnIs K "rows_near" s_rows_near)(Aji:FnIs K "ways_onward" s_ways_onward)(Ajj:FnIs K "many_ways" s_many_ways)(Ajk:FnIs K "row_at" s_row_at)(Ajl:FnIs K "way_with" s_way_with)(Ajm:FnIs K "way_at" s_way_at)(Ajn:FnIs K "least_way" s_least_way)(Ajo:FnIs K "step_on" s_step_on)(Ajp:FnIs K "bends_onward" s_bends_onward)(Ajq:FnIs K "straightest" s_straightest)(Ajr:FnIs K "rows_beyond" s_rows_beyond)(Ajs:FnIs K "rows_reached" s_rows_reached)(Ajt:FnIs K "gates" s_gates)(Aju:FnIs K "_law_ways" s_L_ways)(Ajv:FnIs K "_law_bends" s_L_bends)(Ajw:FnIs K "_law_gates" s_L_gates)(Ajx:FnIs K "_law_which" s_L_which)(Ajy:FnIs K "_law_said" s_L_said)(Ajz:FnIs K "_law_right" s_L_right){f:Addr}{fd:FuncData}(F:Fun K "law" "law" s_law f fd):FnOk P w K mg base CX0 12 f fd Tw (Ak K (K0 [(T0,qR)])):=by
 have Ail:Def P w K mg base CX0 1 "_law_cell" p_L_cell spCell:=Ax Ai5 X G Ta fun f fd F=>Z1 F T.toBlt;have Aim:Def P w K mg base CX0 1 "_law_mix" D2 Mj:=Ax Ai6 X G Xv fun f fd F=>Ads F T.toBlt;have Ai3:Def P w K mg base CX0 2 "_law_box" p_L_box spBox:=Ax Ai7 X G Xw fun f fd F=>Adu F T.toBlt Ail Aim;have Aif:Def P w K mg base CX0 1 "_law_take" Da Kw:=Ax Ai8 X G S7 fun f fd F=>Zt F T.toBlt;have Ai1:Def P w K mg base CX0 2 "_law_channel" p_L_channel spLChan:=Ax Ai9 X G Me fun f fd F=>Wv F T.toBlt Aif;have Ai2:Def P w K mg base CX0 1 "_law_count" p_L_count spCount:=Ax Aja X G Pt fun f fd F=>Wx F T;have Aix:Def P w K mg base CX0 1 "_law_same" Db Ky:=Ax Ajb X G S8 fun f fd F=>Zv F T.toBlt;have Aig:Def P w K mg base CX0 1 "is_whole_within" p_is_whole_within spWhole:=Ax Ajc X G Er fun f fd F=>Wp F T;have Ain:Def P w K mg base CX0 2 "are_rising_within" Av E4:=Ax Ajd X G Dv fun f fd F=>Rx F T Aig;have Aio:Def P w K mg base CX0 3 "are_rows" B1 Kz:=Ax Aje X G N5 fun f fd F=>Zx F T Ain;have Aip:Def P w K mg base CX0 4 "is_channel" Bp K1:=Ax Ajf X G Jp fun f fd F=>Z0 F T Aio;have Aic:Def P w K mg base CX0 5 "check_channel" p_check_channel spCheckC:=Ax Ajg X G F7 fun f fd F=>R0 F T Aip;have Aib:Def P w K mg base CX0 1 "rows_near" p_rows_near spNear:=Ax Ajh X G Mb fun f fd F=>Zy F T;have Aid:Def P w K mg base CX0 2 "ways_onward" p_ways_onward spOnward:=Ax Aji X G Ja fun f fd F=>Ry F T Aib;have Aie:Def P w K mg base CX0 6 "many_ways" p_many_ways spMany:=Ax Ajj X G Mc fun f fd F=>Zz F T Aic Aid;have Air:Def P w K mg base CX0 1 "row_at" C9 Lg:=Ax Ajk X G S5 fun f fd F=>Ws F T;have Aih:Def P w K mg base CX0 3 "way_with" Bs Kv:=Ax Ajl X G N4 fun f fd F=>Zr F T Aid Aib Air;have Aik:Def P w K mg base (CX1 P w) 7 "way_at" p_way_at (spAtX CN):=Aao Ajm X G S4 fun f fd F=>ok_at F T C.exk Aie Aig Aih;have Aiy:Def P w K mg base CX0 7 "least_way" p_least_way spLeast:=Ax Ajn X G Md fun f fd F=>Wu F T Aie Aih;have Aii:Def P w K mg base CX0 2 "step_on" Bz Kx:=Ax Ajo X G Po fun f fd F=>Zu F T Aib;have Ais:Def P w K mg base CX0 3 "bends_onward" p_bends_onward spBends:=Ax Ajp X G Gm fun f fd F=>Wz F T Aii;have Aiz:Def P w K mg base CX0 6 "straightest" p_straightest spStraight:=Ax Ajq X G Jb fun f fd F=>Nz F T Aic Ais Aii;have Aiq:Def P w K mg base CX0 2 "rows_beyond" Bg Hq:=Ax Ajr X G Jc fun f fd F=>R3 F T Aib;have Ait:Def P w K mg base CX0 3 "rows_reached" p_rows_reached spReached:=Ax Ajs X G Gk fun f fd F=>O8 F T Aiq;have Ai0:Def P w K mg base CX0 6 "gates" D1 Li:=Ax Ajt X G Xu fun f fd F=>Ww F T Aic Ait Aid;have Aiu:Def P w K mg base CX0 1 "_law_ways" p_L_ways spWays:=Ax Aju X G S6 fun f fd F=>Zs F T;have Aiv:Def P w K mg base CX0 1 "_law_bends" p_L_bends spLBends:=Ax Ajv X G Pu fun f fd F=>Rz F T.toBlt;have Aiw:Def P w K mg base CX0 1 "_law_gates" p_L_gates spLGates2:=Ax Ajw X G Pr fun f fd F=>O9 F T;obtain⟨fw,fdw,FW,aw,kw⟩:=Ajx.ex;obtain⟨fs,fds,FS,as,ks⟩:=Ajy.ex;obtain⟨tm,hm1,hm2⟩:=Mk.mro;have S:Said P w K mg base 9 8 "_law_said" M (Dx K tbl):=Zw (k:=8) (kr:=8) FS Mk.exk (W.mg_of X G Mk.exk.nm) hm1 hm2 (Wq FW T.toBlt Z) (W.mg_of X G aw) kw (Pp _ _ FW) (by decide) (Nat.le_refl _) (W.mg_of X G as) (S9 _ _ FS)
 obtain⟨fr,fdr,c1,FR,ar,kr,hr1,hr2⟩:=J_L_one_right.ex;have Aij:Def P w K mg base CX0 10 "_law_one_right" Bh (Pz T0 qR):=⟨fr,fdr,Adr FR T hr1 hr2 C S Aiu Aiv Aiw Aix Aie Aik Aiy Aiz Ai0,W.mg_of X G ar,kr,Jd _ _ FR⟩;have Ai4:Def P w K mg base CX0 11 "_law_right" Cj (Lh T0 qR):=Ax Ajz X G Pq fun f fd F=>Wt F T Ai1 Ai2 Aij;exact Adt F T Ai3 Ai4
end
end K2
open PySem PySem.W PyProof.Rows L2 D3
set_option maxRecDepth 100000 in
set_option maxHeartbeats 0 in
theorem PySem.Challenge.cw_laidmarks_k32_ways_one_by_one_holds : PySem.Challenge.rw_laidmarks_k32_ways_one_by_one.Holds := by
  w_on;o_law;k_head;(case hw=>w_witness2)
  k_fill
  refine D3.Vj (l:=PySem.Challenge.rw_laidmarks_k32_ways_one_by_one) (n:=63) (k:=12) (x:="_law_script") (ts:=[448]) (CX:=CX0) (sp:=fun K=>Ak K (K0 [(448,K2.qR)])) ?I rfl (by decide) rfl ⟨rfl,by decide,by decide,rfl⟩ (fun w h Y=>⟨W.km_in_of Y,fun T hT=>W.km_tabs_of Y T (by (obtain hT:=List.mem_singleton.mp hT;subst hT;decide))⟩) ?C ?F (Aaf [(448,K2.qR)] (by decide)) (fun _ _ _ _ z=>z)
  case I=>first | rfl | decide
  case C=>
    intro w h KX T hT;obtain hT:=List.mem_singleton.mp hT;subst hT;have J_L_one_right:K2.LamIs (KOf KX) "_law_one_right" K2.s_L_one_right 448:=by (dsimp only [KOf];refine' K2.Ni ?a ?l ?c ?k ?t;(case a=>k_is);(case l=>k_is);(case c=>k_is);(case k=>k_is);(case t=>kernel_rfl))
    obtain ⟨_,_,c0,_,_,_,_,hc⟩:=J_L_one_right.ex;exact ⟨⟨c0,hc⟩,by kernel_rfl⟩
  case F=>
    intro w mg fa h KX G hmg;have Ai5:FnIs (KOf KX) "_law_cell" K2.s_L_cell:=by (dsimp only [KOf];refine' An ?a ?l ?c ?k;(case a=>k_is);(case l=>k_is);(case c=>k_is);(case k=>k_is))
    have Ai6:FnIs (KOf KX) "_law_mix" K2.s_L_mix:=by (dsimp only [KOf];refine' An ?a ?l ?c ?k;(case a=>k_is);(case l=>k_is);(case c=>k_is);(case k=>k_is))
    have Ai7:FnIs (KOf KX) "_law_box" K2.s_L_box:=by (dsimp only [KOf];refine' An ?a ?l ?c ?k;(case a=>k_is);(case l=>k_is);(case c=>k_is);(case k=>k_is))
    have Ai8:FnIs (KOf KX) "_law_take" K2.s_L_take:=by (dsimp only [KOf];refine' An ?a ?l ?c ?k;(case a=>k_is);(case l=>k_is);(case c=>k_is);(case k=>k_is))
    have Ai9:FnIs (KOf KX) "_law_channel" K2.s_L_channel:=by (dsimp only [KOf];refine' An ?a ?l ?c ?k;(case a=>k_is);(case l=>k_is);(case c=>k_is);(case k=>k_is))
    have Aja:FnIs (KOf KX) "_law_count" K2.s_L_count:=by (dsimp only [KOf];refine' An ?a ?l ?c ?k;(case a=>k_is);(case l=>k_is);(case c=>k_is);(case k=>k_is))
    have Ajb:FnIs (KOf KX) "_law_same" K2.s_L_same:=by (dsimp only [KOf];refine' An ?a ?l ?c ?k;(case a=>k_is);(case l=>k_is);(case c=>k_is);(case k=>k_is))
    have Ajc:FnIs (KOf KX) "is_whole_within" K2.s_is_whole_within:=by (dsimp only [KOf];refine' An ?a ?l ?c ?k;(case a=>k_is);(case l=>k_is);(case c=>k_is);(case k=>k_is))
    have Ajd:FnIs (KOf KX) "are_rising_within" K2.s_are_rising_within:=by (dsimp only [KOf];refine' An ?a ?l ?c ?k;(case a=>k_is);(case l=>k_is);(case c=>k_is);(case k=>k_is))
    have Aje:FnIs (KOf KX) "are_rows" K2.s_are_rows:=by (dsimp only [KOf];refine' An ?a ?l ?c ?k;(case a=>k_is);(case l=>k_is);(case c=>k_is);(case k=>k_is))
    have Ajf:FnIs (KOf KX) "is_channel" K2.s_is_channel:=by (dsimp only [KOf];refine' An ?a ?l ?c ?k;(case a=>k_is);(case l=>k_is);(case c=>k_is);(case k=>k_is))
    have Ajg:FnIs (KOf KX) "check_channel" K2.s_check_channel:=by (dsimp only [KOf];refine' An ?a ?l ?c ?k;(case a=>k_is);(case l=>k_is);(case c=>k_is);(case k=>k_is))
    have Ajh:FnIs (KOf KX) "rows_near" K2.s_rows_near:=by (dsimp only [KOf];refine' An ?a ?l ?c ?k;(case a=>k_is);(case l=>k_is);(case c=>k_is);(case k=>k_is))
    have Aji:FnIs (KOf KX) "ways_onward" K2.s_ways_onward:=by (dsimp only [KOf];refine' An ?a ?l ?c ?k;(case a=>k_is);(case l=>k_is);(case c=>k_is);(case k=>k_is))
    have Ajj:FnIs (KOf KX) "many_ways" K2.s_many_ways:=by (dsimp only [KOf];refine' An ?a ?l ?c ?k;(case a=>k_is);(case l=>k_is);(case c=>k_is);(case k=>k_is))
    have Ajk:FnIs (KOf KX) "row_at" K2.s_row_at:=by (dsimp only [KOf];refine' An ?a ?l ?c ?k;(case a=>k_is);(case l=>k_is);(case c=>k_is);(case k=>k_is))
    have Ajl:FnIs (KOf KX) "way_with" K2.s_way_with:=by (dsimp only [KOf];refine' An ?a ?l ?c ?k;(case a=>k_is);(case l=>k_is);(case c=>k_is);(case k=>k_is))
    have Ajm:FnIs (KOf KX) "way_at" K2.s_way_at:=by (dsimp only [KOf];refine' An ?a ?l ?c ?k;(case a=>k_is);(case l=>k_is);(case c=>k_is);(case k=>k_is))
    have Ajn:FnIs (KOf KX) "least_way" K2.s_least_way:=by (dsimp only [KOf];refine' An ?a ?l ?c ?k;(case a=>k_is);(case l=>k_is);(case c=>k_is);(case k=>k_is))
    have Ajo:FnIs (KOf KX) "step_on" K2.s_step_on:=by (dsimp only [KOf];refine' An ?a ?l ?c ?k;(case a=>k_is);(case l=>k_is);(case c=>k_is);(case k=>k_is))
    have Ajp:FnIs (KOf KX) "bends_onward" K2.s_bends_onward:=by (dsimp only [KOf];refine' An ?a ?l ?c ?k;(case a=>k_is);(case l=>k_is);(case c=>k_is);(case k=>k_is))
    have Ajq:FnIs (KOf KX) "straightest" K2.s_straightest:=by (dsimp only [KOf];refine' An ?a ?l ?c ?k;(case a=>k_is);(case l=>k_is);(case c=>k_is);(case k=>k_is))
    have Ajr:FnIs (KOf KX) "rows_beyond" K2.s_rows_beyond:=by (dsimp only [KOf];refine' An ?a ?l ?c ?k;(case a=>k_is);(case l=>k_is);(case c=>k_is);(case k=>k_is))
    have Ajs:FnIs (KOf KX) "rows_reached" K2.s_rows_reached:=by (dsimp only [KOf];refine' An ?a ?l ?c ?k;(case a=>k_is);(case l=>k_is);(case c=>k_is);(case k=>k_is))
    have Ajt:FnIs (KOf KX) "gates" K2.s_gates:=by (dsimp only [KOf];refine' An ?a ?l ?c ?k;(case a=>k_is);(case l=>k_is);(case c=>k_is);(case k=>k_is))
    have Aju:FnIs (KOf KX) "_law_ways" K2.s_L_ways:=by (dsimp only [KOf];refine' An ?a ?l ?c ?k;(case a=>k_is);(case l=>k_is);(case c=>k_is);(case k=>k_is))
    have Ajv:FnIs (KOf KX) "_law_bends" K2.s_L_bends:=by (dsimp only [KOf];refine' An ?a ?l ?c ?k;(case a=>k_is);(case l=>k_is);(case c=>k_is);(case k=>k_is))
    have Ajw:FnIs (KOf KX) "_law_gates" K2.s_L_gates:=by (dsimp only [KOf];refine' An ?a ?l ?c ?k;(case a=>k_is);(case l=>k_is);(case c=>k_is);(case k=>k_is))
    have Ajx:FnIs (KOf KX) "_law_which" K2.s_L_which:=by (dsimp only [KOf];refine' An ?a ?l ?c ?k;(case a=>k_is);(case l=>k_is);(case c=>k_is);(case k=>k_is))
    have Ajy:FnIs (KOf KX) "_law_said" K2.s_L_said:=by (dsimp only [KOf];refine' An ?a ?l ?c ?k;(case a=>k_is);(case l=>k_is);(case c=>k_is);(case k=>k_is))
    have Ajz:FnIs (KOf KX) "_law_right" K2.s_L_right:=by (dsimp only [KOf];refine' An ?a ?l ?c ?k;(case a=>k_is);(case l=>k_is);(case c=>k_is);(case k=>k_is))
    have I_law:FnIs (KOf KX) "law" K2.s_law:=by (dsimp only [KOf];refine' An ?a ?l ?c ?k;(case a=>k_is);(case l=>k_is);(case c=>k_is);(case k=>k_is))
    have J_L_one_right:K2.LamIs (KOf KX) "_law_one_right" K2.s_L_one_right 448:=by (dsimp only [KOf];refine' K2.Ni ?a ?l ?c ?k ?t;(case a=>k_is);(case l=>k_is);(case c=>k_is);(case k=>k_is);(case t=>kernel_rfl))
    have B:K2.Blt mg:=by (refine' K2.Aev KX G ?z0 ?z1 ?z2 ?z3 ?z4 ?z5 ?z6 ?z7 ?z8 ?z9 ?z10 ?z11 ?z12 ?z13 ?z14 ?z15 ?z16 ?z17 ?z18 ?z19 ?z20 ?z21;(case z0=>k_is);(case z1=>k_is);(case z2=>k_is);(case z3=>k_is);(case z4=>k_is);(case z5=>k_is);(case z6=>k_is);(case z7=>k_is);(case z8=>k_is);(case z9=>k_is);(case z10=>k_is);(case z11=>k_is);(case z12=>k_is);(case z13=>k_is);(case z14=>k_is);(case z15=>k_is);(case z16=>k_is);(case z17=>k_is);(case z18=>k_is);(case z19=>k_is);(case z20=>k_is);(case z21=>k_is))
    have N:K2.Nums mg:=by (refine' K2.Z3 KX G B ?a0 ?a1 ?a2;(case a0=>k_is);(case a1=>k_is);(case a2=>k_is))
    have c_NoSea:K2.ClSeen (KOf KX) "NoSea" 37:=by (dsimp only [KOf];refine' K2.ClSeen.mk ?a ?b ?c;(case a=>k_is);(case b=>k_is);(case c=>k_is))
    have c_NoCell:K2.ClSeen (KOf KX) "NoCell" 49:=by (dsimp only [KOf];refine' K2.ClSeen.mk ?a ?b ?c;(case a=>k_is);(case b=>k_is);(case c=>k_is))
    have c_NoDraught:K2.ClSeen (KOf KX) "NoDraught" 61:=by (dsimp only [KOf];refine' K2.ClSeen.mk ?a ?b ?c;(case a=>k_is);(case b=>k_is);(case c=>k_is))
    have c_NoDay:K2.ClSeen (KOf KX) "NoDay" 73:=by (dsimp only [KOf];refine' K2.ClSeen.mk ?a ?b ?c;(case a=>k_is);(case b=>k_is);(case c=>k_is))
    have c_NoNotices:K2.ClSeen (KOf KX) "NoNotices" 85:=by (dsimp only [KOf];refine' K2.ClSeen.mk ?a ?b ?c;(case a=>k_is);(case b=>k_is);(case c=>k_is))
    have c_NoNumber:K2.ClSeen (KOf KX) "NoNumber" 97:=by (dsimp only [KOf];refine' K2.ClSeen.mk ?a ?b ?c;(case a=>k_is);(case b=>k_is);(case c=>k_is))
    have c_NoMark:K2.ClSeen (KOf KX) "NoMark" 109:=by (dsimp only [KOf];refine' K2.ClSeen.mk ?a ?b ?c;(case a=>k_is);(case b=>k_is);(case c=>k_is))
    have c_NoChannel:K2.ClSeen (KOf KX) "NoChannel" 121:=by (dsimp only [KOf];refine' K2.ClSeen.mk ?a ?b ?c;(case a=>k_is);(case b=>k_is);(case c=>k_is))
    have c_NoSightings:K2.ClSeen (KOf KX) "NoSightings" 133:=by (dsimp only [KOf];refine' K2.ClSeen.mk ?a ?b ?c;(case a=>k_is);(case b=>k_is);(case c=>k_is))
    have c_NoFairway:K2.ClSeen (KOf KX) "NoFairway" 145:=by (dsimp only [KOf];refine' K2.ClSeen.mk ?a ?b ?c;(case a=>k_is);(case b=>k_is);(case c=>k_is))
    have c_NoSide:K2.ClSeen (KOf KX) "NoSide" 157:=by (dsimp only [KOf];refine' K2.ClSeen.mk ?a ?b ?c;(case a=>k_is);(case b=>k_is);(case c=>k_is))
    have c_NoColumns:K2.ClSeen (KOf KX) "NoColumns" 169:=by (dsimp only [KOf];refine' K2.ClSeen.mk ?a ?b ?c;(case a=>k_is);(case b=>k_is);(case c=>k_is))
    have c_NoLine:K2.ClSeen (KOf KX) "NoLine" 181:=by (dsimp only [KOf];refine' K2.ClSeen.mk ?a ?b ?c;(case a=>k_is);(case b=>k_is);(case c=>k_is))
    have c_There:K2.ClSeen (KOf KX) "There" 193:=by (dsimp only [KOf];refine' K2.ClSeen.mk ?a ?b ?c;(case a=>k_is);(case b=>k_is);(case c=>k_is))
    have c_Nothing:K2.ClSeen (KOf KX) "Nothing" 205:=by (dsimp only [KOf];refine' K2.ClSeen.mk ?a ?b ?c;(case a=>k_is);(case b=>k_is);(case c=>k_is))
    have c_Unlike:K2.ClSeen (KOf KX) "Unlike" 224:=by (dsimp only [KOf];refine' K2.ClSeen.mk ?a ?b ?c;(case a=>k_is);(case b=>k_is);(case c=>k_is))
    have c_NoText:K2.ClSeen (KOf KX) "NoText" 243:=by (dsimp only [KOf];refine' K2.ClSeen.mk ?a ?b ?c;(case a=>k_is);(case b=>k_is);(case c=>k_is))
    have c_TooMany:K2.ClSeen (KOf KX) "TooMany" 262:=by (dsimp only [KOf];refine' K2.ClSeen.mk ?a ?b ?c;(case a=>k_is);(case b=>k_is);(case c=>k_is))
    have Z:K2.Cls (KOf KX) mg [("NoSea",37),("NoCell",49),("NoDraught",61),("NoDay",73),("NoNotices",85),("NoNumber",97),("NoMark",109),("NoChannel",121),("NoSightings",133),("NoFairway",145),("NoSide",157),("NoColumns",169),("NoLine",181),("There",193),("Nothing",205),("Unlike",224),("NoText",243),("TooMany",262)]:=K2.Aeo KX G rfl ⟨c_NoSea,c_NoCell,c_NoDraught,c_NoDay,c_NoNotices,c_NoNumber,c_NoMark,c_NoChannel,c_NoSightings,c_NoFairway,c_NoSide,c_NoColumns,c_NoLine,c_There,c_Nothing,c_Unlike,c_NoText,c_TooMany,trivial⟩;have m_NoSea:W.mroIn (KOf KX) 97 (.ref 37)=some false:=by (dsimp only [KOf];k_is)
    have m_NoCell:W.mroIn (KOf KX) 97 (.ref 49)=some false:=by (dsimp only [KOf];k_is)
    have m_NoDraught:W.mroIn (KOf KX) 97 (.ref 61)=some false:=by (dsimp only [KOf];k_is)
    have m_NoDay:W.mroIn (KOf KX) 97 (.ref 73)=some false:=by (dsimp only [KOf];k_is)
    have m_NoNotices:W.mroIn (KOf KX) 97 (.ref 85)=some false:=by (dsimp only [KOf];k_is)
    have m_NoNumber:W.mroIn (KOf KX) 97 (.ref 97)=some true:=by (dsimp only [KOf];k_is)
    have m_NoMark:W.mroIn (KOf KX) 97 (.ref 109)=some false:=by (dsimp only [KOf];k_is)
    have m_NoChannel:W.mroIn (KOf KX) 97 (.ref 121)=some false:=by (dsimp only [KOf];k_is)
    have m_NoSightings:W.mroIn (KOf KX) 97 (.ref 133)=some false:=by (dsimp only [KOf];k_is)
    have m_NoFairway:W.mroIn (KOf KX) 97 (.ref 145)=some false:=by (dsimp only [KOf];k_is)
    have m_NoSide:W.mroIn (KOf KX) 97 (.ref 157)=some false:=by (dsimp only [KOf];k_is)
    have m_NoColumns:W.mroIn (KOf KX) 97 (.ref 169)=some false:=by (dsimp only [KOf];k_is)
    have m_NoLine:W.mroIn (KOf KX) 97 (.ref 181)=some false:=by (dsimp only [KOf];k_is)
    have m_There:W.mroIn (KOf KX) 97 (.ref 193)=some false:=by (dsimp only [KOf];k_is)
    have m_Nothing:W.mroIn (KOf KX) 97 (.ref 205)=some false:=by (dsimp only [KOf];k_is)
    have m_Unlike:W.mroIn (KOf KX) 97 (.ref 224)=some false:=by (dsimp only [KOf];k_is)
    have m_NoText:W.mroIn (KOf KX) 97 (.ref 243)=some false:=by (dsimp only [KOf];k_is)
    have m_TooMany:W.mroIn (KOf KX) 97 (.ref 262)=some false:=by (dsimp only [KOf];k_is)
    have E:K2.ExKind (KOf KX) [("NoSea",37),("NoCell",49),("NoDraught",61),("NoDay",73),("NoNotices",85),("NoNumber",97),("NoMark",109),("NoChannel",121),("NoSightings",133),("NoFairway",145),("NoSide",157),("NoColumns",169),("NoLine",181),("There",193),("Nothing",205),("Unlike",224),("NoText",243),("TooMany",262)] 97 5:=by (refine' K2.Aah rfl (by decide) ?a ?b ?c ?d ?e ?f ⟨m_NoSea,m_NoCell,m_NoDraught,m_NoDay,m_NoNotices,m_NoNumber,m_NoMark,m_NoChannel,m_NoSightings,m_NoFairway,m_NoSide,m_NoColumns,m_NoLine,m_There,m_Nothing,m_Unlike,m_NoText,m_TooMany,trivial⟩ ⟨(fun z=>absurd z (by decide)),(fun z=>absurd z (by decide)),(fun z=>absurd z (by decide)),(fun z=>absurd z (by decide)),(fun z=>absurd z (by decide)),(fun _=>rfl),(fun z=>absurd z (by decide)),(fun z=>absurd z (by decide)),(fun z=>absurd z (by decide)),(fun z=>absurd z (by decide)),(fun z=>absurd z (by decide)),(fun z=>absurd z (by decide)),(fun z=>absurd z (by decide)),(fun z=>absurd z (by decide)),(fun z=>absurd z (by decide)),(fun z=>absurd z (by decide)),(fun z=>absurd z (by decide)),(fun z=>absurd z (by decide)),trivial⟩;(case a=>(dsimp only [KOf];k_is));(case b=>(dsimp only [KOf];k_is));(case c=>(dsimp only [KOf];k_is));(case d=>(dsimp only [KOf];k_is));(case e=>(dsimp only [KOf];k_is));(case f=>(dsimp only [KOf];k_is)))
    have hN:∃tl,D3.mroK (KOf KX) 97=some (.ref 97::tl)∧(Value.ref 97::tl).contains (.ref 24)=true:=by (dsimp only [KOf];refine' ⟨_,K2.U0 ?l ?e,?c⟩;(case l=>k_is);(case e=>rfl);(case c=>decide))
    have hM:∃tl,D3.mroK (KOf KX) 24=some (.ref 24::tl)∧tl.contains (.type "BaseException")=true:=by (dsimp only [KOf];refine' ⟨_,K2.U0 ?l ?e,?c⟩;(case l=>k_is);(case e=>rfl);(case c=>decide))
    have C:K2.Chn (KOf KX) [("NoSea",37),("NoCell",49),("NoDraught",61),("NoDay",73),("NoNotices",85),("NoNumber",97),("NoMark",109),("NoChannel",121),("NoSightings",133),("NoFairway",145),("NoSide",157),("NoColumns",169),("NoLine",181),("There",193),("Nothing",205),("Unlike",224),("NoText",243),("TooMany",262)] 24 97:=⟨⟨by (dsimp only [KOf];k_is),by (dsimp only [KOf];k_exc)⟩,hN,E⟩
    have Mk:K2.MkIs (KOf KX) 24:=⟨⟨by (dsimp only [KOf];k_is),by (dsimp only [KOf];k_exc)⟩,hM⟩
    obtain ⟨f,fd,F,a,kp⟩:=I_law.ex;have e0:=hmg.symm.trans (W.mg_of KX G a);cases e0;obtain ⟨oc,od,kV,doc,pm,an,cdv,ct,osl,efd,lk,hcd⟩:=id F.ex;refine ⟨fd,fun s u=>by (subst efd;exact .of_eq rfl),fun base kb nb=>K2.Aex KX G N Z C Mk J_L_one_right Ai5 Ai6 Ai7 Ai8 Ai9 Aja Ajb Ajc Ajd Aje Ajf Ajg Ajh Aji Ajj Ajk Ajl Ajm Ajn Ajo Ajp Ajq Ajr Ajs Ajt Aju Ajv Ajw Ajx Ajy Ajz F⟩

