import PyProof.Rows.All
import Wide.All
import OpenK.AllK
import Wide.FinOn
import Lean
import PyProof.EqAt
import PyProof.EqKinds
import PyProof.TupleCall
import OpenK.KOwn
import KE.KIsAll
import KE.KRevIter
import KE.KDictList
import PyProof.RulesAs
import PyProof.Rows.SumAny
import PyProof.Rows.SortRunsK
import KE.KSortTup
import KE.KDictOf
import PyProof.AttrMissHeap
import PyProof.EnumMake
import PyProof.EnumFor
import PyProof.EnumStmt
import PySem.Challenge.RW_laidmarks_k08_adrift_day_by_day
set_option linter.all false
set_option compiler.extract_closed false
set_option Elab.async false
set_option maxRecDepth 100000
set_option maxHeartbeats 4000000
namespace PySem.W.Fast
theorem tw4095406259822891685:0=0:=rfl
theorem tw14228079919544042355:0=0:=rfl
theorem tw14108123141809781128:0=0:=rfl
theorem tw16698745874979454978:0=0:=rfl
theorem tw3935301525940287374:0=0:=rfl
theorem tw8479507725596420277:0=0:=rfl
theorem tw10056718605830981909:0=0:=rfl
theorem tw9575911697792426307:0=0:=rfl
theorem tw17484958551815720667:0=0:=rfl
theorem tw15262045298928564129:0=0:=rfl
theorem tw6990880642411381773:0=0:=rfl
theorem tw2643935695894322593:0=0:=rfl
theorem tw16841379254522868584:0=0:=rfl
theorem tw17440088375425908625:0=0:=rfl
theorem tw10548030444978141628:0=0:=rfl
theorem tw2720907767999246533:0=0:=rfl
theorem tw9744186368011824799:0=0:=rfl
theorem tw139613710537796739:0=0:=rfl
theorem tw13940448271487458622:0=0:=rfl
theorem tw5681492491186441421:0=0:=rfl
theorem tw5686181743581364586:0=0:=rfl
theorem tw12047732068058920113:0=0:=rfl
theorem tw13574444583388372351:0=0:=rfl
theorem tw9193930178608229084:0=0:=rfl
theorem tw17868317809870283365:0=0:=rfl
theorem tw3019655881876687440:0=0:=rfl
theorem tw9021411833716235671:0=0:=rfl
theorem tw3013183291265419511:0=0:=rfl
theorem tw8769555532651828009:0=0:=rfl
theorem tw18047961745464201158:0=0:=rfl
theorem tw2348819878552311287:0=0:=rfl
theorem tw17684453185083770091:0=0:=rfl
theorem tw16887117539490685846:0=0:=rfl
theorem tw11010275723519249672:0=0:=rfl
theorem tw17009144320523789585:0=0:=rfl
theorem tw9712597813139270992:0=0:=rfl
theorem tw3932900998044813520:0=0:=rfl
theorem tw956659317804803337:0=0:=rfl
theorem tw11972507140087336672:0=0:=rfl
theorem tw9559080834153397816:0=0:=rfl
theorem tw13101040019905129441:0=0:=rfl
theorem tw6617990189787172328:0=0:=rfl
theorem tw9033797371352815905:0=0:=rfl
theorem tw16527430071451874303:0=0:=rfl
theorem tw12544152587379152215:0=0:=rfl
theorem tw17274914046920971776:0=0:=rfl
theorem tw12203916834883186832:0=0:=rfl
theorem tw3187981021609099479:0=0:=rfl
theorem tw1338407185589051246:0=0:=rfl
theorem tw9871805124401542537:0=0:=rfl
theorem tw18398946455293898578:0=0:=rfl
theorem tw12948094409645382824:0=0:=rfl
theorem tw13063026670887486054:0=0:=rfl
theorem tw12325307378982889853:0=0:=rfl
theorem tw8423698714950688214:0=0:=rfl
theorem tw7629154113395322259:0=0:=rfl
theorem tw5843770637856975172:0=0:=rfl
theorem tw4759241031444739850:0=0:=rfl
theorem tw734692426134308338:0=0:=rfl
theorem tw16743197775046726656:0=0:=rfl
theorem tw1605435241341973615:0=0:=rfl
theorem tw10102828437369724399:0=0:=rfl
theorem tw15612101608007890119:0=0:=rfl
theorem tw10043020161179690773:0=0:=rfl
theorem tw8061572575329058397:0=0:=rfl
theorem tw8961797339907892737:0=0:=rfl
theorem tw6526405537629120968:0=0:=rfl
theorem tw920910269635561196:0=0:=rfl
theorem tw13114644451900313861:0=0:=rfl
theorem tw267127237726657002:0=0:=rfl
theorem tw9604081716830400819:0=0:=rfl
theorem tw5680510201265525522:0=0:=rfl
theorem tw3778699847651104854:0=0:=rfl
theorem tw14809094567416217013:0=0:=rfl
theorem tw1831477875513028769:0=0:=rfl
theorem tw12929213888600379094:0=0:=rfl
theorem tw13016283693132575976:0=0:=rfl
theorem tw11621993425659510894:0=0:=rfl
theorem tw8479248084241850108:0=0:=rfl
theorem tw4707762948515967219:0=0:=rfl
theorem tw18119273778478490540:0=0:=rfl
theorem tw4275405051342858894:0=0:=rfl
theorem tw7944685689046796940:0=0:=rfl
theorem tw5777603331737262105:0=0:=rfl
theorem tw6812565865923790922:0=0:=rfl
theorem tw17931928832120591198:0=0:=rfl
theorem tw17948229370474207013:0=0:=rfl
theorem tw16188048163097241720:0=0:=rfl
theorem tw7244082340925318571:0=0:=rfl
theorem tw5516418935957685510:0=0:=rfl
theorem tw8823411769810320133:0=0:=rfl
theorem tw3122063843096410027:0=0:=rfl
theorem tw636707909795956886:0=0:=rfl
theorem tw6736189500498973296:0=0:=rfl
theorem tw5496775034624035868:0=0:=rfl
theorem tw6583480146560541947:0=0:=rfl
theorem tw1857017772136868781:0=0:=rfl
theorem tw2423665864642630549:0=0:=rfl
theorem tw5550534027258156784:0=0:=rfl
theorem tw14209592121503113587:0=0:=rfl
theorem tw2702422994367753615:0=0:=rfl
theorem tw3484183096949999991:0=0:=rfl
theorem tw14946218197634284783:0=0:=rfl
theorem tw13839490355497914786:0=0:=rfl
theorem tw9467980762583080032:0=0:=rfl
theorem tw166335492368859109:0=0:=rfl
theorem tw2021643781979112389:0=0:=rfl
theorem tw15762403172895138675:0=0:=rfl
theorem tw4419309051050756213:0=0:=rfl
theorem tw9473355666006705581:0=0:=rfl
theorem tw10764268907645821397:0=0:=rfl
theorem tw14201092065285850405:0=0:=rfl
theorem tw18090480517579220272:0=0:=rfl
theorem tw16607379580425720755:0=0:=rfl
theorem tw2277236412271356603:0=0:=rfl
theorem tw6430847587327624984:0=0:=rfl
theorem tw13589618653341074656:0=0:=rfl
theorem tw1137405867101909125:0=0:=rfl
theorem tw922749407093335727:0=0:=rfl
theorem tw5892651284162896761:0=0:=rfl
theorem tw969899814720747362:0=0:=rfl
theorem tw2477070522558856716:0=0:=rfl
theorem tw13211920276579842156:0=0:=rfl
theorem tw3115716829811645831:0=0:=rfl
theorem tw16030102131644871368:0=0:=rfl
theorem tw12796628200533276582:0=0:=rfl
theorem tw222970299828132480:0=0:=rfl
theorem tw10455688429044562197:0=0:=rfl
theorem tw2996582369374551594:0=0:=rfl
theorem tw14685711810584940374:0=0:=rfl
theorem tw3188428155528815483:0=0:=rfl
theorem tw8365524873765449769:0=0:=rfl
theorem tw5326462902501201652:0=0:=rfl
theorem tw16706018213096678366:0=0:=rfl
theorem tw8929086372144990539:0=0:=rfl
theorem tw1900891919699122500:0=0:=rfl
theorem tw1986646983936912970:0=0:=rfl
theorem tw14364602828629859201:0=0:=rfl
theorem tw12336981967041260874:0=0:=rfl
theorem tw8846342005696481504:0=0:=rfl
theorem tw6710991118712972215:0=0:=rfl
theorem tw9990450526236435202:0=0:=rfl
theorem tw17590753498050482425:0=0:=rfl
theorem tw3819966486641625688:0=0:=rfl
theorem tw1372726175823995929:0=0:=rfl
theorem tw8088891290583405433:0=0:=rfl
theorem tw15519202970553315182:0=0:=rfl
theorem tw15103617593077716571:0=0:=rfl
theorem tw2797374240886159934:0=0:=rfl
theorem tw17090374034864186818:0=0:=rfl
theorem tw14254026547961069055:0=0:=rfl
theorem tw8817269887890426415:0=0:=rfl
theorem tw4875659722412984301:0=0:=rfl
theorem tw16002464577300407486:0=0:=rfl
theorem tw17255405468020446662:0=0:=rfl
theorem tw15364465525383125982:0=0:=rfl
theorem tw10262961091396436383:0=0:=rfl
theorem tw14353791677067141603:0=0:=rfl
theorem tw13643679768158936989:0=0:=rfl
theorem tw3221274168084970843:0=0:=rfl
theorem tw620436995040907829:0=0:=rfl
theorem tw4019934064244194767:0=0:=rfl
theorem tw6708534061750215372:0=0:=rfl
theorem tw14986370963334216621:0=0:=rfl
theorem tw4091414673713301325:0=0:=rfl
theorem tw8298138011998874622:0=0:=rfl
theorem tw375648599592562467:0=0:=rfl
theorem tw6985307648800507399:0=0:=rfl
theorem tw12168714039967999344:0=0:=rfl
theorem tw608248187482947120:0=0:=rfl
theorem tw3899022913748697415:0=0:=rfl
theorem tw2502400971811812350:0=0:=rfl
theorem tw6450396740934471946:0=0:=rfl
theorem tw8008484264414560787:0=0:=rfl
theorem tw12003561723109115652:0=0:=rfl
theorem tw2776909156026300528:0=0:=rfl
theorem tw14190927128949837223:0=0:=rfl
theorem tw15569098371173874389:0=0:=rfl
theorem tw17374825595814561043:0=0:=rfl
theorem tw8857868763169800906:0=0:=rfl
theorem tw13648250339669923097:0=0:=rfl
theorem tw2637468832061663666:0=0:=rfl
theorem tw7117049248276249918:0=0:=rfl
theorem tw11478517107040067394:0=0:=rfl
theorem tw9586685643891434750:0=0:=rfl
theorem tw10871571887280096046:0=0:=rfl
theorem tw4751936656073874318:0=0:=rfl
theorem tw3981399401870653447:0=0:=rfl
theorem tw6427230774857191968:0=0:=rfl
theorem tw4921083064041059139:0=0:=rfl
theorem tw5256259858415162330:0=0:=rfl
theorem tw8137760502524188433:0=0:=rfl
theorem tw4128244029995717817:0=0:=rfl
theorem tw17686743211135821813:0=0:=rfl
theorem tw4240938480036908948:0=0:=rfl
theorem tw13556902061210040234:0=0:=rfl
theorem tw7580575062867216033:0=0:=rfl
theorem tw13400406284193149770:0=0:=rfl
theorem tw13142730021678906844:0=0:=rfl
theorem tw11530775718428515466:0=0:=rfl
theorem tw8504064910138186431:0=0:=rfl
theorem tw10672559392038676343:0=0:=rfl
theorem tw2518979055071472992:0=0:=rfl
theorem tw7891016596559105646:0=0:=rfl
theorem tw3404601382813913846:0=0:=rfl
theorem tw133304474036098757:0=0:=rfl
theorem tw15165515810991642302:0=0:=rfl
theorem tw11888172624094917373:0=0:=rfl
theorem tw3672367881665590902:0=0:=rfl
theorem tw12932229485561169189:0=0:=rfl
theorem tw12589778791016033264:0=0:=rfl
theorem tw3675776535977263705:0=0:=rfl
theorem tw8382131124459462383:0=0:=rfl
theorem tw1062443864918028753:0=0:=rfl
theorem tw13588887387943865397:0=0:=rfl
theorem tw6665427327306783518:0=0:=rfl
theorem tw16744681333767754928:0=0:=rfl
theorem tw13893985855078012151:0=0:=rfl
theorem tw10346484255482717325:0=0:=rfl
theorem tw10255864706366973292:0=0:=rfl
theorem tw18352696382919227056:0=0:=rfl
theorem tw12207744288524360590:0=0:=rfl
theorem tw2175144119127955259:0=0:=rfl
theorem tw10899690941867417053:0=0:=rfl
theorem tw10365982397572837308:0=0:=rfl
theorem tw18066976848892293956:0=0:=rfl
theorem tw750353000357790531:0=0:=rfl
theorem tw3260687438982769291:0=0:=rfl
theorem tw2821137726028081358:0=0:=rfl
theorem tw5656149939382999550:0=0:=rfl
theorem tw4765762765377078018:0=0:=rfl
theorem tw6412618861063732348:0=0:=rfl
theorem tw2647582475805970206:0=0:=rfl
theorem tw3661673633351717791:0=0:=rfl
theorem tw10827179235373877356:0=0:=rfl
theorem tw3820669289519425623:0=0:=rfl
theorem tw11890309734246772274:0=0:=rfl
theorem tw16293304568318732045:0=0:=rfl
theorem tw9881289702827534484:0=0:=rfl
theorem tw1761598813764783074:0=0:=rfl
theorem tw17823664732589880821:0=0:=rfl
theorem tw12905151399660099056:0=0:=rfl
theorem tw18371230825390511655:0=0:=rfl
theorem tw14559174323332560901:0=0:=rfl
theorem tw14143869704352535605:0=0:=rfl
theorem tw5904778222203046340:0=0:=rfl
theorem tw10258572779646507387:0=0:=rfl
theorem tw620468426321733440:0=0:=rfl
theorem tw17763783363816219109:0=0:=rfl
theorem tw10804739621875410777:0=0:=rfl
theorem tw17192183306903383521:0=0:=rfl
theorem tw7548184304919927384:0=0:=rfl
theorem tw15286599098301287805:0=0:=rfl
theorem tw5346533323810396793:0=0:=rfl
theorem tw582338737787732071:0=0:=rfl
theorem tw16636881089972253269:0=0:=rfl
theorem tw10471535735067177170:0=0:=rfl
theorem tw17083044499465245153:0=0:=rfl
theorem tw16579291654273689283:0=0:=rfl
theorem tw424711218624917111:0=0:=rfl
theorem tw4629483468713524219:0=0:=rfl
theorem tw14938683300499025694:0=0:=rfl
theorem tw18347130031671872015:0=0:=rfl
theorem tw9224271270310402824:0=0:=rfl
theorem tw7442252345599094668:0=0:=rfl
theorem tw10431671223431571294:0=0:=rfl
theorem tw17600788249276224499:0=0:=rfl
theorem tw15317487793507762115:0=0:=rfl
theorem tw9385946693323670412:0=0:=rfl
theorem tw8291681250422092093:0=0:=rfl
theorem tw14183754366525174347:0=0:=rfl
theorem tw13656875892782684134:0=0:=rfl
theorem tw2876685601769682358:0=0:=rfl
theorem tw9299478302437843708:0=0:=rfl
theorem tw10407129206376330612:0=0:=rfl
theorem tw14382294751977008295:0=0:=rfl
theorem tw15057998105250056935:0=0:=rfl
theorem tw760826752290950418:0=0:=rfl
theorem tw13425592172384977502:0=0:=rfl
theorem tw1083876229212296502:0=0:=rfl
theorem tw13024729597016720022:0=0:=rfl
theorem tw18241853860825460267:0=0:=rfl
theorem tw5366585517260400969:0=0:=rfl
theorem tw16938881402446449992:0=0:=rfl
theorem tw17134199012344529121:0=0:=rfl
theorem tw211691572558709603:0=0:=rfl
theorem tw7085296858521026754:0=0:=rfl
theorem tw6876498073531162425:0=0:=rfl
theorem tw7796042347450002520:0=0:=rfl
theorem tw5917224260513204246:0=0:=rfl
theorem tw14342316396223251931:0=0:=rfl
theorem tw6159844777174399255:0=0:=rfl
theorem tw4931892170849924273:0=0:=rfl
theorem tw863111795989524382:0=0:=rfl
theorem tw7975367014319400349:0=0:=rfl
theorem tw5770185077362295686:0=0:=rfl
theorem tw13127187762588067796:0=0:=rfl
theorem tw8665987549394586904:0=0:=rfl
theorem tw3794672310451704335:0=0:=rfl
theorem tw7516973767474095283:0=0:=rfl
theorem tw3909672523056757439:0=0:=rfl
theorem tw9607255593598614564:0=0:=rfl
theorem tw6043978363765736518:0=0:=rfl
theorem tw6611570539684629890:0=0:=rfl
theorem tw4906087771604533872:0=0:=rfl
theorem tw14828106355785795775:0=0:=rfl
theorem tw7972405399925201550:0=0:=rfl
theorem tw2658369887960550771:0=0:=rfl
theorem tw9854499851141163497:0=0:=rfl
theorem tw4298033298640181837:0=0:=rfl
theorem tw11964173373078555537:0=0:=rfl
theorem tw6833401040529337462:0=0:=rfl
theorem tw17531260501434892966:0=0:=rfl
theorem tw2777155012095677578:0=0:=rfl
theorem tw13006692986914916288:0=0:=rfl
theorem tw7616989308094492253:0=0:=rfl
theorem tw12252643785319450245:0=0:=rfl
theorem tw4544141816202720839:0=0:=rfl
theorem tw18126392169360764321:0=0:=rfl
theorem tw1035125193671571736:0=0:=rfl
theorem tw15411224314942728039:0=0:=rfl
theorem tw4691368972888754350:0=0:=rfl
theorem tw14754444226248457189:0=0:=rfl
theorem tw2122175553997696765:0=0:=rfl
theorem tw8523974069184949311:0=0:=rfl
theorem tw8569470551024817996:0=0:=rfl
theorem tw12092827901726279076:0=0:=rfl
theorem tw6900564364690753041:0=0:=rfl
theorem tw13234977155706466333:0=0:=rfl
theorem tw736719242453649183:0=0:=rfl
theorem tw17776679265693664063:0=0:=rfl
theorem tw3879582814681798528:0=0:=rfl
theorem tw12038435837180922600:0=0:=rfl
theorem tw7969771420614821318:0=0:=rfl
theorem tw733654355842706393:0=0:=rfl
theorem tw14765294626515721249:0=0:=rfl
theorem tw10834677905123696371:0=0:=rfl
theorem tw16231182261945062078:0=0:=rfl
theorem tw4227954699071177595:0=0:=rfl
theorem tw11870808356308400923:0=0:=rfl
theorem tw6014313694868062143:0=0:=rfl
theorem tw4511510800386388040:0=0:=rfl
theorem tw12487198421091561664:0=0:=rfl
theorem tw13146788553286343238:0=0:=rfl
theorem tw15489318034937127062:0=0:=rfl
theorem tw4404864805216251594:0=0:=rfl
theorem tw12390034731978745573:0=0:=rfl
theorem tw15210189622589498641:0=0:=rfl
theorem tw4167593688335938197:0=0:=rfl
theorem tw6790669332043560566:0=0:=rfl
theorem tw18323087632661424309:0=0:=rfl
theorem tw18302801948552859819:0=0:=rfl
theorem tw12156434784976710647:0=0:=rfl
theorem tw2637000949363007016:0=0:=rfl
theorem tw14440861175194106264:0=0:=rfl
theorem tw1861927593174385910:0=0:=rfl
theorem tw5961113795514585066:0=0:=rfl
theorem tw8278729270719782238:0=0:=rfl
theorem tw367453731642045644:0=0:=rfl
theorem tw12051227713822744235:0=0:=rfl
theorem tw6307946896286551346:0=0:=rfl
theorem tw10052576725817834135:0=0:=rfl
theorem tw14635751848947080916:0=0:=rfl
theorem tw13949855409880345038:0=0:=rfl
theorem tw12680117769140059366:0=0:=rfl
theorem tw2917676749671733535:0=0:=rfl
theorem tw1768523558368269130:0=0:=rfl
theorem tw17178862119118147138:0=0:=rfl
theorem tw5526081227615361650:0=0:=rfl
theorem tw14326188946699593727:0=0:=rfl
theorem tw6375465653123539162:0=0:=rfl
theorem tw14631266478830346342:0=0:=rfl
theorem tw17284251784561854737:0=0:=rfl
theorem tw15877722454835892415:0=0:=rfl
theorem tw11571297149079776236:0=0:=rfl
theorem tw598669154215748557:0=0:=rfl
theorem tw8449108506171514223:0=0:=rfl
theorem tw3127765436925568342:0=0:=rfl
theorem tw14574734831051285483:0=0:=rfl
theorem tw4819745536836827534:0=0:=rfl
theorem tw9947073990094752611:0=0:=rfl
theorem tw18202823748760025130:0=0:=rfl
theorem tw4698216957644763033:0=0:=rfl
theorem tw8050702712435361105:0=0:=rfl
theorem tw9926939637871753531:0=0:=rfl
theorem tw14080339180974369271:0=0:=rfl
theorem tw9010012555435630853:0=0:=rfl
theorem tw16596499146243008696:0=0:=rfl
theorem tw9144109697926863320:0=0:=rfl
theorem tw11520706694839212949:0=0:=rfl
theorem tw3805699623306055286:0=0:=rfl
theorem tw9863994325173858572:0=0:=rfl
theorem tw4920590878686575779:0=0:=rfl
theorem tw2712581988161296127:0=0:=rfl
theorem tw10365693094076869348:0=0:=rfl
theorem tw4410487604577361585:0=0:=rfl
theorem tw890782387473335047:0=0:=rfl
theorem tw5916878143079433267:0=0:=rfl
theorem tw7744648217280253887:0=0:=rfl
theorem tw7627397743738306907:0=0:=rfl
theorem tw7212627610028134123:0=0:=rfl
theorem tw14640880204833782034:0=0:=rfl
theorem tw3406794216902059642:0=0:=rfl
theorem tw13264995695154946378:0=0:=rfl
theorem tw15624884212990125014:0=0:=rfl
theorem tw16659863566557389040:0=0:=rfl
theorem tw4310953980963491932:0=0:=rfl
theorem tw14692538821721474292:0=0:=rfl
theorem tw1776974482802830172:0=0:=rfl
theorem tw6855450472427491366:0=0:=rfl
theorem tw10796150177433594895:0=0:=rfl
theorem tw14613622010009698849:0=0:=rfl
theorem tw5650908855299064496:0=0:=rfl
theorem tw869865790276541004:0=0:=rfl
theorem tw10484784470967478580:0=0:=rfl
theorem tw3573023203211422031:0=0:=rfl
theorem tw1244102981381760915:0=0:=rfl
theorem tw3547347584416583159:0=0:=rfl
theorem tw9985069113369307665:0=0:=rfl
theorem tw15462676820323951572:0=0:=rfl
theorem tw1012984298961319336:0=0:=rfl
theorem tw9121660523743708761:0=0:=rfl
theorem tw8703781677963145438:0=0:=rfl
theorem tw4776514342863452833:0=0:=rfl
theorem tw6383720856449411966:0=0:=rfl
theorem tw16633777337533852341:0=0:=rfl
theorem tw14455823200881322915:0=0:=rfl
theorem tw3773045233188216387:0=0:=rfl
theorem tw4167177306888013609:0=0:=rfl
theorem tw695260052338314673:0=0:=rfl
theorem tw17076564239125683178:0=0:=rfl
theorem tw6416893444398939866:0=0:=rfl
theorem tw8149689743840408582:0=0:=rfl
theorem tw2010514601763696422:0=0:=rfl
theorem tw14747756400748381487:0=0:=rfl
theorem tw13566005652868419155:0=0:=rfl
theorem tw11468514030750523055:0=0:=rfl
theorem tw832228439579556771:0=0:=rfl
theorem tw16787433024033976968:0=0:=rfl
theorem tw11331087232859580915:0=0:=rfl
theorem tw7384531485838667159:0=0:=rfl
theorem tw9340165267071608150:0=0:=rfl
theorem tw1864396824280423642:0=0:=rfl
theorem tw1951158902166418142:0=0:=rfl
theorem tw628110548555506931:0=0:=rfl
theorem tw15053348794498576083:0=0:=rfl
theorem tw3078865202867650947:0=0:=rfl
theorem tw20008092613165318:0=0:=rfl
theorem tw18254688311229238776:0=0:=rfl
theorem tw7064389413599403394:0=0:=rfl
theorem tw3891981946539567584:0=0:=rfl
theorem tw7118721922515025005:0=0:=rfl
theorem tw14460025480472630163:0=0:=rfl
theorem tw11444151470592997082:0=0:=rfl
theorem tw319241333677446054:0=0:=rfl
theorem tw997172584889322707:0=0:=rfl
theorem tw5290570702270332330:0=0:=rfl
theorem tw15632016881530292176:0=0:=rfl
theorem tw6706467371368690549:0=0:=rfl
theorem tw15645917844607953712:0=0:=rfl
theorem tw15711873418453415357:0=0:=rfl
theorem tw3024195415712669377:0=0:=rfl
theorem tw7089178300983887130:0=0:=rfl
theorem tw1261473808457727370:0=0:=rfl
theorem tw515602575918423732:0=0:=rfl
theorem tw8847307998728145740:0=0:=rfl
theorem tw7581181829859903190:0=0:=rfl
theorem tw7219525539494046062:0=0:=rfl
theorem tw15478088265469329982:0=0:=rfl
theorem tw187102481223855951:0=0:=rfl
theorem tw13318770385459551651:0=0:=rfl
theorem tw17018513745615905747:0=0:=rfl
theorem tw10935730330371781115:0=0:=rfl
theorem tw10276938288239670017:0=0:=rfl
theorem tw6200045289329011672:0=0:=rfl
theorem tw8065319649633219501:0=0:=rfl
theorem tw4551287501541881144:0=0:=rfl
theorem tw10549523593460871031:0=0:=rfl
end PySem.W.Fast
namespace L2
open PySem PySem.Spec PyProof.Rows
noncomputable abbrev Key:=Sum Int Str
noncomputable def Jf:Key→Value→Bool
 |.inl k,v=>Value.isInt k v
 |.inr x,v=>Value.isStrOf x v
noncomputable def keyH(w:World):Key→Int
 |.inl k=>hashInt k
 |.inr x=>hashStr w x
theorem Az:∀{k:Key} {v:Value},Jf k v=true→(∃i t,k=Sum.inl i∧v=Value.int i t)∨(∃x t,k=Sum.inr x∧v=Value.str x t)
 |.inl i,v,h=>by
  obtain⟨t,e⟩:=Value.isInt_shape (k:=i) (v:=v) h;exact .inl ⟨i,t,rfl,e⟩
 |.inr x,v,h=>by
  obtain⟨t,e⟩:=Value.isStrOf_shape (x:=x) (v:=v) h;exact .inr ⟨x,t,rfl,e⟩
theorem S4(i:Int)(t:Tok):Jf (.inl i) (.int i t)=true:=by simp[Jf,Value.isInt]
theorem S3(x:Str)(t:Tok):Jf (.inr x) (.str x t)=true:=by simp[Jf,Value.isStrOf]
theorem Ad9(a b:Int):decide ((Sum.inl a:Key)=Sum.inl b)=(a == b):=by
 by_cases e:a=b
 ·subst e;simp
 ·have h:¬(Sum.inl a:Key)=Sum.inl b:=fun q=>e (Sum.inl.inj q);rw[decide_eq_false h];exact(beq_eq_false_iff_ne.mpr e).symm
theorem Ad6(a b:Str):decide ((Sum.inr a:Key)=Sum.inr b)=decide (a=b):=by
 by_cases e:a=b
 ·subst e;simp
 ·have h:¬(Sum.inr a:Key)=Sum.inr b:=fun q=>e (Sum.inr.inj q);rw[decide_eq_false h,decide_eq_false e]
theorem Ad8(a:Int)(b:Str):decide ((Sum.inl a:Key)=Sum.inr b)=false:=decide_eq_false (fun q=>nomatch q)
theorem Ad7(a:Str)(b:Int):decide ((Sum.inr a:Key)=Sum.inl b)=false:=decide_eq_false (fun q=>nomatch q)

noncomputable def Al(prog:Program)(w:World):PySem.KeyKind prog w Key where
 is:=Jf
 hash:=keyH w
 inj:=fun v a b ha hb=>by
  rcases Az ha with ⟨i,t,rfl,rfl⟩|⟨x,t,rfl,rfl⟩
  ·rcases Az hb with ⟨j,u,rfl,e⟩|⟨y,u,rfl,e⟩
   ·injection e with e1 _;rw[e1]
   ·exact nomatch e
  ·rcases Az hb with ⟨j,u,rfl,e⟩|⟨y,u,rfl,e⟩
   ·exact nomatch e
   ·injection e with e1 _;rw[e1]
 byValue:=fun k v h=>by
  rcases Az h with ⟨i,t,rfl,rfl⟩|⟨x,t,rfl,rfl⟩<;>rfl
 pyHash:=fun hv h=>by
  rcases Az hv with ⟨i,t,rfl,rfl⟩|⟨x,t,rfl,rfl⟩
  ·exact wpAny_pyHash_int h
  ·exact wpAny_pyHash_str h
 eqBool:=fun hu hv h=>by
  rcases Az hu with ⟨i,t,rfl,rfl⟩|⟨x,t,rfl,rfl⟩
  ·rcases Az hv with ⟨j,u,rfl,rfl⟩|⟨y,u,rfl,rfl⟩
   ·rw[Ad9] at h;exact wpAny_eqBool_int h
   ·rw[Ad8] at h;exact SeqAt.EqAt.int_str i t y u _ _ _ _ h
  ·rcases Az hv with ⟨j,u,rfl,rfl⟩|⟨y,u,rfl,rfl⟩
   ·rw[Ad7] at h;exact SeqAt.EqAt.str_int x t j u _ _ _ _ h
   ·rw[Ad6] at h;exact wpAny_eqBool_str h
 «strs»:=fun k x t v h=>by
  rcases Az h with ⟨i,u,rfl,e⟩|⟨y,u,rfl,e⟩
  ·exact nomatch e
  ·injection e with e1 _;subst e1;cases v<;>rfl

theorem Nq(prog:Program)(w:World)(i:Int)(t:Tok):(Al prog w).is (.inl i) (.int i t)=true:=S4 i t
theorem Np(prog:Program)(w:World)(x:Str)(t:Tok):(Al prog w).is (.inr x) (.str x t)=true:=S3 x t
end L2
namespace L2
open PySem PySem.Spec PyProof.Rows
inductive V where
 |non|bl (b:Bool)|int (i:Int)|str (x:Str)|byt (b:Array UInt8)|flt (b:UInt64)|ref (a:Addr)|ty (n:String)
 deriving DecidableEq

noncomputable def RelV:V→Value→Prop
 |.non,u=>u=Value.none
 |.bl b,u=>u=Value.bool b
 |.int i,u=>∃t,u=Value.int i t
 |.str x,u=>∃t,u=Value.str x t
 |.byt b,u=>∃t,u=Value.bytes b t
 |.flt b,u=>∃t,u=Value.float b t
 |.ref a,u=>u=Value.ref a
 |.ty n,u=>u=Value.type n

noncomputable abbrev Vals:List V→List Value→Prop:=Paired RelV
theorem Vals.length{xs:List V}{us:List Value}(r:Vals xs us):xs.length=us.length:=Paired.length r
theorem Vals.get:∀{xs:List V} {us:List Value} {i:Nat} {x:V},Vals xs us→xs[i]? = some x→∃u,us[i]? = some u∧RelV x u
 |_,_,_,_,.nil,e=>by simp at e
 |_,_,0,_,.cons r _,e=>by simp at e;subst e;exact⟨_,rfl,r⟩
 |_,_,i+1,x,.cons _ t,e=>by
  obtain⟨u,h1,h2⟩:=Vals.get (i:=i) (x:=x) t (by simpa using e)
  exact⟨u,by simpa using h1,h2⟩
theorem Vals.set{x:V}{u:Value}(r:RelV x u):∀{xs:List V} {us:List Value} (i:Nat),Vals xs us→Vals (xs.set i x) (us.set i u)
 |_,_,_,.nil=>.nil
 |_,_,0,.cons _ t=>.cons r t
 |_,_,i+1,.cons q t=>.cons q (Vals.set r i t)
theorem Vals.append:∀{xs ys:List V} {us ws:List Value},Vals xs us→Vals ys ws→Vals (xs++ys) (us++ws)
 |_,_,_,_,.nil,s=>s
 |_,_,_,_,.cons r t,s=>.cons r (Vals.append t s)
theorem Vals.take:∀{xs:List V} {us:List Value} (n:Nat),Vals xs us→Vals (xs.take n) (us.take n)
 |_,_,0,_=>.nil
 |_,_,_+1,.nil=>.nil
 |_,_,n+1,.cons r t=>.cons r (Vals.take n t)
theorem Vals.drop:∀{xs:List V} {us:List Value} (n:Nat),Vals xs us→Vals (xs.drop n) (us.drop n)
 |_,_,0,r=>r
 |_,_,_+1,.nil=>.nil
 |_,_,n+1,.cons _ t=>Vals.drop n t
noncomputable def RelO:Option V→Option Value→Prop
 |some v,some u=>RelV v u
 |none,none=>True
 |_,_=>False
noncomputable def KV{κ:Type}:List (κ×V)→List (κ×Value)→Prop:=Paired fun(p:κ×V) (q:κ×Value)=>p.1=q.1∧RelV p.2 q.2

noncomputable def kV:Key→V
 |.inl i=>.int i
 |.inr x=>.str x

inductive HO where
 /-- a list -/
 |lst (xs:List V)
 /-- a tuple (never changes) -/
 |tup (xs:List V)
 /-- a dict whose keys are ints and texts;one whose keys are tuples of ints and texts (the empty one is both) -/
 |dK (kvs:List (Key×V))|dT (kvs:List (List Key×V))
 /-- a set of ints: its members,its size -/
 |set (S:Int→Bool) (n:Nat)
 /-- an instance of the class at C,its dict at dx,its attributes -/
 |ins (C dx:Addr) (fs:List (Str×V))
 /-- the dict of the instance at x -/
 |own (x:Addr)
 /-- the dict of an exception -/
 |xd (fs:List (Str×V))
 /-- a bound method,f of x -/
 |met (f x:Addr)
 /-- a range object lo,lo+1,.. below hi -/
 |rng (lo hi:Int)
 /-- a thing that is known to the object (the script;a dict while a loop walks it): read,never written while it is so -/
 |frz (o:Obj) (u:HO)
 /-- a code object's table -/
 |tbl (ps:Array Value)
 /-- any other thing,by what is true of its one object (a def of one's own: SetO a S n:=HO.ext fun h=>..) -/
 |ext (φ:Heap→Prop)

noncomputable abbrev Hp:=Addr→Option HO
noncomputable def upd(H:Hp)(a:Addr)(o:HO):Hp:=fun b=>if b=a then some o else H b
theorem Ah{H:Hp}{a:Addr}{o:HO}:upd H a o a=some o:=by unfold upd;rw[if_pos rfl]
theorem Ad{H:Hp}{a b:Addr}{o:HO}(h:b≠a):upd H a o b=H b:=by unfold upd;rw[if_neg h]
theorem Xr{H:Hp}{a:Addr}{o u:HO}:upd (upd H a o) a u=upd H a u:=by
 funext b;unfold upd;split<;>rfl
theorem F1{H:Hp}{a b:Addr}{o u:HO}(h:H a=some o)(h':H b=some u)(d:o≠u):a≠b:=by
 intro e;subst e;rw[h] at h';exact d (Option.some.inj h')
theorem Ao{H:Hp}{a b:Addr}{o:HO}(h:H a=some o)(h':H b=none):a≠b:=by
 intro e;subst e;rw[h] at h';cases h'

section
variable(P:Program)(w:World)
noncomputable def ObjOk(H:Hp)(h:Heap)(a:Addr):HO→Prop
 |.lst xs=>xs.length≤sizeLine∧∃(its:List Value) (n:Nat),Vals xs its∧h.get? a=some { cls:=.type "list",data:=.seq its.toArray n }
 |.tup xs=>xs.length≤sizeLine∧∃its:List Value,Vals xs its∧IsTup h a its.toArray
 |.dK kvs=>kvs.length≤sizeLine∧(a == sysModules)=false∧∃vs,KV kvs vs∧h.DictOf (Al P w) a vs
 |.dT kvs=>kvs.length≤sizeLine∧(a == sysModules)=false∧∃xs:List (List Key×Addr×Value),
   Paired (fun(p:List Key×V) (q:List Key×Addr×Value)=>p.1=q.1∧H q.2.1=some (.tup (p.1.map kV))∧RelV p.2 q.2.2) kvs xs∧
   ∃o es ep,h.get? a=some o∧o.ExactDict∧o.data=.dict es ep∧es.toList=xs.map (entryOfKey (tupleKind (Al P w)))∧(xs.map (·.1)).Nodup
 |.set S n=>h.SetOf (intKind P w) a S n
 |.ins C dx fs=>H dx=some (.own a)∧fs.length≤1000∧dx≠a∧h.get? a=some (W.instObj C dx)∧
   ∃mA,h.Ns1 dx mA∧(∀f,RelO (fs.lookup f) (mA f))∧PySem.Within mA (fs.map (·.1))
 |.own _=>∃o,h.get? a=some o
 |.xd fs=>∃mA,h.Ns1 a mA∧∀f,RelO (fs.lookup f) (mA f)
 |.rng lo hi=>∃t u v,h.get? a=some { cls:=.type "range",data:=.fields #[.int lo t,.int hi u,.int 1 v] }
 |.frz o u=>h.get? a=some o∧ObjOk H h a u
 |.tbl ps=>h.get? a=some { cls:=.none,data:=.fields ps }
 |.met f x=>h.get? a=some (W.methodObj (.ref f) (.ref x))
 |.ext φ=>φ h∧(∃o,h.get? a=some o)∧∀h1 h2:Heap,φ h1→(∀o,h1.get? a=some o→h2.get? a=some o)→φ h2
noncomputable def HOk(H:Hp)(h:Heap):Prop:=∀a o,H a=some o→ObjOk P w H h a o
end
section
variable{P:Program}{w:World}{H H':Hp}{h h':Heap}{a:Addr}{o:HO}
theorem ObjOk.lt(x:ObjOk P w H h a o):a<h.objs.size:=by
 cases o with
 |lst xs=>obtain⟨_,_,_,_,e⟩:=x;exact Heap.lt_size e
 |tup xs=>obtain⟨_,_,_,p⟩:=x;exact p.lt
 |dK kvs=>obtain⟨_,_,_,_,o,_,_,e,_⟩:=x;exact Heap.lt_size e
 |dT kvs=>obtain⟨_,_,_,_,o,_,_,e,_⟩:=x;exact Heap.lt_size e
 |set S n=>obtain⟨o,_,_,_,e,_⟩:=x;exact Heap.lt_size e
 |ins C dx fs=>obtain⟨_,_,_,e,_⟩:=x;exact Heap.lt_size e
 |own y=>obtain⟨_,e⟩:=x;exact Heap.lt_size e
 |xd fs=>obtain⟨_,⟨_,_,_,e,_⟩,_⟩:=x;exact Heap.lt_size e
 |rng lo hi=>obtain⟨_,_,_,e⟩:=x;exact Heap.lt_size e
 |frz ob u=>obtain⟨e,_⟩:=x;exact Heap.lt_size e
 |tbl ps=>exact Heap.lt_size (show h.get? a=some _ from x)
 |met f y=>exact Heap.lt_size (show h.get? a=some _ from x)
 |ext φ=>obtain⟨_,⟨_,e⟩,_⟩:=x;exact Heap.lt_size e
theorem Paired.mapP{α β:Type}{F G:α→β→Prop}:∀{l₁:List α} {l₂:List β},Paired F l₁ l₂→(∀a b,F a b→G a b)→Paired G l₁ l₂
 |_,_,.nil,_=>.nil
 |_,_,.cons r t,f=>.cons (f _ _ r) (Paired.mapP t f)
theorem ObjOk.stay(x:ObjOk P w H h a o)(k:∀b u,(b=a∨H b=some (.own a))→h.get? b=some u→h'.get? b=some u)(ho:∀b,H b=some (.own a)→H' b=some (.own a))(ht:∀b xs,H b=some (.tup xs)→H' b=some (.tup xs)):ObjOk P w H' h' a o:=by
 induction o with
 |lst xs=>obtain⟨z,its,n,r,e⟩:=x;exact⟨z,its,n,r,k _ _ (.inl rfl) e⟩
 |tup xs=>obtain⟨z,its,r,ob,e,c⟩:=x;exact⟨z,its,r,ob,k _ _ (.inl rfl) e,c⟩
 |dK kvs=>obtain⟨z,y,vs,r,ob,es,ep,e,c⟩:=x;exact⟨z,y,vs,r,ob,es,ep,k _ _ (.inl rfl) e,c⟩
 |dT kvs=>
  obtain⟨z,y,xs,r,ob,es,ep,e,c⟩:=x;exact⟨z,y,xs,Paired.mapP r fun p q z=>⟨z.1,ht _ _ z.2.1,z.2.2⟩,ob,es,ep,k _ _ (.inl rfl) e,c⟩
 |set S n=>obtain⟨ob,es,ep,t,e,c⟩:=x;exact⟨ob,es,ep,t,k _ _ (.inl rfl) e,c⟩
 |ins C dx fs=>
  obtain⟨d,z,ne,e,mA,⟨od,es,ep,e2,c⟩,r⟩:=x;exact⟨ho _ d,z,ne,k _ _ (.inl rfl) e,mA,⟨od,es,ep,k _ _ (.inr d) e2,c⟩,r⟩
 |own y=>obtain⟨ob,e⟩:=x;exact⟨ob,k _ _ (.inl rfl) e⟩
 |xd fs=>obtain⟨mA,⟨od,es,ep,e,c⟩,r⟩:=x;exact⟨mA,⟨od,es,ep,k _ _ (.inl rfl) e,c⟩,r⟩
 |rng lo hi=>obtain⟨t,u,v,e⟩:=x;exact⟨t,u,v,k _ _ (.inl rfl) e⟩
 |frz ob u ih=>obtain⟨e,q⟩:=x;exact⟨k _ _ (.inl rfl) e,ih q⟩
 |tbl ps=>
  have e:h.get? a=some { cls:=.none,data:=.fields ps }:=x;show h'.get? a=some { cls:=.none,data:=.fields ps };exact k a _ (.inl rfl) e
 |met f y=>
  have e:h.get? a=some (W.methodObj (.ref f) (.ref y)):=x;show h'.get? a=some (W.methodObj (.ref f) (.ref y));exact k a _ (.inl rfl) e
 |ext φ=>obtain⟨p,⟨o,e⟩,st⟩:=x;exact⟨st _ _ p fun o q=>k _ _ (.inl rfl) q,⟨o,k _ _ (.inl rfl) e⟩,st⟩
theorem HOk.lt(x:HOk P w H h)(e:H a=some o):a<h.objs.size:=(x a o e).lt
theorem HOk.fresh(x:HOk P w H h)(e:h.objs.size≤a):H a=none:=by
 cases q:H a with
 |none=>rfl
 |some u=>exact absurd (Nat.lt_of_lt_of_le (x.lt q) e) (Nat.lt_irrefl _)
theorem HOk.kept(x:HOk P w H h)(k:∀b u,h.get? b=some u→h'.get? b=some u):HOk P w H h':=fun a o e=>
 (x a o e).stay (fun b u _ q=>k b u q) (fun _ q=>q) fun _ _ q=>q
theorem HOk.laid(x:HOk P w H h)(k:∀b u,h.get? b=some u→h'.get? b=some u)(hp:h.objs.size≤a)(new:ObjOk P w (upd H a o) h' a o):HOk P w (upd H a o) h':=fun b u e=>by
 have hn:=x.fresh hp
 by_cases hb:b=a
 ·subst hb;rw[Ah] at e;cases e;exact new
 ·rw[Ad hb] at e;exact(x b u e).stay (fun c v _ q=>k c v q) (fun c q=>by rw[Ad (Ao q hn)];exact q) fun c xs q=>by rw[Ad (Ao q hn)];exact q
end
noncomputable def Rd(H:Hp)(a:Addr)(u:HO):Prop:=H a=some u∨∃o,H a=some (.frz o u)
theorem Rd.ok{P:Program}{w:World}{H:Hp}{h:Heap}{a:Addr}{u:HO}(r:Rd H a u)(x:HOk P w H h):ObjOk P w H h a u:=by
 rcases r with r|⟨o,r⟩
 ·exact x a u r
 ·obtain⟨_,q⟩:=x a _ r;exact q
noncomputable def Mut:Option HO→Prop
 |some (.lst _)=>True
 |some (.dK _)=>True
 |some (.dT _)=>True
 |some (.set _ _)=>True
 |some (.ins _ _ _)=>True
 |some (.ext _)=>True
 |_=>False
section
variable{P:Program}{w:World}{H:Hp}{h h':Heap}{x e:Addr}{o':HO}
theorem HOk.write(ok:HOk P w H h)(mu:Mut (H x))(he:e=x∨H e=some (.own x))(k:∀b u,b≠e→h.get? b=some u→h'.get? b=some u)(heo:∃u,h'.get? e=some u)(new:ObjOk P w (upd H x o') h' x o'):HOk P w (upd H x o') h':=fun b u q=>by
 have nown:∀c y,H c=some (.own y)→c≠x:=fun c y r z=>by subst z;rw[r] at mu;exact mu
 have ntup:∀c xs,H c=some (.tup xs)→c≠x:=fun c xs r z=>by subst z;rw[r] at mu;exact mu
 by_cases hb:b=x
 ·subst hb;rw[Ah] at q;cases q;exact new
 ·rw[Ad hb] at q
  by_cases hbe:b=e
  ·have q':H b=some (.own x):=by
    rcases he with z|z
    ·exact absurd (hbe.trans z) hb
    ·rw[hbe];exact z
   rw[q] at q';cases q';obtain⟨v,hv⟩:=heo;exact⟨v,by rw[hbe];exact hv⟩
  ·refine(ok b u q).stay (fun c v hc r=>k c v ?_ r) (fun c r=>by rw[Ad (nown c b r)];exact r) fun c xs r=>by rw[Ad (ntup c xs r)];exact r
   rcases hc with rfl|hc
   ·exact hbe
   ·rintro rfl;rcases he with z|z
    ·exact nown c b hc z
    ·rw[hc] at z;cases z;exact hb rfl
end
structure Un(fs ex:List Addr)(H H':Hp)(h h':Heap):Prop where
 keep:∀b o,h.get? b=some o→H b=none→b ∉ fs→b ∉ ex→h'.get? b=some o
 slot:∀b o,h.get? b=some o→H b=none→b∈fs→b ∉ ex→∃sl,h'.get? b=some { o with slots:=sl }
 free:∀b o,h.get? b=some o→H b=none→b ∉ ex→H' b=none
 there:∀b o,h.get? b=some o→b ∉ ex→∃o',h'.get? b=some o'
 tups:∀b xs,H b=some (.tup xs)→H' b=some (.tup xs)
 frzs:∀b o u,H b=some (.frz o u)→H' b=some (.frz o u)
 tbls:∀b ps,H b=some (.tbl ps)→∃more,H' b=some (.tbl (ps++more))
section
variable{fs fs' ex ex':List Addr}{H H1 H2:Hp}{h h1 h2 h':Heap}{a x e:Addr}{o:HO}
theorem Un.any(u:Un fs ex H H1 h h1){b:Addr}{ob:Obj}(q:h.get? b=some ob)(n:H b=none)(hx:b ∉ ex):∃sl,h1.get? b=some { ob with slots:=sl }:=by
 by_cases hb:b∈fs
 ·exact u.slot b ob q n hb hx
 ·exact⟨ob.slots,u.keep b ob q n hb hx⟩
theorem Un.trans(a:Un fs ex H H1 h h1)(b:Un fs ex H1 H2 h1 h2):Un fs ex H H2 h h2 where
 keep:=fun c ob q n hc hx=>b.keep c ob (a.keep c ob q n hc hx) (a.free c ob q n hx) hc hx
 slot:=fun c ob q n hc hx=>by
  obtain⟨sl,e1⟩:=a.slot c ob q n hc hx;obtain⟨sl',e2⟩:=b.slot c _ e1 (a.free c ob q n hx) hc hx;exact⟨sl',e2⟩
 free:=fun c ob q n hx=>by
  obtain⟨o',e1⟩:=a.there c ob q hx;exact b.free c o' e1 (a.free c ob q n hx) hx
 there:=fun c ob q hx=>by
  obtain⟨o',e1⟩:=a.there c ob q hx;exact b.there c o' e1 hx
 tups:=fun c xs q=>b.tups c xs (a.tups c xs q)
 frzs:=fun c ob xs q=>b.frzs c ob xs (a.frzs c ob xs q)
 tbls:=fun c ps q=>by
  obtain⟨m1,e1⟩:=a.tbls c ps q;obtain⟨m2,e2⟩:=b.tbls c _ e1;exact⟨m1++m2,by rw[e2,Array.append_assoc]⟩
theorem Un.kept(k:∀b u,h.get? b=some u→h'.get? b=some u):Un fs ex H H h h':=
 ⟨fun b ob q _ _ _=>k b ob q,fun b ob q _ _ _=>⟨ob.slots,k b ob q⟩,fun _ _ _ n _=>n,fun b ob q _=>⟨ob,k b ob q⟩,fun _ _ q=>q,fun _ _ _ q=>q,fun _ ps q=>⟨#[],by rw[q];simp⟩⟩
theorem Un.refl:Un fs ex H H h h:=Un.kept fun _ _ q=>q
theorem Un.laid(k:∀b u,h.get? b=some u→h'.get? b=some u)(hp:h.objs.size≤a)(hn:H a=none):Un fs ex H (upd H a o) h h' where
 keep:=fun b u q _ _ _=>k b u q
 slot:=fun b u q _ _ _=>⟨u.slots,k b u q⟩
 free:=fun b u q n _=>by rw[Ad (Nat.ne_of_lt (Nat.lt_of_lt_of_le (Heap.lt_size q) hp))];exact n
 there:=fun b u q _=>⟨u,k b u q⟩
 tups:=fun b xs q=>by rw[Ad (Ao q hn)];exact q
 frzs:=fun b u xs q=>by rw[Ad (Ao q hn)];exact q
 tbls:=fun b ps q=>⟨#[],by rw[Ad (Ao q hn),q];simp⟩
theorem Un.write(mu:Mut (H x))(he:e=x∨H e=some (.own x))(k:∀b u,b≠e→h.get? b=some u→h'.get? b=some u)(heo:∃u,h'.get? e=some u):Un fs ex H (upd H x o) h h':=by
 have hx:∀b,H b=none→b≠x:=fun b n z=>by subst z;rw[n] at mu;exact mu
 have hb:∀b,H b=none→b≠e:=fun b n z=>by
  subst z;rcases he with r|r
  ·exact hx b n r
  ·rw[n] at r;cases r
 have hm:∀b u,H b=some u→¬Mut (some u)→b≠x:=fun b u q nm z=>by subst z;rw[q] at mu;exact nm mu
 refine⟨fun b u q n _ _=>k b u (hb b n) q,fun b u q n _ _=>⟨u.slots,k b u (hb b n) q⟩,fun b u q n _=>by rw[Ad (hx b n)];exact n,fun b u q _=>?_,
  fun b xs q=>by rw[Ad (hm b _ q fun z=>z)];exact q,fun b u xs q=>by rw[Ad (hm b _ q fun z=>z)];exact q,fun b ps q=>⟨#[],by rw[Ad (hm b _ q fun z=>z),q];simp⟩⟩
 by_cases hbe:b=e
 ·subst hbe;exact heo
 ·exact⟨u,k b u hbe q⟩
end
noncomputable def trk(h:Heap)(H:Hp):List Addr:=(List.range h.objs.size).filter fun a=>(H a).isSome
noncomputable def Kg(h:Heap)(H:Hp):Heap:=W.hideAll h (trk h H)
theorem S9(h:Heap)(H:Hp):(Kg h H).objs.size=h.objs.size:=W.hideAll_size _ _
theorem Wv{h:Heap}{H:Hp}{b:Addr}{o:Obj}(e:h.get? b=some o)(n:H b=none):(Kg h H).get? b=some o:=
 W.hideAll_get _ e fun hm=>by
  have q:(H b).isSome=true:=(List.mem_filter.mp hm).2;rw[n] at q;simp at q
theorem Zh{h:Heap}{H:Hp}{b:Addr}{o:Obj}(e:(Kg h H).get? b=some o):h.get? b=some o∧H b=none:=by
 have e':h.get? b=some o:=W.of_hideAll (trk h H) e;refine⟨e',?_⟩;cases q:H b with
 |none=>rfl
 |some x=>
  have hm:b∈trk h H:=List.mem_filter.mpr ⟨List.mem_range.mpr (Heap.lt_size e'),by simp[q]⟩
  have z:(Kg h H).get? b=none:=W.hideAll_none (trk h H) hm;rw[z] at e;cases e

noncomputable def Z8(g h:Heap)(L:Addr):List (Addr×Obj):=(List.range h.objs.size).filterMap fun a=>if a=L∨(g.get? a).isSome=true then none else (h.get? a).map fun o=>(a,o)
noncomputable def rest(g h:Heap)(L d:Addr):List (Addr×Obj):=(Z8 g h L).filter fun p=>decide (p.1≠d)
end L2
namespace L2
open PySem PySem.Spec PyProof.Rows
structure Mod(K:W.Frag)(mg:Str→Option Value)(base:Heap):Prop where
 kin:K.In base
 glob:base.Ns mainGlobals mg
 sm:∃mm,base.Ns sysModules mm
 bm:∃bm ob,mg "__builtins__" = some (.ref bm)∧bm≠builtinsNs∧base.get? bm=some ob∧ob.cls=.type "module"∧ob.dict=some builtinsNs∧ob.data=.plain
 blt:∃mb,base.Ns builtinsNs mb∧∀x:Str,x≠"__name__"→mb x=bootBuiltins x
 nolimit:base.NoLimit

structure Cx where
 prog:Program
 w:World
 K:W.Frag
 mg:Str→Option Value
 base:Heap
 A:Around
 N:List Str
 s₀:Shared
 H₀:Hp
 env:Env
 outer:List Env
 stack:List Env
 ex:List Addr
 fn:Str→Bool
 calm:Bool
 pn:List (Addr×Obj)
 xe:Value→Shared→Prop
noncomputable def frs(l:List Env):List Addr:=l.filterMap (·.frame)
noncomputable abbrev Cx.fs(X:Cx):List Addr:=frs X.outer

noncomputable def Vis(sc:Scope)(x:Str):Prop:=sc.names.lookup x=some .local∨sc.names.lookup x=some .cell∨sc.names.lookup x=some .free
noncomputable def Loc(sc:Scope)(x:Str):Prop:=sc.names.lookup x=some .local∨sc.names.lookup x=some .cell
noncomputable def Look(env:Env)(h:Heap)(m:Str→Option Value)(x:Str)(u:Value):Prop:=
 (env.kindOf x=some .local∧m x=some u)∨((env.kindOf x=some .cell∨env.kindOf x=some .free)∧∃c,env.cells.lookup x=some c∧h.IsCell c (some u))

structure Cx.Ok(X:Cx):Prop where
 mod:Mod X.K X.mg X.base
 kind:X.env.scope.kind=.function
 glob:X.env.globals=mainGlobals
 blt:X.env.builtins=builtinsNs
 above:X.s₀.heap.objs.size≤X.env.locals
 inj:∀x y c,X.env.cells.lookup x=some c→X.env.cells.lookup y=some c→x=y
 has:∀x,(X.env.kindOf x=some .cell∨X.env.kindOf x=some .free)→∃c,X.env.cells.lookup x=some c
 cab:∀x c,X.fn x=true→X.env.cells.lookup x=some c→X.s₀.heap.objs.size≤c
 hd:X.calm=true→X.A.handled=none
 frames:X.A.frames=some X.stack
 stk:X.stack=X.outer∨(X.stack=X.env::X.outer∧X.env.frame=some X.env.locals)
 exf:∀b∈X.ex,b≠X.env.locals∧∀x c,X.env.cells.lookup x=some c→c≠b
 bs:∀b o,X.base.get? b=some o→X.s₀.heap.get? b=some o∧X.H₀ b=none
 bsz:X.base.objs.size≤X.s₀.heap.objs.size
 noex:∀b o,X.base.get? b=some o→b ∉ X.ex
 exfs:∀b∈X.ex,b ∉ X.fs
 funs:X.s₀.heap.FunFrames X.base X.outer
 frf:∀b∈X.fs,X.H₀ b=none

structure Inv(X:Cx)(pins:List (Addr×Obj))(σ:List (Option V))(H:Hp)(s:Shared):Prop where
 ok:X.Ok
 os:s.os=X.s₀.os
 bare:AllBare s.gens
 base:Un X.fs X.ex X.H₀ H X.s₀.heap s.heap
 loc:∃m,s.heap.Ns X.env.locals m∧∀(i:Nat) (x:Str) (v:V),X.N[i]? = some x→σ[i]? = some (some v)→Vis X.env.scope x→∃u,RelV v u∧Look X.env s.heap m x u
 cell:∀x c,X.env.cells.lookup x=some c→∃v,s.heap.IsCell c v
 free:H X.env.locals=none
 freeC:∀x c,X.env.cells.lookup x=some c→H c=none
 pin:∀p∈X.pn++pins,s.heap.get? p.1=some p.2∧H p.1=none∧p.1≠X.env.locals∧p.1 ∉ X.fs∧∀v,p.2.data≠.cell v
 hok:HOk X.prog X.w H s.heap
 len:σ.length=X.N.length

section
variable{X:Cx}{pins:List (Addr×Obj)}{σ:List (Option V)}{H H':Hp}{s:Shared}{h':Heap}
theorem Cx.Ok.nofr(ok:X.Ok){b:Addr}{o:Obj}(e:X.base.get? b=some o):b ∉ X.fs:=fun hb=>by
 have:=(ok.funs.mem hb).1
 rw[e] at this;cases this
theorem Inv.bs(I:Inv X pins σ H s):∀b o,X.base.get? b=some o→s.heap.get? b=some o∧H b=none:=fun b o e=>
 ⟨I.base.keep b o (I.ok.bs b o e).1 (I.ok.bs b o e).2 (I.ok.nofr e) (I.ok.noex b o e),I.base.free b o (I.ok.bs b o e).1 (I.ok.bs b o e).2 (I.ok.noex b o e)⟩
theorem Inv.bk(I:Inv X pins σ H s):∀b o,X.base.get? b=some o→s.heap.get? b=some o:=fun b o e=>(I.bs b o e).1
theorem Inv.mod(I:Inv X pins σ H s):Mod X.K X.mg X.base:=I.ok.mod
theorem Inv.kIn(I:Inv X pins σ H s):X.K.In s.heap:=I.ok.mod.kin.keeps I.bk
theorem Inv.lt(I:Inv X pins σ H s):X.env.locals<s.heap.objs.size:=let ⟨_,hn,_⟩:=I.loc;hn.lt
theorem Inv.sz(I:Inv X pins σ H s):X.s₀.heap.objs.size≤s.heap.objs.size:=Nat.le_trans I.ok.above (Nat.le_of_lt I.lt)
theorem Inv.nofs(I:Inv X pins σ H s){a:Addr}(h:s.heap.objs.size≤a):a ∉ X.fs:=fun hb=>by
 obtain⟨_,o,ho,_⟩:=I.ok.funs.mem hb;exact absurd (Nat.lt_of_lt_of_le (Heap.lt_size ho) (Nat.le_trans I.sz h)) (Nat.lt_irrefl _)
theorem Inv.cne(I:Inv X pins σ H s):∀x c,X.env.cells.lookup x=some c→c≠X.env.locals:=fun x c e z=>by
 obtain⟨v,o,ho,hd⟩:=I.cell x c e;obtain⟨m,⟨o',es,ep,ho',hd',_⟩,_⟩:=I.loc;rw[z,ho'] at ho;cases ho;rw[hd'] at hd;cases hd
theorem Inv.funs(I:Inv X pins σ H s):s.heap.FunFrames X.base X.outer:=by
 have all:∀(l:List Env),(∀b∈frs l,b∈X.fs)→X.s₀.heap.FunFrames X.base l→s.heap.FunFrames X.base l:=by
  intro l
  induction l with
  |nil=>intro _ _;trivial
  |cons env r ih=>
   intro hs hl;obtain⟨hk,⟨L,o,hf,hn,ho,hd⟩,hr⟩:=hl;have hL:L∈X.fs:=hs L (by unfold frs;rw[List.filterMap_cons,hf];exact List.mem_cons_self)
   obtain⟨sl,e⟩:=I.base.slot L o ho (I.ok.frf L hL) hL fun z=>I.ok.exfs L z hL;exact⟨hk,⟨L,_,hf,hn,e,hd⟩,ih (fun b hb=>hs b (by unfold frs;rw[List.filterMap_cons,hf];exact List.mem_cons_of_mem _ hb)) hr⟩
 exact all X.outer (fun _ hb=>hb) I.ok.funs

theorem Inv.stack(I:Inv X pins σ H s):s.heap.FunFrames X.base X.stack:=by
 rcases I.ok.stk with e|⟨e,hf⟩
 ·rw[e];exact I.funs
 ·rw[e];obtain⟨m,hn,_⟩:=I.loc;refine .cons (by rw[I.ok.kind];decide) hf hn ?_ I.funs
  exact Heap.get?_none_of_le (Nat.le_trans I.ok.bsz I.ok.above)
theorem Inv.stkSub(I:Inv X pins σ H s):∀b∈frs X.stack,b∈X.env.locals::X.fs:=fun b hb=>by
 rcases I.ok.stk with e|⟨e,hf⟩
 ·rw[e] at hb;exact List.mem_cons_of_mem _ hb
 ·rw[e] at hb;unfold frs at hb;rw[List.filterMap_cons,hf] at hb;exact hb
theorem Inv.stkFree(I:Inv X pins σ H s):∀b∈frs X.stack,H b=none:=fun b hb=>by
 rcases List.mem_cons.mp (I.stkSub b hb) with e|hb
 ·rw[e];exact I.free
 ·obtain⟨_,o,ho,_⟩:=I.ok.funs.mem hb;exact I.base.free b o ho (I.ok.frf b hb) fun z=>I.ok.exfs b z hb

theorem Inv.step{g':Array GenState}{t':Nat}{d':Drawn}{ch:List Addr}(I:Inv X pins σ H s)(hch:∀b∈ch,(b∈X.ex∨X.s₀.heap.objs.size≤b)∧b≠X.env.locals∧(∀x c,X.env.cells.lookup x=some c→c≠b)∧∀p∈X.pn++pins,p.1≠b)(keep:∀b o,b≠X.env.locals→b ∉ X.fs→b ∉ ch→s.heap.get? b=some o→H b=none→h'.get? b=some o)(slot:∀b o,b≠X.env.locals→b∈X.fs→b ∉ ch→s.heap.get? b=some o→H b=none→∃sl,h'.get? b=some { o with slots:=sl })(free:∀b o,b ∉ ch→s.heap.get? b=some o→H b=none→H' b=none)(there:∀b o,b ∉ ch→s.heap.get? b=some o→∃o',h'.get? b=some o')(tups:∀b xs,H b=some (.tup xs)→H' b=some (.tup xs))(frzs:∀b o u,H b=some (.frz o u)→H' b=some (.frz o u))(tbls:∀b ps,H b=some (.tbl ps)→∃more,H' b=some (.tbl (ps++more)))(ns:∀m,s.heap.Ns X.env.locals m→h'.Ns X.env.locals m)(hok:HOk X.prog X.w H' h')(hg:AllBare g') :
  Inv X pins σ H' { s with heap:=h',gens:=g',drawn:=d',toks:=t' }:=by
 have neL:∀b o,X.s₀.heap.get? b=some o→b≠X.env.locals:=fun b o e=>Nat.ne_of_lt (Nat.lt_of_lt_of_le (Heap.lt_size e) I.ok.above);have neC:∀b o,X.s₀.heap.get? b=some o→b ∉ X.ex→b ∉ ch:=fun b o e hx hb=>by
  rcases(hch b hb).1 with z|z
  ·exact hx z
  ·exact absurd (Nat.lt_of_lt_of_le (Heap.lt_size e) z) (Nat.lt_irrefl _)
 have Ar:∀x c,X.env.cells.lookup x=some c→∀v,s.heap.IsCell c v→h'.IsCell c v:=fun x c e v zz=>by
  obtain⟨o,ho,hd⟩:=zz;have nch:c ∉ ch:=fun z=>(hch c z).2.2.1 x c e rfl
  by_cases hc:c∈X.fs
  ·obtain⟨sl,q⟩:=slot c o (I.cne x c e) hc nch ho (I.freeC x c e);exact⟨_,q,hd⟩
  ·exact⟨o,keep c o (I.cne x c e) hc nch ho (I.freeC x c e),hd⟩
 refine⟨I.ok,I.os,hg,⟨fun b o e n hb hx=>?_,fun b o e n hb hx=>?_,fun b o e n hx=>?_,fun b o e hx=>?_,fun b xs e=>tups b xs (I.base.tups b xs e),fun b o xs e=>frzs b o xs (I.base.frzs b o xs e),fun b ps e=>?_⟩,?_,fun x c e=>?_,?_,fun x c e=>?_,fun p hp=>?_,hok,I.len⟩
 ·exact keep b o (neL b o e) hb (neC b o e hx) (I.base.keep b o e n hb hx) (I.base.free b o e n hx)
 ·obtain⟨sl,e1⟩:=I.base.slot b o e n hb hx;obtain⟨sl',e2⟩:=slot b _ (neL b o e) hb (neC b o e hx) e1 (I.base.free b o e n hx);exact⟨sl',e2⟩
 ·obtain⟨o',e1⟩:=I.base.there b o e hx;exact free b o' (neC b o e hx) e1 (I.base.free b o e n hx)
 ·obtain⟨o',e1⟩:=I.base.there b o e hx;exact there b o' (neC b o e hx) e1
 ·obtain⟨m1,e1⟩:=I.base.tbls b ps e;obtain⟨m2,e2⟩:=tbls b _ e1;exact⟨m1++m2,by rw[e2,Array.append_assoc]⟩
 ·obtain⟨m,hn,hl⟩:=I.loc;refine⟨m,ns m hn,fun i x v e1 e2 e3=>?_⟩;obtain⟨u,r,l⟩:=hl i x v e1 e2 e3;refine⟨u,r,?_⟩;rcases l with l|⟨k,c,e,z⟩
  ·exact .inl l
  ·exact .inr ⟨k,c,e,Ar x c e _ z⟩
 ·obtain⟨v,z⟩:=I.cell x c e;exact⟨v,Ar x c e v z⟩
 ·obtain⟨m,⟨o,_,_,ho,_⟩,_⟩:=I.loc;exact free _ o (fun z=>(hch _ z).2.1 rfl) ho I.free
 ·obtain⟨v,o,ho,hd⟩:=I.cell x c e;exact free c o (fun z=>(hch c z).2.2.1 x c e rfl) ho (I.freeC x c e)
 ·obtain⟨e,n,ne,nf,d⟩:=I.pin p hp;have nch:p.1 ∉ ch:=fun z=>(hch p.1 z).2.2.2 p hp rfl;exact⟨keep p.1 p.2 ne nf nch e n,free p.1 p.2 nch e n,ne,nf,d⟩
theorem Inv.un{t':Nat}(I:Inv X pins σ H s)(u:Un X.fs [] H H' s.heap h')(hok:HOk X.prog X.w H' h'):Inv X pins σ H' { s with heap:=h',toks:=t' }:=by
 obtain⟨m,⟨o,es,ep,ho,r⟩,_⟩:=id I.loc;obtain⟨sl,hL⟩:=u.any ho I.free (by simp)
 exact I.step (g':=s.gens) (d':=s.drawn) (ch:=[]) (fun _ z=>nomatch z) (fun b o _ hb _ e n=>u.keep b o e n hb (by simp)) (fun b o _ hb _ e n=>u.slot b o e n hb (by simp)) (fun b o _ e n=>u.free b o e n (by simp)) (fun b o _ e=>u.there b o e (by simp)) u.tups u.frzs u.tbls (fun m' hm=>by
  obtain⟨o',es',ep',ho',r'⟩:=hm;rw[ho] at ho';cases ho';exact⟨_,es',ep',hL,r'⟩) hok I.bare
theorem Inv.call{g':Array GenState}{t':Nat}{d':Drawn}{ch:List Addr}(I:Inv X pins σ H s)(u:Un (frs X.stack) ch H H' s.heap h')(hok:HOk X.prog X.w H' h')(hg:AllBare g')(hch:∀b∈ch,(b∈X.ex∨X.s₀.heap.objs.size≤b)∧b≠X.env.locals∧(∀x c,X.env.cells.lookup x=some c→c≠b)∧∀p∈X.pn++pins,p.1≠b) :
  Inv X pins σ H' { s with heap:=h',gens:=g',drawn:=d',toks:=t' }:=by
 obtain⟨m,⟨o,es,ep,ho,r⟩,_⟩:=id I.loc;obtain⟨sl,hL⟩:=u.any ho I.free fun z=>(hch _ z).2.1 rfl;exact I.step (ch:=ch) hch (fun b o hL hb hc e n=>u.keep b o e n (fun z=>(List.mem_cons.mp (I.stkSub b z)).elim hL hb) hc) (fun b o _ _ hc e n=>u.any e n hc) (fun b o hc e n=>u.free b o e n hc) (fun b o hc e=>u.there b o e hc) u.tups u.frzs u.tbls (fun m' hm=>by
  obtain⟨o',es',ep',ho',r'⟩:=hm;rw[ho] at ho';cases ho';exact⟨_,es',ep',hL,r'⟩) hok hg
theorem Inv.turned{t':Nat}{it:Addr}(I:Inv X pins σ H s)(k:∀b o,b≠it→s.heap.get? b=some o→h'.get? b=some o)(hn:H it=none)(hL:it≠X.env.locals)(h1:it∈X.ex∨X.s₀.heap.objs.size≤it)(h2:∀x c,X.env.cells.lookup x=some c→c≠it)(h3:∀p∈X.pn++pins,p.1≠it):Inv X pins σ H { s with heap:=h',toks:=t' }:=by
 have nit:∀b u,H b=some u→b≠it:=fun b u e z=>by rw[z,hn] at e;cases e
 refine I.step (g':=s.gens) (d':=s.drawn) (ch:=[it]) (fun b hb=>?_) (fun b o _ _ hc e _=>k b o (fun z=>hc (by simp[z])) e) (fun b o _ _ hc e _=>⟨o.slots,k b o (fun z=>hc (by simp[z])) e⟩) (fun _ _ _ _ n=>n)
  (fun b o hc e=>⟨o,k b o (fun z=>hc (by simp[z])) e⟩) (fun _ _ e=>e) (fun _ _ _ e=>e) (fun b ps e=>⟨#[],by rw[e];simp⟩) (fun m hm=>?_) (fun b u e=>?_) I.bare
 ·have e:b=it:=by simpa using hb
  subst e;exact⟨h1,hL,h2,h3⟩
 ·obtain⟨o,es,ep,ho,r⟩:=hm;exact⟨o,es,ep,k _ o (Ne.symm hL) ho,r⟩
 ·refine(I.hok b u e).stay (fun c v hc q=>k c v ?_ q) (fun _ q=>q) fun _ _ q=>q;rcases hc with z|z
  ·rw[z];exact nit b u e
  ·exact nit c _ z
theorem Inv.tok(I:Inv X pins σ H s)(t:Nat):Inv X pins σ H { s with toks:=t }:=I.un (h':=s.heap) (t':=t) Un.refl I.hok
theorem Inv.kept{t':Nat}(I:Inv X pins σ H s)(k:∀b u,s.heap.get? b=some u→h'.get? b=some u):Inv X pins σ H { s with heap:=h',toks:=t' }:=I.un (Un.kept k) (I.hok.kept k)
theorem Inv.laid{a:Addr}{o:HO}{t':Nat}(I:Inv X pins σ H s)(k:∀b u,s.heap.get? b=some u→h'.get? b=some u)(hp:s.heap.objs.size≤a)(new:ObjOk X.prog X.w (upd H a o) h' a o) :
  Inv X pins σ (upd H a o) { s with heap:=h',toks:=t' }:=I.un (Un.laid k hp (I.hok.fresh hp)) (I.hok.laid k hp new)
theorem Inv.write{x e:Addr}{o:HO}{t':Nat}(I:Inv X pins σ H s)(mu:Mut (H x))(he:e=x∨H e=some (.own x))(k:∀b u,b≠e→s.heap.get? b=some u→h'.get? b=some u)(heo:∃u,h'.get? e=some u)(new:ObjOk X.prog X.w (upd H x o) h' x o):Inv X pins σ (upd H x o) { s with heap:=h',toks:=t' }:=I.un (Un.write mu he k heo) (I.hok.write mu he k heo new)
theorem Inv.pins_of{pins':List (Addr×Obj)}(I:Inv X pins σ H s)(h:∀p∈pins',s.heap.get? p.1=some p.2∧H p.1=none∧p.1≠X.env.locals∧p.1 ∉ X.fs∧∀v,p.2.data≠.cell v):Inv X pins' σ H s:=
 ⟨I.ok,I.os,I.bare,I.base,I.loc,I.cell,I.free,I.freeC,fun p hp=>(List.mem_append.mp hp).elim (fun z=>I.pin p (List.mem_append_left _ z)) (h p),I.hok,I.len⟩

theorem Mr{N:List Str}(hN:N.Nodup){i j:Nat}{x:Str}(a:N[i]? = some x)(b:N[j]? = some x):i=j:=by
 obtain⟨h1,e1⟩:=List.getElem?_eq_some_iff.mp a;obtain⟨h2,e2⟩:=List.getElem?_eq_some_iff.mp b;exact(List.getElem_inj hN).mp (e1.trans e2.symm)

theorem Fk{M:Model}{A:Around}{E:Value→Shared→Prop}{i:Nat}{x:Str}{v:V}{u:Value}{Q:Unit→Shared→Prop}(I:Inv X pins σ H s)(hN:X.N.Nodup)(hi:X.N[i]? = some x)(hx:Loc X.env.scope x)(r:RelV v u)(h:∀s',Inv X pins (σ.set i (some v)) H s'→(∃a,Heap.SameBut a s.heap s'.heap∧(a=X.env.locals∨X.env.cells.lookup x=some a))→Q () s')(hf:X.fn x=true∨X.env.scope.names.lookup x=some .local:=by first|exact .inl rfl|exact .inr rfl|assumption):wpAny M A (storeName X.env x u) Q E s:=by
 obtain⟨m,hn,hl⟩:=id I.loc;have hcls:(X.env.scope.kind == .class||(X.env.scope.kind == .module&&X.env.locals != X.env.globals))=false:=by rw[I.ok.kind];rfl
 have hiσ:i<σ.length:=by rw[I.len];exact(List.getElem?_eq_some_iff.mp hi).1
 have cne:=I.cne;have tracked:∀{a:Addr} {h':Heap},(∃o,s.heap.get? a=some o∧H a=none)→Heap.SameBut a s.heap h'→HOk X.prog X.w H h':=fun {a h'} ha hs b ob e=>by
  obtain⟨_,_,hfree⟩:=ha;refine(I.hok b ob e).stay (fun c w' hc q=>(hs.2 c ?_).trans q) (fun _ q=>q) fun _ _ q=>q;rintro rfl;rcases hc with rfl|hc
  ·rw[hfree] at e;cases e
  ·rw[hfree] at hc;cases hc
 rcases hx with hk|hk
 ·refine wpAny_storeName_local hk hn (fun h' hn' hs=>?_) hcls;obtain⟨oL,_,_,hoL,_⟩:=id hn;refine h _ ⟨I.ok,I.os,I.bare,⟨fun b o e n hb hx=>?_,fun b o e n hb hx=>?_,I.base.free,fun b o e hx=>?_,I.base.tups,I.base.frzs,I.base.tbls⟩,⟨_,hn',fun j y v' e1 e2 e3=>?_⟩,fun y c e=>?_,I.free,I.freeC,fun p hp=>?_,tracked ⟨oL,hoL,I.free⟩ hs,by simpa using I.len⟩ ⟨_,hs,.inl rfl⟩
  ·exact(hs.2 b (Nat.ne_of_lt (Nat.lt_of_lt_of_le (Heap.lt_size e) I.ok.above))).trans (I.base.keep b o e n hb hx)
  ·obtain⟨sl,e1⟩:=I.base.slot b o e n hb hx;exact⟨sl,(hs.2 b (Nat.ne_of_lt (Nat.lt_of_lt_of_le (Heap.lt_size e) I.ok.above))).trans e1⟩
  ·obtain⟨o',e1⟩:=I.base.there b o e hx;exact⟨o',(hs.2 b (Nat.ne_of_lt (Nat.lt_of_lt_of_le (Heap.lt_size e) I.ok.above))).trans e1⟩
  ·by_cases hj:j=i
   ·subst hj;rw[hi] at e1;cases e1;rw[List.getElem?_set_self hiσ] at e2;cases e2;exact⟨u,r,.inl ⟨hk,by simp⟩⟩
   ·rw[List.getElem?_set_ne (Ne.symm hj)] at e2;obtain⟨u',r',q⟩:=hl j y v' e1 e2 e3;refine⟨u',r',?_⟩;rcases q with ⟨k,e⟩|⟨k,c,e,z⟩
    ·refine .inl ⟨k,?_⟩
     have:y≠x:=fun e=>hj (Mr hN e1 (e ▸ hi))
     simp[this,e]
    ·exact .inr ⟨k,c,e,z.sameBut hs (cne y c e)⟩
  ·obtain⟨w',z⟩:=I.cell y c e;exact⟨w',z.sameBut hs (cne y c e)⟩
  ·obtain⟨e,n,ne,nf,d⟩:=I.pin p hp;exact⟨(hs.2 p.1 ne).trans e,n,ne,nf,d⟩
 ·have hfn:X.fn x=true:=by
   rcases hf with z|z
   ·exact z
   ·rw[z] at hk;cases hk
  obtain⟨c,hc⟩:=I.ok.has x (.inl hk);obtain⟨w',z⟩:=I.cell x c hc;refine wpAny_storeName_cell I.ok.kind hk hc z (fun h' hc' hs=>?_);obtain⟨oc,hoc,hocd⟩:=id z;refine h { s with heap:=h' } ⟨I.ok,I.os,I.bare,⟨fun b o e n hb hx=>?_,fun b o e n hb hx=>?_,I.base.free,fun b o e hx=>?_,I.base.tups,I.base.frzs,I.base.tbls⟩,⟨m,hn.sameBut hs (Ne.symm (cne x c hc)),fun j y v' e1 e2 e3=>?_⟩,fun y c' e=>?_,I.free,I.freeC,fun p hp=>?_,tracked ⟨oc,hoc,I.freeC x c hc⟩ hs,by simpa using I.len⟩ ⟨c,hs,.inr hc⟩
  ·exact(hs.2 b (Nat.ne_of_lt (Nat.lt_of_lt_of_le (Heap.lt_size e) (I.ok.cab x c hfn hc)))).trans (I.base.keep b o e n hb hx)
  ·obtain⟨sl,e1⟩:=I.base.slot b o e n hb hx;exact⟨sl,(hs.2 b (Nat.ne_of_lt (Nat.lt_of_lt_of_le (Heap.lt_size e) (I.ok.cab x c hfn hc)))).trans e1⟩
  ·obtain⟨o',e1⟩:=I.base.there b o e hx;exact⟨o',(hs.2 b (Nat.ne_of_lt (Nat.lt_of_lt_of_le (Heap.lt_size e) (I.ok.cab x c hfn hc)))).trans e1⟩
  ·by_cases hj:j=i
   ·subst hj;rw[hi] at e1;cases e1;rw[List.getElem?_set_self hiσ] at e2;cases e2;exact⟨u,r,.inr ⟨.inl hk,c,hc,hc'⟩⟩
   ·rw[List.getElem?_set_ne (Ne.symm hj)] at e2;obtain⟨u',r',q⟩:=hl j y v' e1 e2 e3;refine⟨u',r',?_⟩;rcases q with q|⟨k,c',e,z'⟩
    ·exact .inl q
    ·refine .inr ⟨k,c',e,z'.sameBut hs ?_⟩;rintro rfl;exact hj (Mr hN e1 (I.ok.inj _ _ _ e hc ▸ hi))
  ·by_cases hcc:c'=c
   ·subst hcc;exact⟨_,hc'⟩
   ·obtain⟨w2,z2⟩:=I.cell y c' e;exact⟨w2,z2.sameBut hs hcc⟩
  ·obtain⟨e,n,ne,nf,d⟩:=I.pin p hp;refine⟨(hs.2 p.1 ?_).trans e,n,ne,nf,d⟩;intro q;rw[q,hoc] at e;have q':oc=p.2:=Option.some.inj e;exact d w' (by rw[←q'];exact hocd)
theorem Do{M:Model}{A:Around}{E:Value→Shared→Prop}{i:Nat}{x:Str}{v:V}{u:Value}{Q:Unit→Shared→Prop}(I:Inv X pins σ H s)(hN:X.N.Nodup)(hi:X.N[i]? = some x)(hx:Loc X.env.scope x)(r:RelV v u)(h:∀s',Inv X pins (σ.set i (some v)) H s'→Q () s')(hf:X.fn x=true∨X.env.scope.names.lookup x=some .local:=by first|exact .inl rfl|exact .inr rfl|assumption):wpAny M A (storeName X.env x u) Q E s:=
 Fk I hN hi hx r (fun s' I' _=>h s' I') hf
theorem Inv.call'{s':Shared}{ch:List Addr}(I:Inv X pins σ H s)(ho:s'.os=s.os)(u:Un (frs X.stack) ch H H' s.heap s'.heap)(hok:HOk X.prog X.w H' s'.heap)(hg:AllBare s'.gens)(hch:∀b∈ch,(b∈X.ex∨X.s₀.heap.objs.size≤b)∧b≠X.env.locals∧(∀x c,X.env.cells.lookup x=some c→c≠b)∧∀p∈X.pn++pins,p.1≠b):Inv X pins σ H' s':=by
 obtain⟨h',g',d',t',o'⟩:=s';have e:o'=s.os:=ho;subst e;exact I.call (g':=g') (t':=t') (d':=d') u hok hg hch
end
noncomputable abbrev XK:=Value→Option Addr→Hp→Prop
noncomputable abbrev St:=List (Option V)
noncomputable abbrev VK:=V→Hp→Prop
noncomputable abbrev TE:=St→Hp→VK→Prop
noncomputable abbrev TT:=St→Hp→(Bool→Hp→Prop)→Prop
noncomputable abbrev TA:=St→Hp→(List V→Hp→Prop)→Prop
structure Ends where
 nx:St→Hp→Prop
 rt:VK
 bk:St→Hp→Prop:=fun _ _=>False
 ct:St→Hp→Prop:=fun _ _=>False
noncomputable abbrev TS:=Ends→St→Hp→Prop

noncomputable def EP(X:Cx)(pins:List (Addr×Obj))(σ:St)(Q:VK)(u:Value)(s':Shared):Prop:=∃v H',Inv X pins σ H' s'∧RelV v u∧Q v H'
noncomputable def TP(X:Cx)(pins:List (Addr×Obj))(σ:St)(Q:Bool→Hp→Prop)(b:Bool)(s':Shared):Prop:=∃H',Inv X pins σ H' s'∧Q b H'
noncomputable def AP(X:Cx)(pins:List (Addr×Obj))(σ:St)(Q:List V→Hp→Prop)(us:List Value)(s':Shared):Prop:=∃vs H',Inv X pins σ H' s'∧Vals vs us∧Q vs H'
noncomputable def SP(X:Cx)(pins:List (Addr×Obj))(D:Ends)(f:Flow)(s':Shared):Prop:=
 match f with
 |.next=>∃σ' H',Inv X pins σ' H' s'∧D.nx σ' H'
 |.brk=>∃σ' H',Inv X pins σ' H' s'∧D.bk σ' H'
 |.cont=>∃σ' H',Inv X pins σ' H' s'∧D.ct σ' H'
 |.ret u=>∃v σ' H',Inv X pins σ' H' s'∧RelV v u∧D.rt v H'

noncomputable def PE(X:Cx)(e:Expr)(t:TE):Prop:=
 ∀(pins:List (Addr×Obj)) (s:Shared) (σ:St) (H:Hp) (Q:VK),Inv X pins σ H s→t σ H Q→wpAny (model X.prog X.w) X.A (eval e X.env) (EP X pins σ Q) X.xe s
noncomputable def PT(X:Cx)(e:Expr)(t:TT):Prop:=
 ∀(pins:List (Addr×Obj)) (s:Shared) (σ:St) (H:Hp) (Q:Bool→Hp→Prop),Inv X pins σ H s→t σ H Q→wpAny (model X.prog X.w) X.A (isTrue e X.env (eval e X.env)) (TP X pins σ Q) X.xe s
noncomputable def PW(X:Cx)(e:Expr)(t:TT):Prop:=
 ∀(whole:Sem Value) (pins:List (Addr×Obj)) (s:Shared) (σ:St) (H:Hp) (Q:Bool→Hp→Prop),Inv X pins σ H s→t σ H Q→wpAny (model X.prog X.w) X.A (isTrue e X.env whole) (TP X pins σ Q) X.xe s
theorem PW.pt{X:Cx}{e:Expr}{t:TT}(h:PW X e t):PT X e t:=h _
noncomputable def PA(X:Cx)(es:List Expr)(t:TA):Prop:=
 ∀(pos:Pos) (pins:List (Addr×Obj)) (s:Shared) (σ:St) (H:Hp) (Q:List V→Hp→Prop),Inv X pins σ H s→t σ H Q→wpAny (model X.prog X.w) X.A (spliced (backTo pos (starEach es X.env))) (AP X pins σ Q) X.xe s
noncomputable def PS(X:Cx)(st:Stmt)(t:TS):Prop:=
 ∀(pins:List (Addr×Obj)) (s:Shared) (σ:St) (H:Hp) (D:Ends),Inv X pins σ H s→t D σ H→wpAny (model X.prog X.w) X.A (exec st X.env) (SP X pins D) X.xe s
noncomputable def PSs(X:Cx)(st:List Stmt)(t:TS):Prop:=
 ∀(pins:List (Addr×Obj)) (s:Shared) (σ:St) (H:Hp) (D:Ends),Inv X pins σ H s→t D σ H→wpAny (model X.prog X.w) X.A (execs st X.env) (SP X pins D) X.xe s
theorem thn{α:Type}{t:Sem α}{Q Q':α→Shared→Prop}{M:Model}{A:Around}{E:Value→Shared→Prop}{s:Shared}(h:wpAny M A t Q E s)(hQ:∀a s,Q a s→Q' a s):wpAny M A t Q' E s:=wpAny_mono h hQ fun _ _ x=>x
end L2
namespace L2
open PySem PySem.Spec PyProof.Rows
section
variable{X:Cx}
theorem bin{a b:Expr}{ta tb:TE}(ha:PE X a ta)(hb:PE X b tb){pins:List (Addr×Obj)}{s:Shared}{σ:St}{H:Hp}{R:V→V→Hp→Prop}(I:Inv X pins σ H s)(h:ta σ H fun x H1=>tb σ H1 fun y H2=>R x y H2){α:Type}{Q:α→Shared→Prop}{f:Value→Value→Sem α}(hf:∀v u s2 x y H2,Inv X pins σ H2 s2→RelV x v→RelV y u→R x y H2→wpAny (model X.prog X.w) X.A (f v u) Q X.xe s2) :
  wpAny (model X.prog X.w) X.A (eval a X.env) (fun v s₁=>wpAny (model X.prog X.w) X.A (eval b X.env) (fun u s₂=>wpAny (model X.prog X.w) X.A (f v u) Q X.xe s₂) X.xe s₁) X.xe s:=by
 refine thn (ha pins s σ H _ I h) fun v s1 zz=>?_;obtain⟨x,H1,I1,r1,q1⟩:=zz;refine thn (hb pins s1 σ H1 _ I1 q1) fun u s2 zz=>?_;obtain⟨y,H2,I2,r2,q2⟩:=zz;exact hf v u s2 x y H2 I2 r1 r2 q2

noncomputable def tVar(i:Nat):TE:=fun σ H Q=>∃v,σ[i]? = some (some v)∧Q v H
noncomputable def tC(v:V):TE:=fun _ H Q=>Q v H
theorem Ur{i:Nat}{x:Str}{pos:Pos}(hN:X.N[i]? = some x)(hv:Vis X.env.scope x)(hd:(x == ("__debug__" : Str))=false:=by decide)(hcd:(x == ("__classdict__" : Str))=false:=by decide):PE X (.Name x pos) (tVar i):=by
 intro pins s σ H Q I h;obtain⟨v,e,h⟩:=h;obtain⟨m,hn,hl⟩:=I.loc;obtain⟨u,r,l⟩:=hl i x v hN e hv;have fin:EP X pins σ Q u s:=⟨v,H,I,r,h⟩;rcases l with ⟨hk,hm⟩|⟨hk,c,hc,hcell⟩
 ·exact wpAny_Name (wpAny_loadName_local I.ok.kind hk hn hm fin) hd
 ·rcases hk with hk|hk
  ·exact wpAny_Name (wpAny_loadName_cell I.ok.kind hk hc hcell fin) hd
  ·exact wpAny_Name (wpAny_loadName_free I.ok.kind hk hc hcell fin hcd) hd
theorem Adl{i j pos}:PE X (.Constant (.int i) j pos) (tC (.int i)):=fun _ _ _ H _ I h=>wpAny_Constant_int ⟨.int i,H,I.tok _,⟨_,rfl⟩,h⟩
theorem pe_bl{b j pos}:PE X (.Constant (.bool b) j pos) (tC (.bl b)):=fun _ _ _ H _ I h=>Constant_bool ⟨.bl b,H,I,rfl,h⟩
theorem Adi{j pos}:PE X (.Constant .none j pos) (tC .non):=fun _ _ _ H _ I h=>Constant_none ⟨.non,H,I,rfl,h⟩
theorem Adf{x j pos}:PE X (.Constant (.str x) j pos) (tC (.str x)):=fun _ _ _ H _ I h=>Calls.Constant_str ⟨.str x,H,I.tok _,⟨_,rfl⟩,h⟩

noncomputable def Gl(X:Cx)(x:Str):Prop:=X.env.kindOf x=some .globalImplicit
theorem K8{E:Value→Shared→Prop}{pins:List (Addr×Obj)}{s:Shared}{σ:St}{H:Hp}{x:Str}{u:Value}{pos:Pos}{Q:Value→Shared→Prop}(I:Inv X pins σ H s)(hg:Gl X x)(hm:X.mg x=some u)(h:Q u s)(hd:(x == ("__debug__" : Str))=false:=by decide):wpAny (model X.prog X.w) X.A (eval (.Name x pos) X.env) Q E s:=
 Calls.Name_function_global I.ok.kind hg (Calls.loadGlobal_global (by rw[I.ok.glob];exact I.mod.glob.keeps I.bk) hm h) hd
theorem Ha{E:Value→Shared→Prop}{pins:List (Addr×Obj)}{s:Shared}{σ:St}{H:Hp}{x:Str}{u:Value}{pos:Pos}{Q:Value→Shared→Prop}(I:Inv X pins σ H s)(hg:Gl X x)(hm:X.mg x=none)(hv:bootBuiltins x=some u)(h:Q u s)(hn:x≠"__name__":=by decide)(hd:(x == ("__debug__" : Str))=false:=by decide):wpAny (model X.prog X.w) X.A (eval (.Name x pos) X.env) Q E s:=by
 obtain⟨mb,h1,h2⟩:=I.mod.blt;exact Calls.Name_function_global I.ok.kind hg (Calls.loadGlobal_builtin (by rw[I.ok.glob];exact I.mod.glob.keeps I.bk) hm (by rw[I.ok.blt];exact h1.keeps I.bk) ((h2 x hn).trans hv) h) hd
theorem Qs{x:Str}{v:V}{u:Value}{pos:Pos}(hg:Gl X x)(hm:X.mg x=some u)(r:RelV v u)(hd:(x == ("__debug__" : Str))=false:=by decide):PE X (.Name x pos) (tC v):=
 fun _ _ _ H _ I h=>K8 I hg hm ⟨v,H,I,r,h⟩ hd
theorem Yx{x:Str}{v:V}{u:Value}{pos:Pos}(hg:Gl X x)(hm:X.mg x=none)(hv:bootBuiltins x=some u)(r:RelV v u)(hn:x≠"__name__":=by decide)(hd:(x == ("__debug__" : Str))=false:=by decide):PE X (.Name x pos) (tC v):=
 fun _ _ _ H _ I h=>Ha I hg hm hv ⟨v,H,I,r,h⟩ hn hd

variable{a b:Expr}{ta tb:TE}{pos:Pos}
noncomputable def tB(t:TE):TT:=fun σ H Q=>t σ H fun x H1=>∃c,x=.bl c∧Q c H1
variable{tA tB':TT}{rest:List Expr}
noncomputable def tAnd(t u:TT):TT:=fun σ H Q=>t σ H fun c H1=>if c=true then u σ H1 Q else Q false H1
noncomputable def tOr(t u:TT):TT:=fun σ H Q=>t σ H fun c H1=>if c=true then Q true H1 else u σ H1 Q
noncomputable def tNot(t:TT):TT:=fun σ H Q=>t σ H fun c H1=>Q (!c) H1
theorem Yn(ha:PT X a tA):PW X (.BoolOp .And [a] pos) tA:=by
 intro wh pins s σ H Q I h;refine isTrue_and (thn (ha pins s σ H Q I h) fun c s1 e=>?_);cases c with
 |true=>exact isTrue_and_nil e
 |false=>exact e
theorem Acy(ha:PT X a tA):PW X (.BoolOp .Or [a] pos) tA:=by
 intro wh pins s σ H Q I h;refine isTrue_or (thn (ha pins s σ H Q I h) fun c s1 e=>?_);cases c with
 |false=>exact isTrue_or_nil e
 |true=>exact e
theorem Acz(ha:PT X a tA)(hb:PW X (.BoolOp .And (b::rest) pos) tB'):PW X (.BoolOp .And (a::b::rest) pos) (tAnd tA tB'):=by
 intro wh pins s σ H Q I h;refine isTrue_and (thn (ha pins s σ H _ I h) fun c s1 zz=>?_);obtain⟨H1,I1,q1⟩:=zz;cases c with
 |true=>exact hb wh pins s1 σ H1 Q I1 q1
 |false=>exact⟨H1,I1,q1⟩
theorem pw_or(ha:PT X a tA)(hb:PW X (.BoolOp .Or (b::rest) pos) tB'):PW X (.BoolOp .Or (a::b::rest) pos) (tOr tA tB'):=by
 intro wh pins s σ H Q I h;refine isTrue_or (thn (ha pins s σ H _ I h) fun c s1 zz=>?_);obtain⟨H1,I1,q1⟩:=zz;cases c with
 |true=>exact⟨H1,I1,q1⟩
 |false=>exact hb wh pins s1 σ H1 Q I1 q1
theorem Ac1(ha:PT X a tA):PT X (.UnaryOp .Not a pos) (tNot tA):=by
 intro pins s σ H Q I h;exact isTrue_not (ha pins s σ H (fun c H1=>Q (!c) H1) I h)
noncomputable def tAndV(ta tb:TE):TE:=fun σ H Q=>ta σ H fun x H1=>∃c,x=.bl c∧if c=true then tb σ H1 Q else Q (.bl false) H1
noncomputable def tNotV(ta:TE):TE:=fun σ H Q=>ta σ H fun x H1=>∃c,x=.bl c∧Q (.bl (!c)) H1
theorem Adg{op}{t:TE}(h:PE X a t):PE X (.BoolOp op [a] pos) t:=fun pins s σ H Q I hw=>BoolOp_one (h pins s σ H Q I hw)
theorem Adn(ha:PE X a ta)(hb:PE X (.BoolOp .And (b::rest) pos) tb):PE X (.BoolOp .And (a::b::rest) pos) (tAndV ta tb):=by
 intro pins s σ H Q I h;refine BoolOp_and (thn (ha pins s σ H _ I h) fun v s1 zz=>?_);obtain⟨x,H1,I1,r1,q1⟩:=zz;obtain⟨c,rfl,q1⟩:=q1;cases r1;refine wpAny_truthy_bool ?_;cases c with
 |true=>exact hb pins s1 σ H1 Q I1 q1
 |false=>exact⟨.bl false,H1,I1,rfl,q1⟩
theorem Adh(ha:PE X a ta):PE X (.UnaryOp .Not a pos) (tNotV ta):=by
 intro pins s σ H Q I h;refine UnaryOp_ (thn (ha pins s σ H _ I h) fun v s1 zz=>?_);obtain⟨x,H1,I1,r1,q1⟩:=zz;obtain⟨c,rfl,q1⟩:=q1;cases r1;exact not_of (wpAny_truthy_bool ⟨.bl (!c),H1,I1,rfl,q1⟩)
noncomputable def tIf(t:TT)(ta tb:TE):TE:=fun σ H Q=>t σ H fun c H1=>if c=true then ta σ H1 Q else tb σ H1 Q
theorem Vy{c:Expr}(hc:PT X c tA)(ha:PE X a ta)(hb:PE X b tb):PE X (.IfExp c a b pos) (tIf tA ta tb):=by
 intro pins s σ H Q I h;refine wpAny_IfExp (thn (hc pins s σ H _ I h) fun d s1 zz=>?_);obtain⟨H1,I1,q1⟩:=zz;cases d with
 |true=>exact ha pins s1 σ H1 Q I1 q1
 |false=>exact hb pins s1 σ H1 Q I1 q1
end
end L2
namespace L2
open PySem PySem.Spec PyProof.Rows
noncomputable def SqL(K:W.Frag)(H:Hp)(a:Addr)(xs:List V):Prop:=
 Rd H a (.lst xs)∨
  ∃(o:Obj) (its:Array Value) (n:Nat),K.lookup a=some o∧o.cls=.type "list"∧o.dict=none∧o.data=.seq its n∧its.size≤sizeLine∧Vals xs its.toList
noncomputable def SqT(K:W.Frag)(H:Hp)(a:Addr)(xs:List V):Prop:=
 Rd H a (.tup xs)∨
  ∃(o:Obj) (its:Array Value) (n:Nat),K.lookup a=some o∧o.cls=.type "tuple"∧o.data=.seq its n∧its.size≤sizeLine∧Vals xs its.toList
noncomputable def absV:Value→Option V
 |.none=>some .non
 |.bool b=>some (.bl b)
 |.int i _=>some (.int i)
 |.str x _=>some (.str x)
 |.bytes b _=>some (.byt b)
 |.float b _=>some (.flt b)
 |.ref a=>some (.ref a)
 |.type n=>some (.ty n)
 |_=>none
theorem RelV.abs{x:V}{u:Value}(r:RelV x u):absV u=some x:=by
 cases x with
 |non=>cases r;rfl
 |bl _=>cases r;rfl
 |int _=>obtain⟨t,rfl⟩:=r;rfl
 |str _=>obtain⟨t,rfl⟩:=r;rfl
 |byt _=>obtain⟨t,rfl⟩:=r;rfl
 |flt _=>obtain⟨t,rfl⟩:=r;rfl
 |ref _=>cases r;rfl
 |ty _=>cases r;rfl
theorem RelV.inj{x y:V}{u:Value}(r:RelV x u)(q:RelV y u):x=y:=Option.some.inj (r.abs.symm.trans q.abs)
theorem Vals.inj:∀{xs ys:List V} {us:List Value},Vals xs us→Vals ys us→xs=ys
 |_,_,_,.nil,.nil=>rfl
 |_,_,_,.cons r t,.cons r' t'=>by rw[r.inj r',Vals.inj t t']
section
variable{X:Cx}{pins:List (Addr×Obj)}{σ:St}{H:Hp}{s:Shared}{a:Addr}{xs ys:List V}
theorem Inv.list(I:Inv X pins σ H s)(h:SqL X.K H a xs):∃its:List Value,Vals xs its∧PlainL s.heap a its.toArray∧xs.length≤sizeLine:=by
 rcases h with h|⟨o,its,n,hk,hc,hd,hs,hz,r⟩
 ·obtain⟨z,its,n,r,e⟩:=h.ok I.hok;exact⟨its,r,⟨_,n,e,rfl,rfl,rfl⟩,z⟩
 ·refine⟨its.toList,r,⟨o,n,I.kIn a o hk,hc,hd,by simpa using hs⟩,?_⟩
  have e:=r.length;simp only[Array.length_toList] at e;omega
theorem Inv.tuple(I:Inv X pins σ H s)(h:SqT X.K H a xs):∃its:List Value,Vals xs its∧IsTup s.heap a its.toArray∧xs.length≤sizeLine:=by
 rcases h with h|⟨o,its,n,hk,hc,hs,hz,r⟩
 ·obtain⟨z,its,r,p⟩:=h.ok I.hok;exact⟨its,r,p,z⟩
 ·refine⟨its.toList,r,⟨o,I.kIn a o hk,hc,n,by simpa using hs⟩,?_⟩
  have e:=r.length;simp only[Array.length_toList] at e;omega
theorem Inv.list_inj(I:Inv X pins σ H s)(h:SqL X.K H a xs)(h':SqL X.K H a ys):xs=ys:=by
 obtain⟨its,r,⟨o,n,e,_,_,d⟩,_⟩:=I.list h;obtain⟨its',r',⟨o',n',e',_,_,d'⟩,_⟩:=I.list h';rw[e] at e';cases e';rw[d] at d';injection d' with d1 _
 have:its=its':=by simpa using congrArg Array.toList d1
 subst this;exact r.inj r'
theorem Inv.tuple_inj(I:Inv X pins σ H s)(h:SqT X.K H a xs)(h':SqT X.K H a ys):xs=ys:=by
 obtain⟨its,r,⟨o,e,_,n,d⟩,_⟩:=I.tuple h;obtain⟨its',r',⟨o',e',_,n',d'⟩,_⟩:=I.tuple h';rw[e] at e';cases e';rw[d] at d';injection d' with d1 _
 have:its=its':=by simpa using congrArg Array.toList d1
 subst this;exact r.inj r'
end
noncomputable abbrev Cx.wish(X:Cx)(E:Value→Shared→Prop):Cx:={ X with xe:=E }
noncomputable abbrev Cx.nox(X:Cx):Cx:=X.wish fun _ _=>False
theorem Cx.Ok.wish{X:Cx}(ok:X.Ok)(E:Value→Shared→Prop):(X.wish E).Ok:=
 ⟨ok.mod,ok.kind,ok.glob,ok.blt,ok.above,ok.inj,ok.has,ok.cab,ok.hd,ok.frames,ok.stk,ok.exf,ok.bs,ok.bsz,ok.noex,ok.exfs,ok.funs,ok.frf⟩
theorem Cx.Ok.unwish{X:Cx}{E:Value→Shared→Prop}(ok:(X.wish E).Ok):X.Ok:=
 ⟨ok.mod,ok.kind,ok.glob,ok.blt,ok.above,ok.inj,ok.has,ok.cab,ok.hd,ok.frames,ok.stk,ok.exf,ok.bs,ok.bsz,ok.noex,ok.exfs,ok.funs,ok.frf⟩
section
variable{X:Cx}{pins:List (Addr×Obj)}{σ:St}{H:Hp}{s:Shared}{E:Value→Shared→Prop}
theorem Inv.wish(I:Inv X pins σ H s)(E:Value→Shared→Prop):Inv (X.wish E) pins σ H s:=⟨I.ok.wish E,I.os,I.bare,I.base,I.loc,I.cell,I.free,I.freeC,I.pin,I.hok,I.len⟩
theorem Inv.unwish(I:Inv (X.wish E) pins σ H s):Inv X pins σ H s:=⟨I.ok.unwish,I.os,I.bare,I.base,I.loc,I.cell,I.free,I.freeC,I.pin,I.hok,I.len⟩
theorem SP.unwish{D:Ends}{f:Flow}{s':Shared}(h:SP (X.wish E) pins D f s'):SP X pins D f s':=by
 cases f with
 |next=>obtain⟨σ',H',I,q⟩:=h;exact⟨σ',H',I.unwish,q⟩
 |brk=>obtain⟨σ',H',I,q⟩:=h;exact⟨σ',H',I.unwish,q⟩
 |cont=>obtain⟨σ',H',I,q⟩:=h;exact⟨σ',H',I.unwish,q⟩
 |ret u=>obtain⟨v,σ',H',I,r,q⟩:=h;exact⟨v,σ',H',I.unwish,r,q⟩
theorem PSs.nox{st:List Stmt}{t:TS}(h:PSs X.nox st t):PSs X st t:=fun pins s σ H D I hw=>
 wpAny_mono (h pins s σ H D (I.wish _) hw) (fun _ _ q=>q.unwish) fun _ _ z=>False.elim z
end
section
variable{X:Cx}{st:Stmt}{rest:List Stmt}{t u:TS}{e:Expr}{te:TE}{pos:Pos}
noncomputable def tNext:TS:=fun D σ H=>D.nx σ H
noncomputable def tSeq(t u:TS):TS:=fun D σ H=>t { D with nx:=u D } σ H
theorem pss_nil:PSs X [] tNext:=fun _ _ σ H _ I h=>wpAny_execs_nil ⟨σ,H,I,h⟩
theorem Vs(h1:PS X st t)(h2:PSs X rest u):PSs X (st::rest) (tSeq t u):=by
 intro pins s σ H D I h;refine wpAny_execs_cons (thn (h1 pins s σ H { D with nx:=u D } I h) fun f s1 q=>?_);cases f with
 |next=>
  obtain⟨σ',H',I',q⟩:=q;exact h2 pins s1 σ' H' D I' q
 |ret v=>exact q
 |brk=>exact q
 |cont=>exact q
theorem Yp(h1:PS X st t):PSs X [st] t:=by
 intro pins s σ H D I h;refine wpAny_execs_cons (thn (h1 pins s σ H D I h) fun f s1 q=>?_);cases f with
 |next=>exact wpAny_execs_nil q
 |ret v=>exact q
 |brk=>exact q
 |cont=>exact q
theorem Inv.quiet{pins:List (Addr×Obj)}{σ:St}{H:Hp}{s:Shared}(I:Inv X pins σ H s):interactive X.env=false:=by simp[interactive,I.ok.kind]
noncomputable def tDrop(te:TE):TS:=fun D σ H=>te σ H fun _ H1=>D.nx σ H1
theorem Yq(he:PE X e te)(hs:swapsWith e none pos.line X.env=pure false:=by rfl):PS X (.Expr e pos) (tDrop te):=by
 intro pins s σ H D I h;exact wpAny_Expr_any (thn (he pins s σ H _ I h) fun v s1 ⟨x,H1,I1,r1,q1⟩=>⟨σ,H1,I1,q1⟩) I.quiet hs
noncomputable def tRet(te:TE):TS:=fun D σ H=>te σ H D.rt
theorem Ac3(he:PE X e te):PS X (.Return (some e) pos) (tRet te):=by
 intro pins s σ H D I h;exact wpAny_Return_some (thn (he pins s σ H _ I h) fun v s1 ⟨x,H1,I1,r1,q1⟩=>⟨x,σ,H1,I1,r1,q1⟩)
noncomputable def tIfS(c:TT)(t u:TS):TS:=fun D σ H=>c σ H fun b H1=>if b=true then t D σ H1 else u D σ H1
theorem Aam{c:Expr}{a b:List Stmt}{tc:TT}(hc:PT X c tc)(ha:PSs X a t)(hb:PSs X b u):PS X (.If c a b pos) (tIfS tc t u):=by
 intro pins s σ H D I h;refine wpAny_If (thn (hc pins s σ H _ I h) fun d s1 zz=>?_);obtain⟨H1,I1,q1⟩:=zz;cases d with
 |true=>exact ha pins s1 σ H1 D I1 q1
 |false=>exact hb pins s1 σ H1 D I1 q1
noncomputable def Ab5:TS:=fun _ _ _=>False
theorem ps_never:PS X st Ab5:=fun _ _ _ _ _ _ h=>h.elim
end
noncomputable abbrev TG:=V→St→Hp→(St→Hp→Prop)→Prop
noncomputable abbrev TGs:=List V→St→Hp→(St→Hp→Prop)→Prop
noncomputable def PG(X:Cx)(target:Expr)(t:TG):Prop:=
 ∀(pins:List (Addr×Obj)) (s:Shared) (σ:St) (H:Hp) (v:V) (u:Value) (Q:St→Hp→Prop),Inv X pins σ H s→RelV v u→t v σ H Q→
  wpAny (model X.prog X.w) X.A (assign target X.env u) (fun _ s'=>∃σ' H',Inv X pins σ' H' s'∧Q σ' H') X.xe s
noncomputable def PGs(X:Cx)(ts:List Expr)(t:TGs):Prop:=
 ∀(pins:List (Addr×Obj)) (s:Shared) (σ:St) (H:Hp) (vs:List V) (us:List Value) (Q:St→Hp→Prop),Inv X pins σ H s→Vals vs us→t vs σ H Q→
  wpAny (model X.prog X.w) X.A (assignInOrder ((assignEach ts X.env).map (·.2)) us) (fun _ s'=>∃σ' H',Inv X pins σ' H' s'∧Q σ' H') X.xe s
noncomputable abbrev T3:=V→V→V→Hp→(Hp→Prop)→Prop
noncomputable def PSet(X:Cx)(t:T3):Prop:=
 ∀(pins:List (Addr×Obj)) (s:Shared) (σ:St) (H:Hp) (o i v:V) (ov iv u:Value) (Q:Hp→Prop),Inv X pins σ H s→RelV o ov→RelV i iv→RelV v u→t o i v H Q→
  wpAny (model X.prog X.w) X.A (setItem ov iv u) (fun _ s'=>∃H',Inv X pins σ H' s'∧Q H') X.xe s
noncomputable abbrev TIp:=V→V→Hp→VK→Prop
noncomputable def PIp(X:Cx)(op:Operator)(t:TIp):Prop:=
 ∀(pins:List (Addr×Obj)) (s:Shared) (σ:St) (H:Hp) (x y:V) (v u:Value) (Q:VK),Inv X pins σ H s→RelV x v→RelV y u→t x y H Q→
  wpAny (model X.prog X.w) X.A (inplaceOp op v u) (EP X pins σ Q) X.xe s
section
variable{X:Cx}{pos:Pos}
noncomputable def Qd(i:Nat):TG:=fun v σ H Q=>Q (σ.set i (some v)) H
theorem Yt{i:Nat}{x:Str}(hN:X.N.Nodup)(hi:X.N[i]? = some x)(hx:Loc X.env.scope x)(hf:X.fn x=true∨X.env.scope.names.lookup x=some .local:=by first|exact .inl rfl|exact .inr rfl|assumption):PG X (.Name x pos) (Qd i):=by
 intro pins s σ H v u Q I r h;exact wpAny_assign_Name (Do I hN hi hx r (fun s' I'=>⟨_,H,I',h⟩) hf)
noncomputable def gNil:TGs:=fun vs σ H Q=>vs=[]∧Q σ H
noncomputable def gCons(t:TG)(u:TGs):TGs:=fun vs σ H Q=>∃v r,vs=v::r∧t v σ H fun σ' H'=>u r σ' H' Q
theorem pgs_nil:PGs X [] gNil:=by
 intro pins s σ H vs us Q I r h;obtain⟨e,h⟩:=h;subst e;cases r;exact assignInOrder_nil ⟨σ,H,I,h⟩
theorem Vw{e:Expr}{es:List Expr}{t:TG}{u:TGs}(h1:PG X e t)(h2:PGs X es u)(hs:(assignEach (e::es) X.env).map (·.2)=assign e X.env::(assignEach es X.env).map (·.2):=by rfl):PGs X (e::es) (gCons t u):=by
 intro pins s σ H vs us Q I r h;obtain⟨v,vr,e1,h⟩:=h;subst e1;cases r with
 |cons r rr=>
  rw[hs];refine assignInOrder_cons (thn (h1 pins s σ H _ _ _ I r h) fun _ s1 zz=>?_);obtain⟨σ1,H1,I1,q1⟩:=zz;exact h2 pins s1 σ1 H1 _ _ Q I1 rr q1
noncomputable def gTup(K:W.Frag)(n:Nat)(t:TGs):TG:=fun v σ H Q=>∃a xs,v=.ref a∧SqT K H a xs∧xs.length=n∧t xs σ H Q
theorem Ac9{es:List Expr}{k:Nat}{t:TGs}{n:Nat}(hc:X.calm=true)(h:PGs X es t)(hn:(assignEach es X.env).length=n:=by rfl)(hst:(assignEach es X.env).findIdx? (·.1)=none:=by rfl):PG X (.Tuple es k pos) (gTup X.K n t):=by
 intro pins s σ H v u Q I r hw;obtain⟨a,xs,e1,hq,hl,hw⟩:=hw;subst e1;cases r;obtain⟨its,rv,ht,hz⟩:=I.tuple hq;refine assign_Tuple_tuple (I.ok.hd hc) ht (by simp[hn,←hl,rv.length]) hst fun h' hx=>?_
 have I1:Inv X pins σ H { s with heap:=h' }:=I.kept (t':=s.toks) fun b o e=>hx b o (Nat.ne_of_lt (Heap.lt_size e)) e;exact h pins _ σ H xs _ Q I1 (by simpa using rv) hw
noncomputable def gSub(to ti:TE)(t:T3):TG:=fun v σ H Q=>to σ H fun o H1=>ti σ H1 fun i H2=>t o i v H2 fun H3=>Q σ H3
theorem Ada{o i:Expr}{to ti:TE}{t:T3}(ho:PE X o to)(hi:PE X i ti)(hs:PSet X t)(ha:∀v,assign (.Subscript o i pos) X.env v=(do
   let ov ←holding [v] (eval o X.env)
   let iv ←holding [v,ov] (eval i X.env)
   standAt pos
   holding [v,ov,iv] (setItem ov iv v)
   release [v,ov,iv] []):=by intro _;rfl):PG X (.Subscript o i pos) (gSub to ti t):=by
 intro pins s σ H v u Q I r h;rw[ha];refine wpAny_bind (wpAny_holding (thn (ho pins s σ H _ I h) fun ov s1 zz=>?_));obtain⟨x,H1,I1,r1,q1⟩:=zz;refine wpAny_bind (wpAny_holding (thn (hi pins s1 σ H1 _ I1 q1) fun iv s2 zz=>?_));obtain⟨y,H2,I2,r2,q2⟩:=zz;refine wpAny_bind (wpAny_standAt (wpAny_bind (wpAny_holding (thn (hs pins s2 σ H2 x y v ov iv u _ I2 r1 r2 r q2) fun _ s3 zz=>?_))));obtain⟨H3,I3,q3⟩:=zz;exact wpAny_release ⟨σ,H3,I3,q3⟩
noncomputable def T1(te:TE)(g:TG):TS:=fun D σ H=>te σ H fun x H1=>g x σ H1 D.nx
theorem Ac7{tg e:Expr}{te:TE}{g:TG}(he:PE X e te)(hg:PG X tg g)(hs:swapsWithSole [tg] e pos.line X.env=pure false:=by rfl)(hw:swappedStores [tg] e X.env=pure none:=by rfl)(h1:(assignEach [tg] X.env).map (·.2)=[assign tg X.env]:=by rfl):PS X (.Assign [tg] e pos) (T1 te g):=by
 intro pins s σ H D I h;refine wpAny_Assign_stores (thn (he pins s σ H _ I h) fun v s1 ⟨x,H1,I1,r1,q1⟩=>?_) hs hw;rw[h1];exact thn (hg pins s1 σ H1 x v _ I1 r1 q1) fun _ s2 q=>q
theorem Ac2{i:Nat}{x:Str}{e:Expr}{te:TE}{pos':Pos}(hN:X.N.Nodup)(hi:X.N[i]? = some x)(hx:Loc X.env.scope x)(he:PE X e te)(hs:swapsWith e (some (.Name x pos')) pos.line X.env=pure false:=by rfl)(hf:X.fn x=true∨X.env.scope.names.lookup x=some .local:=by first|exact .inl rfl|exact .inr rfl|assumption) :
  PS X (.Assign [.Name x pos'] e pos) (T1 te (Qd i)):=by
 intro pins s σ H D I h;refine wpAny_Assign_Name (thn (he pins s σ H _ I h) fun v s1 ⟨y,H1,I1,r1,q1⟩=>?_) hs;exact Do I1 hN hi hx r1 (fun s2 I2=>⟨_,H1,I2,q1⟩) hf
noncomputable def tPar(i j:Nat)(ta:TA):TS:=fun D σ H=>ta σ H fun vs H1=>∃v w,vs=[v,w]∧D.nx ((σ.set i (some v)).set j (some w)) H1
theorem Ac4{i j:Nat}{x y:Str}{a b:Expr}{ta:TA}{px py pt:Pos}{kt k2 pt2}(hc:X.calm=true)(hN:X.N.Nodup)(hi:X.N[i]? = some x)(hj:X.N[j]? = some y)(hij:i≠j)(hx:X.env.scope.names.lookup x=some .local)(hy:X.env.scope.names.lookup y=some .local)(ha:PA X [a,b] ta)(hw:swappedStores [.Tuple [.Name x px,.Name y py] kt pt] (.Tuple [a,b] k2 pt2) X.env=pure (some [x,y]))(hs:swapsWithSole [.Tuple [.Name x px,.Name y py] kt pt] (.Tuple [a,b] k2 pt2) pos.line X.env=pure false:=by rfl) :
  PS X (.Assign [.Tuple [.Name x px,.Name y py] kt pt] (.Tuple [a,b] k2 pt2) pos) (tPar i j ta):=by
 intro pins s σ H D I h;rw[exec_Assign_arm];refine wpAny_bind (wpAny_standAt ?_);rw[hs];refine wpAny_bind (wpAny_pure ?_);rw[if_neg (by decide)]
 refine wpAny_bind (Tuple_ (thn (ha _ pins s σ H _ I h) fun us s1 zz=>?_));obtain⟨vs,H1,I1,r1,q1⟩:=zz;obtain⟨v,w,e1,q1⟩:=q1;subst e1;obtain⟨u1,u2,rfl,rv,rw'⟩:∃u1 u2,us=[u1,u2]∧RelV v u1∧RelV w u2:=by
  cases r1 with
  |cons p q=>
   cases q with
   |cons p' q'=>
    cases q';exact⟨_,_,rfl,p,p'⟩
 refine wpAny_newObj_type ?_ (by show 2≤sizeLine;decide)
 have I2:Inv X pins σ H1 { s1 with heap:=s1.heap.push { cls:=.type "tuple",data:=.seq [u1,u2].toArray } }:=I1.kept (t':=s1.toks) fun b o e=>Heap.get?_push_of_some _ e;rw[hw];refine wpAny_bind (wpAny_pure ?_);show wpAny (model X.prog X.w) X.A (do rule "assign.swapped-stores";let items ←unpackItems (.ref s1.heap.objs.size) 2 none;assignInOrder [fun v=>bindName X.env y v,fun v=>bindName X.env x v] items.reverse;pure Flow.next) _ _ _
 refine wpAny_bind (wpAny_rule (wpAny_bind (unpackItems_tuple (items:=#[u1,u2]) (I.ok.hd hc) (IsTup.new s1.heap _) fun h' hx'=>?_)));have I3:=I2.kept (h':=h') (t':=s1.toks) fun b o e=>hx' b o (Nat.ne_of_lt (Heap.lt_size e)) e;show wpAny _ _ (assignInOrder [fun v=>bindName X.env y v,fun v=>bindName X.env x v] [u2,u1] >>= fun _=>pure Flow.next) _ _ _;refine wpAny_bind (assignInOrder_cons (wpAny_bindName (Do I3 hN hj (.inl hy) rw' (fun s2 I4=>?_) (.inr hy))));refine assignInOrder_cons (wpAny_bindName (Do I4 hN hi (.inl hx) rv (fun s3 I5=>assignInOrder_nil (wpAny_pure ?_)) (.inr hx)));rw[List.set_comm _ _ (Ne.symm hij)] at I5;exact⟨_,H1,I5,q1⟩
noncomputable def tAug(i:Nat)(te:TE)(ti:TIp):TS:=fun D σ H=>∃x,σ[i]? = some (some x)∧te σ H fun y H1=>ti x y H1 fun z H2=>D.nx (σ.set i (some z)) H2
theorem Ac6{i:Nat}{x:Str}{e:Expr}{te:TE}{op:Operator}{ti:TIp}{pos':Pos}(hN:X.N.Nodup)(hi:X.N[i]? = some x)(hx:Loc X.env.scope x)(he:PE X e te)(ho:PIp X op ti)(hf:X.fn x=true∨X.env.scope.names.lookup x=some .local:=by first|exact .inl rfl|exact .inr rfl|assumption) :
  PS X (.AugAssign (.Name x pos') op e pos) (tAug i te ti):=by
 intro pins s σ H D I h;obtain⟨v,e1,h⟩:=h;obtain⟨m,hn,hl⟩:=I.loc;have vis:Vis X.env.scope x:=by rcases hx with k|k;exact .inl k;exact .inr (.inl k)
 obtain⟨u,r,l⟩:=hl i x v hi e1 vis;refine wpAny_AugAssign_Name ?_;have go:wpAny (model X.prog X.w) X.A (eval e X.env) (fun w s₂=>wpAny (model X.prog X.w) X.A (inplaceOp op u w) (fun r s₃=>wpAny (model X.prog X.w) X.A (storeName X.env x r) (fun _=>SP X pins D .next) X.xe s₃) X.xe s₂) X.xe s:=by
  refine thn (he pins s σ H _ I h) fun w s1 zz=>?_;obtain⟨y,H1,I1,r1,q1⟩:=zz;refine thn (ho pins s1 σ H1 v y u w _ I1 r r1 q1) fun z s2 zz=>?_;obtain⟨zv,H2,I2,r2,q2⟩:=zz;exact Do I2 hN hi hx r2 (fun s3 I3=>⟨_,H2,I3,q2⟩) hf
 rcases l with ⟨hk,hm⟩|⟨hk,c,hc,hcell⟩
 ·exact wpAny_loadName_local I.ok.kind hk hn hm go
 ·rcases hk with hk|hk
  ·exact wpAny_loadName_cell I.ok.kind hk hc hcell go
  ·rcases hx with k|k
   ·have:X.env.scope.names.lookup x=some .free:=hk
    rw[k] at this;cases this
   ·have:X.env.scope.names.lookup x=some .free:=hk
    rw[k] at this;cases this
noncomputable def ipI(f:Int→Int→Int):TIp:=fun x y H Q=>∃i j,x=.int i∧y=.int j∧Q (.int (f i j)) H
theorem Aed:PIp X .Sub (ipI fun i j=>i-j):=by
 intro pins s σ H x y v u Q I r1 r2 h;obtain⟨i,j,e1,e2,q⟩:=h;subst e1;subst e2;obtain⟨t,rfl⟩:=r1;obtain⟨t',rfl⟩:=r2;exact isub_int ⟨.int _,H,I.tok _,⟨_,rfl⟩,q⟩
noncomputable def Ab4(c:TT)(tb:TS):TS:=fun D σ H=>∃W:Nat→St→Hp→Prop,(∃m,W m σ H)∧∀m σ H,W m σ H→
 c σ H fun b H1=>if b=true then ∃N:St→Hp→Prop,(∀σ' H',N σ' H'→∃m',m'<m∧W m' σ' H')∧tb { D with nx:=N,ct:=N,bk:=D.nx } σ H1 else D.nx σ H1
theorem Vt{c:Expr}{body:List Stmt}{tc:TT}{tb:TS}(hp:PassesOwn (model X.prog X.w) X.A X.env X.xe)(hc:PT X c tc)(hb:PSs X body tb):PS X (.While c body [] pos) (Ab4 tc tb):=by
 intro pins s σ H D I h;obtain⟨W,⟨m0,w0⟩,turn⟩:=h;refine wpAny_While (codeAny_whileLoop (fun n s'=>∃σ' H',Inv X pins σ' H' s'∧W n σ' H') ?_ m0 ⟨σ,H,I,w0⟩);rintro n s1 ⟨σ1,H1,I1,w1⟩;refine wpAny_passesOwn hp (thn (hc pins s1 σ1 H1 _ I1 (turn n σ1 H1 w1)) fun b s2 zz=>?_);obtain⟨H2,I2,q2⟩:=zz;cases b with
 |true=>
  obtain⟨N,hN,q2⟩:=q2;rw[if_pos rfl];refine wpAny_passesOwn hp (thn (hb pins s2 σ1 H2 _ I2 q2) fun f s3 q3=>?_);cases f with
  |next=>
   obtain⟨σ3,H3,I3,n3⟩:=q3;obtain⟨m',hm,w3⟩:=hN σ3 H3 n3;exact⟨m',hm,σ3,H3,I3,w3⟩
  |cont=>
   obtain⟨σ3,H3,I3,n3⟩:=q3;obtain⟨m',hm,w3⟩:=hN σ3 H3 n3;exact⟨m',hm,σ3,H3,I3,w3⟩
  |brk=>exact q3
  |ret v=>exact q3
 |false=>
  rw[if_neg Bool.false_ne_true];exact wpAny_execs_nil ⟨σ1,H2,I2,q2⟩
end
structure It where
 go:Nat→Hp→Prop
 yld:Nat→Hp→V→Hp→Prop
 stop:Nat→Hp→Prop
noncomputable def Di(X:Cx)(pins:List (Addr×Obj))(H:Hp)(b:Addr):Prop:=
 H b=none∧b≠X.env.locals∧b ∉ X.fs∧(b∈X.ex∨X.s₀.heap.objs.size≤b)∧(∀x c,X.env.cells.lookup x=some c→c≠b)∧∀p∈X.pn++pins,p.1≠b
theorem Inv.fpOk{X:Cx}{pins:List (Addr×Obj)}{σ:St}{H H':Hp}{s:Shared}{b:Addr}(I:Inv X pins σ H s)(hb:s.heap.objs.size≤b)(hn:H' b=none):Di X pins H' b:=by
 refine⟨hn,Nat.ne_of_gt (Nat.lt_of_lt_of_le I.lt hb),I.nofs hb,.inr (Nat.le_trans I.sz hb),fun x c e z=>?_,fun p hp z=>?_⟩
 ·obtain⟨v,q⟩:=I.cell x c e;exact absurd (Nat.lt_of_lt_of_le q.lt (by rw[z];exact hb)) (Nat.lt_irrefl _)
 ·exact absurd (Nat.lt_of_lt_of_le (Heap.lt_size (I.pin p hp).1) (by rw[z];exact hb)) (Nat.lt_irrefl _)
structure Ki(P:Program)(w:World)(K:W.Frag)(tg:Expr)(J:It)(fp:List Addr)(it:Addr)(tn:Nat→Heap→Prop):Prop where
 mem:it∈fp
 obj:∀i h,tn i h→∀b∈fp,∃o,h.get? b=some o∧∀v,o.data≠.cell v
 keep:∀i h h',tn i h→(∀b∈fp,∀o,h.get? b=some o→h'.get? b=some o)→tn i h'
 item:∀(X:Cx),X.prog=P→X.w=w→X.K=K→X.calm=true→∀(i:Nat) (pins:List (Addr×Obj)) (s:Shared) (σ:St) (H:Hp) (E:Value→Shared→Prop),Inv X pins σ H s→(∀b∈fp,Di X pins H b)→tn i s.heap→J.go i H→
  wpAny (model P w) X.A (pyNext (.ref it)) (fun r s1=>∃u,r=some u∧
   wpAny (model P w) X.A (letOwnedTupleGo tg (.ref it) u) (fun _ s2=>∃x H',Inv X pins σ H' s2∧RelV x u∧J.yld i H x H'∧tn (i+1) s2.heap∧∀b∈fp,H' b=none) E s1) E s
 done:∀(X:Cx),X.prog=P→X.w=w→X.K=K→X.calm=true→∀(i:Nat) (pins:List (Addr×Obj)) (s:Shared) (σ:St) (H:Hp) (E:Value→Shared→Prop),Inv X pins σ H s→(∀b∈fp,Di X pins H b)→tn i s.heap→J.stop i H→
  wpAny (model P w) X.A (pyNext (.ref it)) (fun r s1=>r=none∧Inv X pins σ H s1) E s
 self:∀(A:Around) (i:Nat) (s:Shared) (Q:Value→Shared→Prop) (E:Value→Shared→Prop),tn i s.heap→Q (.ref it) s→wpAny (model P w) A (pyIter (.ref it)) Q E s
noncomputable abbrev TI:=St→Hp→(It→Hp→Prop)→Prop
noncomputable def PIE(X:Cx)(pins:List (Addr×Obj))(σ:St)(tg:Expr)(R:It→Hp→Prop)(itv:Value)(s2:Shared):Prop:=
 ∃(it:Addr) (fp:List Addr) (tn:Nat→Heap→Prop) (J:It) (H':Hp),itv=.ref it∧Inv X pins σ H' s2∧Ki X.prog X.w X.K tg J fp it tn∧tn 0 s2.heap∧(∀b∈fp,Di X pins H' b)∧R J H'
noncomputable def PI(X:Cx)(tg iter:Expr)(wi:TI):Prop:=
 ∀(pins:List (Addr×Obj)) (s:Shared) (σ:St) (H:Hp) (R:It→Hp→Prop),Inv X pins σ H s→wi σ H R→
  wpAny (model X.prog X.w) X.A (eval iter X.env) (fun v s1=>wpAny (model X.prog X.w) X.A (pyIter v) (PIE X pins σ tg R) X.xe s1) X.xe s

theorem Ub {M:Model} {A:Around} {E:Value→Shared→Prop} {s:Shared} {tg:Expr} {it:Addr} {u:Value} {o:Obj} {n:String} {vs:Array Value} {Q:Unit→Shared→Prop} (ho:s.heap.get? it=some o) (hc:o.cls=.type n) (hd:o.data=.fields vs)
    (hn:["enumerate", "zip", "dict_itemiterator", "dict_reverseitemiterator", "odict_iterator", "itertools.zip_longest", "itertools.pairwise"].contains n=false) (hQ:Q () s):wpAny M A (letOwnedTupleGo tg (.ref it) u) Q E s:=by
  unfold letOwnedTupleGo;cases tg<;>first
    | exact wpAny_pure hQ
    | (cases u<;>first
        | exact wpAny_pure hQ
        | (refine wpAny_bind (wpAny_load ho ?_)
           rw [hc,hd];show wpAny M A (if (["enumerate", "zip", "dict_itemiterator", "dict_reverseitemiterator", "odict_iterator", "itertools.zip_longest", "itertools.pairwise"].contains n&&vs[0]? == some (rawInt _))=true then _ else _) Q E s;rw [if_neg (by intro h;rw [hn,Bool.false_and] at h;cases h)]
           exact wpAny_pure hQ))

noncomputable def Itl(K:W.Frag)(a:Addr):It:=
 ⟨fun i H=>∃xs x,SqL K H a xs∧xs[i]? = some x,fun i H x H'=>H'=H∧∀xs,SqL K H a xs→xs[i]? = some x,fun i H=>∃xs,SqL K H a xs∧xs.length≤i⟩
noncomputable def Itt(K:W.Frag)(a:Addr):It:=
 ⟨fun i H=>∃xs x,SqT K H a xs∧xs[i]? = some x,fun i H x H'=>H'=H∧∀xs,SqT K H a xs→xs[i]? = some x,fun i H=>∃xs,SqT K H a xs∧xs.length≤i⟩
noncomputable def Itr(lo:Int)(n:Nat):It:=⟨fun i _=>i<n,fun i H x H'=>H'=H∧x=.int (lo+i),fun i _=>n≤i⟩
theorem Rp{P:Program}{w:World}{K:W.Frag}{tg:Expr}(a it:Addr):Ki P w K tg (Itl K a) [it] it (fun i h=>h.IsListIter it a i) where
 mem:=by simp
 obj:=fun i h st b hb=>by
  have e:b=it:=by simpa using hb
  subst e;obtain⟨o,e,c,d⟩:=st;exact⟨o,e,fun v z=>by rw[d] at z;cases z⟩
 keep:=fun i h h' st k=>st.at fun o e=>k it (by simp) o e
 item:=by
  intro X hP hw hK hc i pins s σ H E I hf st hg;subst hP hw hK;obtain⟨xs,x,hq,hx⟩:=hg;obtain⟨its,rv,p,hz⟩:=I.list hq;obtain⟨u,hu,ru⟩:=rv.get hx;obtain⟨f0,f1,f2,f3,f4,f5⟩:=hf it (by simp)
  refine wpAny_pyNext_list_item st p.isList (x:=u) (by simpa using hu) fun h' st' sb=>?_
  have I1:Inv X pins σ H { s with heap:=h' }:=I.turned (t':=s.toks) (fun b o hb e=>(sb.2 b hb).trans e) f0 f1 f3 f4 f5;obtain⟨o,e,c,d⟩:=id st';exact⟨u,rfl,Ub (s:={ s with heap:=h' }) e c d (by decide) ⟨x,H,I1,ru,⟨rfl,fun ys hy=>by rw[I.list_inj hy hq];exact hx⟩,st',fun b hb=>(hf b hb).1⟩⟩
 done:=by
  intro X hP hw hK hc i pins s σ H E I hf st hg;subst hP hw hK;obtain⟨xs,hq,hx⟩:=hg;obtain⟨its,rv,p,hz⟩:=I.list hq;obtain⟨f0,f1,f2,f3,f4,f5⟩:=hf it (by simp)
  have hl:=rv.length;exact wpAny_pyNext_list_end (I.ok.hd hc) st p.isList (by simp;omega) fun h' eb=>⟨rfl,I.turned (t':=s.toks) (fun b o hb e=>eb b o hb e) f0 f1 f3 f4 f5⟩
 self:=fun _ _ _ _ _ st h=>wpAny_pyIter_listiter st h
theorem O0{P:Program}{w:World}{K:W.Frag}{tg:Expr}(a it:Addr):Ki P w K tg (Itt K a) [it] it (fun i h=>h.IsTupleIter it a i) where
 mem:=by simp
 obj:=fun i h st b hb=>by
  have e:b=it:=by simpa using hb
  subst e;obtain⟨o,e,c,d⟩:=st;exact⟨o,e,fun v z=>by rw[d] at z;cases z⟩
 keep:=fun i h h' st k=>st.at fun o e=>k it (by simp) o e
 item:=by
  intro X hP hw hK hc i pins s σ H E I hf st hg;subst hP hw hK;obtain⟨xs,x,hq,hx⟩:=hg;obtain⟨its,rv,p,hz⟩:=I.tuple hq;obtain⟨u,hu,ru⟩:=rv.get hx;obtain⟨f0,f1,f2,f3,f4,f5⟩:=hf it (by simp)
  refine wpAny_pyNext_tuple_item st (show s.heap.IsTuple a its.toArray from p) (x:=u) (by simpa using hu) fun h' st' sb=>?_
  have I1:Inv X pins σ H { s with heap:=h' }:=I.turned (t':=s.toks) (fun b o hb e=>(sb.2 b hb).trans e) f0 f1 f3 f4 f5;obtain⟨o,e,c,d⟩:=id st';exact⟨u,rfl,Ub (s:={ s with heap:=h' }) e c d (by decide) ⟨x,H,I1,ru,⟨rfl,fun ys hy=>by rw[I.tuple_inj hy hq];exact hx⟩,st',fun b hb=>(hf b hb).1⟩⟩
 done:=by
  intro X hP hw hK hc i pins s σ H E I hf st hg;subst hP hw hK;obtain⟨xs,hq,hx⟩:=hg;obtain⟨its,rv,p,hz⟩:=I.tuple hq;obtain⟨f0,f1,f2,f3,f4,f5⟩:=hf it (by simp)
  have hl:=rv.length;exact wpAny_pyNext_tuple_end (I.ok.hd hc) st (show s.heap.IsTuple a its.toArray from p) (by simp;omega) fun h' eb=>⟨rfl,I.turned (t':=s.toks) (fun b o hb e=>eb b o hb e) f0 f1 f3 f4 f5⟩
 self:=fun _ _ _ _ _ st h=>wpAny_pyIter_tupleiter st h
theorem O1{P:Program}{w:World}{K:W.Frag}{tg:Expr}(it:Addr)(lo:Int)(n:Nat):Ki P w K tg (Itr lo n) [it] it (fun i h=>IsRangeIter h it (lo+(i:Nat)*1) ((n:Int)-(i:Nat)) 1) where
 mem:=by simp
 obj:=fun i h st b hb=>by
  have e:b=it:=by simpa using hb
  subst e;exact⟨_,st,fun v z=>by
   have z':Data.fields _=Data.cell v:=z;cases z'⟩
 keep:=fun i h h' st k=>k it (by simp) _ st
 item:=by
  intro X hP hw hK hc i pins s σ H E I hf st hg;subst hP hw hK;obtain⟨f0,f1,f2,f3,f4,f5⟩:=hf it (by simp)
  have W:=Walks.range (prog:=X.prog) (w:=X.w) (I.ok.hd hc) it lo 1 n;refine W.item i s _ _ hg st fun v h' tk hv st' kk=>?_;obtain⟨t,rfl⟩:=hv;have I1:Inv X pins σ H { s with heap:=h',toks:=tk }:=I.turned (fun b o hb e=>kk b o (by simpa using hb) e) f0 f1 f3 f4 f5
  refine⟨_,rfl,Ub (s:={ s with heap:=h',toks:=tk }) (n:="range_iterator") st' rfl rfl (by decide) ⟨.int (lo+i),H,I1,⟨t,?_⟩,⟨rfl,rfl⟩,st',fun b hb=>(hf b hb).1⟩⟩
  rw[Int.mul_one]
 done:=by
  intro X hP hw hK hc i pins s σ H E I hf st hg;subst hP hw hK;obtain⟨f0,f1,f2,f3,f4,f5⟩:=hf it (by simp)
  exact wpAny_pyNext_range_end (I.ok.hd hc) st (by have:n≤i:=hg;omega) fun h' eb=>⟨rfl,I.turned (t':=s.toks) (fun b o hb e=>eb b o hb e) f0 f1 f3 f4 f5⟩
 self:=fun _ _ _ _ _ st h=>wpAny_pyIter_rangeiter st h
end L2
namespace L2
open PySem PySem.Spec PyProof.Rows
section
variable{X:Cx}{tg:Expr}
theorem Vh{pins:List (Addr×Obj)}{σ:St}{H:Hp}{s:Shared}{R:It→Hp→Prop}{E:Value→Shared→Prop}{lo hi:Int}{t u v:Tok}{tk:Nat}(I:Inv X pins σ H s)(h1 : -(2 ^ 62)≤lo)(h2:lo<2 ^ 62)(h3 : -(2 ^ 62)≤hi)(h4:hi<2 ^ 62)(q:R (Itr lo (hi-lo).toNat) H):wpAny (model X.prog X.w) X.A (pyIter (.ref s.heap.objs.size)) (PIE X pins σ tg R) E { s with heap:=s.heap.push { cls:=.type "range",data:=.fields #[.int lo t,.int hi u,.int 1 v] },toks:=tk }:=by
 refine wpAny_pyIter_range (IsRange.new ..) (small_one h1 h2 h3 h4) ?_;have I1:Inv X pins σ H { s with heap:=s.heap.push { cls:=.type "range",data:=.fields #[.int lo t,.int hi u,.int 1 v] },toks:=tk }:=I.kept fun b o e=>Heap.get?_push_of_some _ e;refine⟨(s.heap.push { cls:=.type "range",data:=.fields #[.int lo t,.int hi u,.int 1 v] }).objs.size,[(s.heap.push { cls:=.type "range",data:=.fields #[.int lo t,.int hi u,.int 1 v] }).objs.size],_,_,H,rfl,
  I1.kept (t':=tk) fun b o e=>Heap.get?_push_of_some _ e,O1 _ lo (hi-lo).toNat,?_,fun b hb=>?_,q⟩
 ·have e1:lo+((0:Nat):Int)*1=lo:=by simp
  have e2:(((hi-lo).toNat:Nat):Int)-((0:Nat):Int)=Builtin.Range.rangeSize lo hi 1:=by rw[rangeSize_one];split<;>omega
  show IsRangeIter _ _ (lo+((0:Nat):Int)*1) ((((hi-lo).toNat:Nat):Int)-((0:Nat):Int)) 1;rw[e1,e2];exact Heap.get?_push_size _ rfl
 ·have e:b=(s.heap.push { cls:=.type "range",data:=.fields #[.int lo t,.int hi u,.int 1 v] }).objs.size:=by simpa using hb
  subst e;exact I1.fpOk (Nat.le_refl _) (I1.hok.fresh (Nat.le_refl _))
noncomputable def iRng1(ta:TA):TI:=fun σ H R=>ta σ H fun vs H1=>∃j:Int,vs=[.int j]∧-(2 ^ 62)≤j∧j<2 ^ 62∧R (Itr 0 j.toNat) H1
theorem Jl{a:Expr}{ta:TA}{p pos:Pos}(hg:Gl X "range")(hm:X.mg "range" = none)(ha:PA X [a] ta)(hs:starEach [a] X.env=[(false,eval a X.env)]:=by rfl):PI X tg (.Call (.Name "range" p) [a] [] pos) (iRng1 ta):=by
 intro pins s σ H R I h;refine Call_ (Ha I hg hm boot_range (PyProof.Rows.callWith_type1 (thn (ha pos pins s σ H _ I h) fun us s1 ⟨vs,H1,I1,r1,q1⟩=>?_) hs rfl));obtain⟨j,e,q1,q2,q⟩:=q1;subst e;cases r1 with
 |cons r rr=>
  cases rr;obtain⟨t,rfl⟩:=r;exact call_range_1 (Vh I1 (by omega) (by omega) q1 q2 (by simpa using q))
noncomputable def tFor(wi:TI)(g:TG)(tb:TS):TS:=fun D σ H=>wi σ H fun J H1=>∃W:Nat→Nat→St→Hp→Prop,(∃m,W 0 m σ H1)∧∀i m σ H,W i m σ H→
 (J.stop i H∧D.nx σ H)∨(J.go i H∧∃N:St→Hp→Prop,(∀σ' H',N σ' H'→∃m',m'<m∧W (i+1) m' σ' H')∧∀x H',J.yld i H x H'→g x σ H' fun σ2 H2=>tb { D with nx:=N,ct:=N,bk:=D.nx } σ2 H2)
noncomputable def Cu(fp:List Addr)(h:Heap):List (Addr×Obj):=fp.filterMap fun b=>(h.get? b).map fun o=>(b,o)
theorem Bk{fp:List Addr}{h:Heap}{b:Addr}{o:Obj}(hb:b∈fp)(e:h.get? b=some o):(b,o)∈Cu fp h:=List.mem_filterMap.mpr ⟨b,hb,by rw[e];rfl⟩
theorem Sx{fp:List Addr}{h:Heap}{p:Addr×Obj}(hp:p∈Cu fp h):p.1∈fp∧h.get? p.1=some p.2:=by
 obtain⟨b,hb,e⟩:=List.mem_filterMap.mp hp;cases q:h.get? b with
 |none=>rw[q] at e;cases e
 |some o=>
  rw[q] at e;have e':(b,o)=p:=Option.some.inj e;subst e';exact⟨hb,q⟩
theorem Inv.pinned{pins:List (Addr×Obj)}{σ:St}{H:Hp}{s:Shared}{fp:List Addr}(I:Inv X pins σ H s)(hf:∀b∈fp,Di X pins H b)(ho:∀b∈fp,∃o,s.heap.get? b=some o∧∀v,o.data≠.cell v):Inv X (pins++Cu fp s.heap) σ H s:=
 I.pins_of fun p hp=>(List.mem_append.mp hp).elim (fun z=>I.pin p (List.mem_append_right _ z)) fun z=>by
  obtain⟨hb,e⟩:=Sx z;obtain⟨f0,f1,f2,_⟩:=hf p.1 hb;obtain⟨o,e',d⟩:=ho p.1 hb;rw[e] at e';cases e';exact⟨e,f0,f1,f2,d⟩
theorem Inv.unpinned{pins pl:List (Addr×Obj)}{σ:St}{H:Hp}{s:Shared}(I:Inv X (pins++pl) σ H s):Inv X pins σ H s:=I.pins_of fun p hp=>I.pin p (List.mem_append_right _ (List.mem_append_left _ hp))
theorem Uq{iter:Expr}{body:List Stmt}{wi:TI}{g:TG}{tb:TS}{pos:Pos}(hp:PassesOwn (model X.prog X.w) X.A X.env X.xe)(hc:X.calm=true)(hi:PI X tg iter wi)(hg:PG X tg g)(hb:PSs X body tb)(hs:∀x,foldedSetIterable iter X.env x=pure x:=by intro _;rfl):PS X (.For tg iter body [] pos) (tFor wi g tb):=by
 intro pins s σ H D I h;refine wpAny_For (thn (hi pins s σ H _ I h) fun v s1 h1=>thn h1 fun itv s2 h2=>?_) hs;obtain⟨it,fp,tn,J,H2,e,I2,T,st2,f2,W,⟨m0,w0⟩,turn⟩:=h2;subst e
 -- what stays true of the iterator's objects through the loop
 have stat:∀{H':Hp},(∀b∈fp,H' b=none)→∀b∈fp,Di X pins H' b:=fun hn b hb=>⟨hn b hb,(f2 b hb).2⟩;refine codeAny_forLoop_any (fun n s'=>∃i σ' H',Inv X pins σ' H' s'∧tn i s'.heap∧(∀b∈fp,H' b=none)∧W i n σ' H') ?_ m0 ⟨0,σ,H2,I2,st2,fun b hb=>(f2 b hb).1,w0⟩;rintro n s3 ⟨i,σ3,H3,I3,st3,fr3,w3⟩;rcases turn i n σ3 H3 w3 with ⟨stop,qn⟩|⟨go,N,hN,step⟩
 ·refine wpAny_passesOwn hp (thn (T.done X rfl rfl rfl hc i pins s3 σ3 H3 X.xe I3 (stat fr3) st3 stop) fun r s4 zz=>?_);obtain⟨hr,I4⟩:=zz;subst hr;exact wpAny_execs_nil ⟨σ3,H3,I4,qn⟩
 ·refine wpAny_passesOwn hp (thn (T.item X rfl rfl rfl hc i pins s3 σ3 H3 X.xe I3 (stat fr3) st3 go) fun r s4 zz=>?_);obtain⟨u,hr,h4⟩:=zz;subst hr;refine wpAny_passesOwn hp (thn h4 fun _ s5 zz=>?_);obtain⟨x,H5,I5,r5,y5,st5,fr5⟩:=zz;have I5':=I5.pinned (stat fr5) (T.obj _ _ st5);refine wpAny_passesOwn hp (thn (hg _ s5 σ3 H5 x u _ I5' r5 (step x H5 y5)) fun _ s6 zz=>?_);obtain⟨σ6,H6,I6,q6⟩:=zz;refine wpAny_passesOwn hp (thn (hb _ s6 σ6 H6 _ I6 q6) fun f s7 q7=>?_);have again:∀{σ7:St} {H7:Hp},Inv X (pins++Cu fp s5.heap) σ7 H7 s7→N σ7 H7→∃m,m<n∧∃i σ' H',Inv X pins σ' H' s7∧tn i s7.heap∧(∀b∈fp,H' b=none)∧W i m σ' H':=fun {σ7 H7} I7 n7=>by
   obtain⟨m',hm,w7⟩:=hN σ7 H7 n7;refine⟨m',hm,i+1,σ7,H7,I7.unpinned,T.keep _ _ _ st5 fun b hb o e=>(I7.pin (b,o) (List.mem_append_right _ (List.mem_append_right _ (Bk hb e)))).1,fun b hb=>?_,w7⟩;obtain⟨o,e,d⟩:=T.obj _ _ st5 b hb;exact(I7.pin (b,o) (List.mem_append_right _ (List.mem_append_right _ (Bk hb e)))).2.1
  cases f with
  |next=>obtain⟨σ7,H7,I7,n7⟩:=q7;exact again I7 n7
  |cont=>obtain⟨σ7,H7,I7,n7⟩:=q7;exact again I7 n7
  |brk=>obtain⟨σ7,H7,I7,q7⟩:=q7;exact⟨σ7,H7,I7.unpinned,q7⟩
  |ret v=>obtain⟨x7,σ7,H7,I7,r7,q7⟩:=q7;exact⟨x7,σ7,H7,I7.unpinned,r7,q7⟩
end
end L2
namespace L2
open PySem PySem.Spec PyProof.Rows
noncomputable abbrev R2:=V→V→Hp→VK→Prop
noncomputable def OpR(X:Cx)(f:Value→Value→Sem Value)(r:R2):Prop:=
 ∀(pins:List (Addr×Obj)) (s:Shared) (σ:St) (H:Hp) (x y:V) (v u:Value) (Q:VK),Inv X pins σ H s→RelV x v→RelV y u→r x y H Q→
  wpAny (model X.prog X.w) X.A (f v u) (EP X pins σ Q) X.xe s
noncomputable def CallR(X:Cx)(f:Value)(r:List V→Hp→VK→Prop):Prop:=
 ∀(pins:List (Addr×Obj)) (s:Shared) (σ:St) (H:Hp) (xs:List V) (us:List Value) (Q:VK),Inv X pins σ H s→Vals xs us→r xs H Q→
  wpAny (model X.prog X.w) X.A (call f us) (EP X pins σ Q) X.xe s
noncomputable def TruR(X:Cx)(r:V→Hp→(Bool→Hp→Prop)→Prop):Prop:=
 ∀(pins:List (Addr×Obj)) (s:Shared) (σ:St) (H:Hp) (x:V) (v:Value) (Q:Bool→Hp→Prop),Inv X pins σ H s→RelV x v→r x H Q→
  wpAny (model X.prog X.w) X.A (truthy v) (TP X pins σ Q) X.xe s

noncomputable def tOp(r:R2)(ta tb:TE):TE:=fun σ H Q=>ta σ H fun x H1=>tb σ H1 fun y H2=>r x y H2 Q
noncomputable def rI(C:Int→Int→Prop)(g:Int→Int→V):R2:=fun x y H Q=>∃i j,x=.int i∧y=.int j∧C i j∧Q (g i j) H
noncomputable def rI0(g:Int→Int→V):R2:=fun x y H Q=>∃i j,x=.int i∧y=.int j∧Q (g i j) H
section
variable{X:Cx}{a b c:Expr}{ta tb tc:TE}{pos:Pos}
theorem binT(ha:PE X a ta)(hb:PE X b tb){pins:List (Addr×Obj)}{s:Shared}{σ:St}{H:Hp}{R:V→V→Hp→Prop}(I:Inv X pins σ H s)(h:ta σ H fun x H1=>tb σ H1 fun y H2=>R x y H2){Q:Value→Shared→Prop}{f:Value→Value→Sem Value}(hf:∀v u s2 x y H2,Inv X pins σ H2 s2→RelV x v→RelV y u→R x y H2→wpAny (model X.prog X.w) X.A (f v u) Q X.xe s2) :
  wpAny (model X.prog X.w) X.A (eval a X.env) (fun v s₁=>wpAny (model X.prog X.w) X.A (eval b X.env) (fun u s₂=>wpAny (model X.prog X.w) X.A (f v u) Q X.xe s₂) X.xe s₁) X.xe s:=by
 refine thn (ha pins s σ H _ I h) fun v s1 zz=>?_;obtain⟨x,H1,I1,r1,q1⟩:=zz;refine thn (hb pins s1 σ H1 _ I1 q1) fun u s2 zz=>?_;obtain⟨y,H2,I2,r2,q2⟩:=zz;exact hf v u s2 x y H2 I2 r1 r2 q2

theorem pe_op{op:Operator}{r:R2}(ho:OpR X (binaryOp op) r)(ha:PE X a ta)(hb:PE X b tb):PE X (.BinOp a op b pos) (tOp r ta tb):=by
 intro pins s σ H Q I h;exact wpAny_BinOp (binT ha hb I h fun v u s2 x y H2 I2 rx ry q=>ho pins s2 σ H2 x y v u Q I2 rx ry q)
theorem opI{f:Value→Value→Sem Value}{C:Int→Int→Prop}{g:Int→Int→Int}(rule:∀(i j:Int) (t u:Tok) (s:Shared) (Q:Value→Shared→Prop) (E:Value→Shared→Prop),C i j→Q (.int (g i j) s.toks) { s with toks:=s.toks+1 }→wpAny (model X.prog X.w) X.A (f (.int i t) (.int j u)) Q E s) :
  OpR X f (rI C fun i j=>.int (g i j)):=by
 intro pins s σ H x y v u Q I rx ry h;obtain⟨i,j,rfl,rfl,hc,q⟩:=h;obtain⟨t,rfl⟩:=rx;obtain⟨t',rfl⟩:=ry;exact rule i j t t' s _ _ hc ⟨.int (g i j),H,I.tok _,⟨_,rfl⟩,q⟩
theorem opI0{f:Value→Value→Sem Value}{g:Int→Int→Int}(rule:∀(i j:Int) (t u:Tok) (s:Shared) (Q:Value→Shared→Prop) (E:Value→Shared→Prop),Q (.int (g i j) s.toks) { s with toks:=s.toks+1 }→wpAny (model X.prog X.w) X.A (f (.int i t) (.int j u)) Q E s) :
  OpR X f (rI0 fun i j=>.int (g i j)):=by
 intro pins s σ H x y v u Q I rx ry h;obtain⟨i,j,rfl,rfl,q⟩:=h;obtain⟨t,rfl⟩:=rx;obtain⟨t',rfl⟩:=ry;exact rule i j t t' s _ _ ⟨.int (g i j),H,I.tok _,⟨_,rfl⟩,q⟩
theorem opB0{f:Value→Value→Sem Value}{g:Int→Int→Bool}(rule:∀(i j:Int) (t u:Tok) (s:Shared) (Q:Value→Shared→Prop) (E:Value→Shared→Prop),Q (.bool (g i j)) s→wpAny (model X.prog X.w) X.A (f (.int i t) (.int j u)) Q E s) :
  OpR X f (rI0 fun i j=>.bl (g i j)):=by
 intro pins s σ H x y v u Q I rx ry h;obtain⟨i,j,rfl,rfl,q⟩:=h;obtain⟨t,rfl⟩:=rx;obtain⟨t',rfl⟩:=ry;exact rule i j t t' s _ _ ⟨.bl (g i j),H,I,rfl,q⟩

noncomputable def T4(i j:Int):Prop:=0<j∧j<1073741824
noncomputable def CMul(i j:Int):Prop:=(-(2 ^ 64)<i∧i<2 ^ 64)∨(-(2 ^ 64)<j∧j<2 ^ 64)
theorem CMul.ok{i j:Int}(h:CMul i j):IntMulOk i j:=by
 rcases h with ⟨h1,h2⟩|⟨h1,h2⟩
 ·exact .of_left (intBits_le_64 h1 h2)
 ·exact .of_right (intBits_le_64 h1 h2)
theorem Adt:OpR X (binaryOp .Add) (rI0 fun i j=>.int (i+j)):=opI0 fun _ _ _ _ _ _ _ q=>add_int q
theorem Ado:OpR X (binaryOp .Sub) (rI0 fun i j=>.int (i-j)):=opI0 fun _ _ _ _ _ _ _ q=>sub_int q
theorem Adp:OpR X (binaryOp .Mult) (rI CMul fun i j=>.int (i*j)):=opI fun _ _ _ _ _ _ _ hc q=>mul_int q hc.ok
theorem Yz:OpR X (binaryOp .FloorDiv) (rI T4 fun i j=>.int (i / j)):=opI fun i j _ _ _ _ _ hc q=>by
 have h1:(0:Int)<j:=hc.1;have h2:j<1073741824:=hc.2;exact floordiv_int (by omega) (by rw[Int.fdiv_eq_ediv_of_nonneg i (by omega)];exact q) (.inl (PyProof.noPylong_small (by omega)))
theorem Adq:OpR X (binaryOp .Mod) (rI (fun _ j=>0<j) fun i j=>.int (i % j)):=opI fun i j _ _ _ _ _ hc q=>by
 have h1:(0:Int)<j:=hc;exact mod_int' (by omega) (by rw[Int.fmod_eq_emod_of_nonneg i (by omega)];exact q)
end
noncomputable def scal:V→V→Bool
 |.non,.non=>true|.non,.int _=>true|.int _,.non=>true|.non,.bl _=>true|.bl _,.non=>true|.non,.str _=>true|.str _,.non=>true
 |.int _,.int _=>true|.bl _,.bl _=>true|.str _,.str _=>true|.byt _,.byt _=>true
 |.int _,.str _=>true|.str _,.int _=>true|.bl _,.str _=>true|.str _,.bl _=>true
 |_,_=>false
noncomputable def rEq:R2:=fun x y H Q=>scal x y=true∧Q (.bl (decide (x=y))) H
noncomputable def rNe:R2:=fun x y H Q=>scal x y=true∧Q (.bl (!decide (x=y))) H

theorem Rf{i j:Int}:decide (V.int i=V.int j)=(i == j):=by
 rw[Bool.eq_iff_iff];simp
theorem U0{i j:Bool}:decide (V.bl i=V.bl j)=(i == j):=by
 rw[Bool.eq_iff_iff];simp
theorem Re{i j:Str}:decide (V.str i=V.str j)=(i == j):=by
 rw[Bool.eq_iff_iff];simp
theorem Rg{i j:Array UInt8}:decide (V.byt i=V.byt j)=(i.toList == j.toList):=by
 rw[Bool.eq_iff_iff];cases i;cases j;simp

section
variable{X:Cx}{a b c:Expr}{ta tb tc:TE}{pos:Pos}
theorem Ap{pins:List (Addr×Obj)}{σ:St}{H:Hp}{s:Shared}{Q:VK}{k k':Bool}(I:Inv X pins σ H s)(q:Q (.bl k) H)(e:k=k'):EP X pins σ Q (.bool k') s:=by
 subst e;exact⟨.bl k,H,I,rfl,q⟩
theorem op_eq:OpR X (compareOp .Eq) rEq:=by
 intro pins s σ H x y v u Q I rx ry h;obtain⟨hs,q⟩:=h;cases x with
 |non=>
  cases rx;cases y with
  |non=>cases ry;exact PySem.EqNone.eq_none_none (Ap I q (by simp))
  |bl j=>cases ry;exact PySem.EqNone.eq_none_bool (Ap I q (by simp))
  |int j=>obtain⟨t',rfl⟩:=ry;exact PySem.EqNone.eq_none_int (Ap I q (by simp))
  |str j=>obtain⟨t',rfl⟩:=ry;exact PySem.EqNone.eq_none_str (Ap I q (by simp))
  |_=>exact absurd (show false=true from hs) Bool.false_ne_true
 |bl i=>
  cases rx;cases y with
  |non=>cases ry;exact PySem.EqNone.eq_bool_none (Ap I q (by simp))
  |bl j=>cases ry;exact eq_bool (Ap I q U0)
  |str j=>obtain⟨t',rfl⟩:=ry;exact PySem.EqMixed.eq_bool_str (Ap I q (by simp))
  |_=>exact absurd (show false=true from hs) Bool.false_ne_true
 |int i=>
  obtain⟨t,rfl⟩:=rx;cases y with
  |non=>cases ry;exact PySem.EqNone.eq_int_none (Ap I q (by simp))
  |int j=>obtain⟨t',rfl⟩:=ry;exact eq_int (Ap I q Rf)
  |str j=>obtain⟨t',rfl⟩:=ry;exact PySem.EqMixed.eq_int_str (Ap I q (by simp))
  |_=>exact absurd (show false=true from hs) Bool.false_ne_true
 |str i=>
  obtain⟨t,rfl⟩:=rx;cases y with
  |non=>cases ry;exact PySem.EqNone.eq_str_none (Ap I q (by simp))
  |bl j=>cases ry;exact PySem.EqMixed.eq_str_bool (Ap I q (by simp))
  |int j=>obtain⟨t',rfl⟩:=ry;exact PySem.EqMixed.eq_str_int (Ap I q (by simp))
  |str j=>obtain⟨t',rfl⟩:=ry;exact eq_str (Ap I q Re)
  |_=>exact absurd (show false=true from hs) Bool.false_ne_true
 |byt i=>
  obtain⟨t,rfl⟩:=rx;cases y with
  |byt j=>obtain⟨t',rfl⟩:=ry;exact W.eq_bytes (Ap I q Rg)
  |_=>exact absurd (show false=true from hs) Bool.false_ne_true
 |_=>cases y<;>exact absurd (show false=true from hs) Bool.false_ne_true
theorem op_ne:OpR X (compareOp .NotEq) rNe:=by
 intro pins s σ H x y v u Q I rx ry h;obtain⟨hs,q⟩:=h;cases x with
 |non=>
  cases rx;cases y with
  |non=>cases ry;exact PySem.EqNone.ne_none_none (Ap I q (by simp))
  |bl j=>cases ry;exact PySem.EqNone.ne_none_bool (Ap I q (by simp))
  |int j=>obtain⟨t',rfl⟩:=ry;exact PySem.EqNone.ne_none_int (Ap I q (by simp))
  |str j=>obtain⟨t',rfl⟩:=ry;exact PySem.EqNone.ne_none_str (Ap I q (by simp))
  |_=>exact absurd (show false=true from hs) Bool.false_ne_true
 |bl i=>
  cases rx;cases y with
  |non=>cases ry;exact PySem.EqNone.ne_bool_none (Ap I q (by simp))
  |bl j=>cases ry;exact ne_bool (Ap I q (congrArg not U0))
  |str j=>obtain⟨t',rfl⟩:=ry;exact PySem.EqMixed.ne_bool_str (Ap I q (by simp))
  |_=>exact absurd (show false=true from hs) Bool.false_ne_true
 |int i=>
  obtain⟨t,rfl⟩:=rx;cases y with
  |non=>cases ry;exact PySem.EqNone.ne_int_none (Ap I q (by simp))
  |int j=>obtain⟨t',rfl⟩:=ry;exact ne_int (Ap I q (congrArg not Rf))
  |str j=>obtain⟨t',rfl⟩:=ry;exact PySem.EqMixed.ne_int_str (Ap I q (by simp))
  |_=>exact absurd (show false=true from hs) Bool.false_ne_true
 |str i=>
  obtain⟨t,rfl⟩:=rx;cases y with
  |non=>cases ry;exact PySem.EqNone.ne_str_none (Ap I q (by simp))
  |bl j=>cases ry;exact PySem.EqMixed.ne_str_bool (Ap I q (by simp))
  |int j=>obtain⟨t',rfl⟩:=ry;exact PySem.EqMixed.ne_str_int (Ap I q (by simp))
  |str j=>obtain⟨t',rfl⟩:=ry;exact ne_str (Ap I q (congrArg not Re))
  |_=>exact absurd (show false=true from hs) Bool.false_ne_true
 |byt i=>
  obtain⟨t,rfl⟩:=rx;cases y with
  |byt j=>obtain⟨t',rfl⟩:=ry;exact W.ne_bytes (Ap I q (congrArg not Rg))
  |_=>exact absurd (show false=true from hs) Bool.false_ne_true
 |_=>cases y<;>exact absurd (show false=true from hs) Bool.false_ne_true

theorem op_lt:OpR X (compareOp .Lt) (rI0 fun i j=>.bl (decide (i<j))):=opB0 fun _ _ _ _ _ _ _ q=>lt_int q
theorem op_le:OpR X (compareOp .LtE) (rI0 fun i j=>.bl (decide (i≤j))):=opB0 fun _ _ _ _ _ _ _ q=>le_int q
theorem op_gt:OpR X (compareOp .Gt) (rI0 fun i j=>.bl (decide (j<i))):=opB0 fun _ _ _ _ _ _ _ q=>gt_int q
theorem Yy:OpR X (compareOp .IsNot) (fun x y H Q=>y=.non∧Q (.bl (!decide (x=.non))) H):=by
 intro pins s σ H x y v u Q I rx ry h;obtain⟨rfl,q⟩:=h;cases ry;refine isnot_none_gen (Ap I q ?_);cases x<;>first
  |(cases rx;rfl)
  |(obtain⟨t,rfl⟩:=rx;rfl)

theorem Ad1(b:Expr){op:CmpOp}(h:op≠.In:=by decide)(h2:op≠.NotIn:=by decide):behindInMarks op b=false:=by
 have e1:(op == CmpOp.In)=false:=by cases op<;>first|rfl|exact absurd rfl h
 have e2:(op == CmpOp.NotIn)=false:=by cases op<;>first|rfl|exact absurd rfl h2
 cases b<;>simp[behindInMarks,e1,e2]
theorem Yv{op:CmpOp}{r:R2}(ho:OpR X (compareOp op) r)(ha:PE X a ta)(hb:PE X b tb)(hm:behindInMarks op b=false):PE X (.Compare a [op] [b] pos) (tOp r ta tb):=by
 intro pins s σ H Q I h;exact wpAny_Compare1 (binT ha hb I h fun v u s2 x y H2 I2 rx ry q=>ho pins s2 σ H2 x y v u Q I2 rx ry q) hm
noncomputable def Aag(t:TE):TT:=fun σ H Q=>t σ H fun x H'=>∃k,x=.bl k∧Q k H'
theorem Yo{op:CmpOp}{r:R2}(ho:OpR X (compareOp op) r)(ha:PE X a ta)(hb:PE X b tb)(hm:behindInMarks op b=false):PT X (.Compare a [op] [b] pos) (Aag (tOp r ta tb)):=by
 intro pins s σ H Q I h;refine wpAny_isTrue_Compare1 (thn (ha pins s σ H _ I h) fun v s1 ⟨x,H1,I1,r1,q1⟩=>thn (hb pins s1 σ H1 _ I1 q1) fun u s2 ⟨y,H2,I2,r2,q2⟩=>
  thn (ho pins s2 σ H2 x y v u _ I2 r1 r2 q2) fun c s3 ⟨z,H3,I3,r3,k,e,q3⟩=>?_) hm
 subst e;cases r3;exact wpAny_truthy_bool ⟨H3,I3,q3⟩
noncomputable def Og(r r':R2)(ta tb tc:TE):TE:=fun σ H Q=>ta σ H fun x H1=>tb σ H1 fun y H2=>r x y H2 fun z H3=>∃k,z=.bl k∧
 (if k=true then tc σ H3 fun w' H4=>r' y w' H4 Q else Q (.bl false) H3)
theorem V4{op op':CmpOp}{r r':R2}(ho:OpR X (compareOp op) r)(ho':OpR X (compareOp op') r')(ha:PE X a ta)(hb:PE X b tb)(hc:PE X c tc)(hm:lastMarks [op,op'] [b,c]=false:=by with_unfolding_all rfl):PE X (.Compare a [op,op'] [b,c] pos) (Og r r' ta tb tc):=by
 intro pins s σ H Q I h;refine Compare_chain (thn (ha pins s σ H _ I h) fun v s1 ⟨x,H1,I1,r1,q1⟩=>chain_link (thn (hb pins s1 σ H1 _ I1 q1) fun u s2 ⟨y,H2,I2,r2,q2⟩=>
  thn (ho pins s2 σ H2 x y v u _ I2 r1 r2 q2) fun d s3 ⟨z,H3,I3,r3,k,e,q3⟩=>?_)) hm
 subst e;cases r3;refine wpAny_truthy_bool ?_;cases k with
 |false=>exact ite_ff ⟨.bl false,H3,I3,rfl,q3⟩
 |true=>exact ite_tt (chain_last (thn (hc pins s3 σ H3 _ I3 q3) fun w' s4 ⟨z',H4,I4,r4,q4⟩=>ho' pins s4 σ H4 y z' u w' Q I4 r2 r4 q4))
theorem Vr{op op':CmpOp}{r r':R2}(ho:OpR X (compareOp op) r)(ho':OpR X (compareOp op') r')(ha:PE X a ta)(hb:PE X b tb)(hc:PE X c tc)(hm:lastMarks [op,op'] [b,c]=false:=by with_unfolding_all rfl):PT X (.Compare a [op,op'] [b,c] pos) (Aag (Og r r' ta tb tc)):=by
 intro pins s σ H Q I h;refine isTrue_chain (thn (ha pins s σ H _ I h) fun v s1 ⟨x,H1,I1,r1,q1⟩=>test_link (thn (hb pins s1 σ H1 _ I1 q1) fun u s2 ⟨y,H2,I2,r2,q2⟩=>
  thn (ho pins s2 σ H2 x y v u _ I2 r1 r2 q2) fun d s3 ⟨z,H3,I3,r3,k,e,q3⟩=>?_)) hm
 subst e;cases r3;refine wpAny_truthy_bool ?_;cases k with
 |false=>
  obtain⟨k',e',q'⟩:=q3;cases e';exact ite_ff ⟨H3,I3,q'⟩
 |true=>
  refine ite_tt (test_last (thn (hc pins s3 σ H3 _ I3 q3) fun w' s4 ⟨z',H4,I4,r4,q4⟩=>thn (ho' pins s4 σ H4 y z' u w' _ I4 r2 r4 q4) fun d' s5 ⟨z2,H5,I5,r5,k2,e2,q5⟩=>?_));subst e2;cases r5;exact wpAny_truthy_bool ⟨H5,I5,q5⟩

noncomputable def TruV(K:W.Frag)(x:V)(H:Hp)(k:Bool):Prop:=
 match x with
 |.non=>k=false
 |.bl b=>k=b
 |.int i=>k=(i != 0)
 |.str y=>y.length≤sizeLine∧k=((y.length:Int) != 0)
 |.byt y=>y.size≤sizeLine∧k=((y.size:Int) != 0)
 |.ref p=>(∃xs,SqL K H p xs∧k = !xs.isEmpty)∨(∃xs,SqT K H p xs∧k = !xs.isEmpty)∨∃kvs,H p=some (.dK kvs)∧k = !kvs.isEmpty
 |_=>False
theorem Pk{κ:Type}{kvs:List (κ×V)}{vs:List (κ×Value)}(r:KV kvs vs):(!vs.isEmpty) = !kvs.isEmpty:=by
 cases r<;>rfl
theorem Hy{xs:List V}{its:List Value}(r:Vals xs its):(!its.toArray.isEmpty) = !xs.isEmpty:=by
 cases r<;>simp
theorem Fe:(sizeLine:Nat)<2 ^ 63:=by rw[sizeLine_eq];decide
theorem Ab2:TruR X (fun x H Q=>∃k,TruV X.K x H k∧Q k H):=by
 intro pins s σ H x v Q I rx h;obtain⟨k,e,q⟩:=h;have hl:=Fe;have hs:sizeLine=16777216:=sizeLine_eq;cases x with
 |non=>
  cases rx;have e':k=false:=e;subst e';exact truthy_none ⟨H,I,q⟩
 |bl b=>
  cases rx;have e':k=b:=e;subst e';exact wpAny_truthy_bool ⟨H,I,q⟩
 |int i=>
  obtain⟨t,rfl⟩:=rx;have e':k=(i != 0):=e;subst e';exact PySem.P.truthy_int ⟨H,I,q⟩
 |str y=>
  obtain⟨t,rfl⟩:=rx;obtain⟨hy,e'⟩:y.length≤sizeLine∧k=((y.length:Int) != 0):=e;subst e';exact PySem.P.truthy_str (by omega) ⟨H,I.tok _,q⟩
 |byt y=>
  obtain⟨t,rfl⟩:=rx;obtain⟨hy,e'⟩:y.size≤sizeLine∧k=((y.size:Int) != 0):=e;subst e';exact W.truthy_bytes (by omega) ⟨H,I.tok _,q⟩
 |ref p=>
  cases rx;have e':(∃xs,SqL X.K H p xs∧k = !xs.isEmpty)∨(∃xs,SqT X.K H p xs∧k = !xs.isEmpty)∨∃kvs,H p=some (.dK kvs)∧k = !kvs.isEmpty:=e;rcases e' with ⟨xs,hx,e'⟩|⟨xs,hx,e'⟩|⟨kvs,hx,e'⟩
  ·subst e';obtain⟨its,r,pl,hz⟩:=I.list hx;have hlen:=r.length;exact wpAny_truthy_list pl.isList (by simp only[List.size_toArray];omega) ⟨H,I.tok _,by rw[Hy r];exact q⟩
  ·subst e';obtain⟨its,r,pl,hz⟩:=I.tuple hx;have hlen:=r.length;exact truthy_tuple pl (by simp only[List.size_toArray];omega) ⟨H,I.tok _,by rw[Hy r];exact q⟩
  ·subst e';obtain⟨hz,hS,vs,r,m⟩:kvs.length≤sizeLine∧(p == sysModules)=false∧∃vs,KV kvs vs∧s.heap.DictOf (Al X.prog X.w) p vs:=I.hok p _ hx;have hlen:kvs.length=vs.length:=Paired.length r;exact wpAny_truthy_dict hS m (by omega) ⟨H,I.tok _,by rw[Pk r];exact q⟩
 |_=>exact(show False from e).elim
theorem Vq(ha:PE X a ta)(he:∀whole,isTrue a X.env whole=(do let v ←whole;standAt a.pos;holding [v] (truthy v))) :
  PT X a (fun σ H Q=>ta σ H fun x H'=>∃k,TruV X.K x H' k∧Q k H'):=by
 intro pins s σ H Q I h;exact isTrue_plain (thn (ha pins s σ H _ I h) fun v s1 ⟨x,H1,I1,r1,q1⟩=>Ab2 pins s1 σ H1 x v Q I1 r1 q1) (he _)

theorem Ek{x:V}{us:List Value}(r:Vals [x] us):∃u,us=[u]∧RelV x u:=by
 cases r with
 |cons r1 r2=>cases r2;exact⟨_,rfl,r1⟩
theorem P4{x y:V}{us:List Value}(r:Vals [x,y] us):∃u w',us=[u,w']∧RelV x u∧RelV y w':=by
 cases r with
 |cons r1 r2=>
  cases r2 with
  |cons r3 r4=>cases r4;exact⟨_,_,rfl,r1,r3⟩
theorem call_abs:CallR X (.builtin "abs") (fun xs H Q=>∃i,xs=[.int i]∧Q (.int (if i<0 then -i else i)) H):=by
 intro pins s σ H xs us Q I r h;obtain⟨i,rfl,q⟩:=h;obtain⟨u,rfl,t,rfl⟩:=Ek r;exact call_abs_int fun u tk=>⟨.int (if i<0 then -i else i),H,I.tok _,⟨_,rfl⟩,q⟩
theorem Tg(hc:X.calm=true):CallR X (.builtin "max") (fun xs H Q=>∃i j,xs=[.int i,.int j]∧Q (.int (if j>i then j else i)) H):=by
 intro pins s σ H xs us Q I r h;obtain⟨i,j,rfl,q⟩:=h;obtain⟨u,w',rfl,⟨t,rfl⟩,⟨t',rfl⟩⟩:=P4 r;refine max_two_ints (I.ok.hd hc) fun h' tk k=>⟨_,H,I.kept k,?_,q⟩
 by_cases hj:j>i
 ·rw[if_pos hj,if_pos hj];exact⟨_,rfl⟩
 ·rw[if_neg hj,if_neg hj];exact⟨_,rfl⟩
theorem Tf(hc:X.calm=true):CallR X (.builtin "min") (fun xs H Q=>∃i j,xs=[.int i,.int j]∧Q (.int (if j<i then j else i)) H):=by
 intro pins s σ H xs us Q I r h;obtain⟨i,j,rfl,q⟩:=h;obtain⟨u,w',rfl,⟨t,rfl⟩,⟨t',rfl⟩⟩:=P4 r;refine min_two_ints (I.ok.hd hc) fun h' tk k=>⟨_,H,I.kept k,?_,q⟩
 by_cases hj:j<i
 ·rw[if_pos hj,if_pos hj];exact⟨_,rfl⟩
 ·rw[if_neg hj,if_neg hj];exact⟨_,rfl⟩
noncomputable def LenV(K:W.Frag)(x:V)(H:Hp)(n:Nat):Prop:=
 match x with
 |.str y=>y.length≤sizeLine∧n=y.length
 |.byt y=>y.size≤sizeLine∧n=y.size
 |.ref p=>(∃xs,SqL K H p xs∧n=xs.length)∨∃xs,SqT K H p xs∧n=xs.length
 |_=>False
theorem call_len:CallR X (.builtin "len") (fun xs H Q=>∃x n,xs=[x]∧LenV X.K x H n∧Q (.int n) H):=by
 intro pins s σ H xs us Q I r h;obtain⟨x,n,rfl,e,q⟩:=h;obtain⟨u,rfl,rx⟩:=Ek r;have hl:=Fe;have hs:sizeLine=16777216:=sizeLine_eq;cases x with
 |str y=>
  obtain⟨t,rfl⟩:=rx;obtain⟨hy,e'⟩:y.length≤sizeLine∧n=y.length:=e;subst e';exact len_str (by omega) ⟨.int _,H,I.tok _,⟨_,rfl⟩,q⟩
 |byt y=>
  obtain⟨t,rfl⟩:=rx;obtain⟨hy,e'⟩:y.size≤sizeLine∧n=y.size:=e;subst e';exact W.len_bytes (by omega) ⟨.int _,H,I.tok _,⟨_,rfl⟩,q⟩
 |ref p=>
  cases rx;have e':(∃xs,SqL X.K H p xs∧n=xs.length)∨∃xs,SqT X.K H p xs∧n=xs.length:=e;rcases e' with ⟨xs,hx,e'⟩|⟨xs,hx,e'⟩
  ·subst e';obtain⟨its,r',pl,hz⟩:=I.list hx;have hlen:=r'.length;exact Calls.call_len_list pl.isList (by simp only[List.size_toArray];omega) ⟨.int xs.length,H,I.tok _,⟨_,by simp only[List.size_toArray];rw[hlen]⟩,q⟩
  ·subst e';obtain⟨its,r',pl,hz⟩:=I.tuple hx;have hlen:=r'.length;exact len_tuple pl (by simp only[List.size_toArray];omega) ⟨.int xs.length,H,I.tok _,⟨_,by simp only[List.size_toArray];rw[hlen]⟩,q⟩
 |_=>exact(show False from e).elim
theorem call_divmod:CallR X (.builtin "divmod") (fun xs H Q=>∃i j,xs=[.int i,.int j]∧T4 i j∧∀p,H p=none→Q (.ref p) (upd H p (.tup [.int (i / j),.int (i % j)]))):=by
 intro pins s σ H xs us Q I r h;obtain⟨i,j,rfl,⟨h1,h2⟩,q⟩:=h;obtain⟨u,w',rfl,⟨t,rfl⟩,⟨t',rfl⟩⟩:=P4 r;refine divmod_int (by omega) ?_ (.inl (PyProof.noPylong_small (by omega)))
 rw[Int.fdiv_eq_ediv_of_nonneg i (by omega),Int.fmod_eq_emod_of_nonneg i (by omega)]
 have hn:H s.heap.objs.size=none:=I.hok.fresh (Nat.le_refl _);refine⟨.ref s.heap.objs.size,_,?_,rfl,q _ hn⟩;refine I.laid (fun b o e=>Heap.get?_push_of_some _ e) (Nat.le_refl _) ⟨by simp only[List.length_cons,List.length_nil];rw[sizeLine_eq];decide,[.int (i / j) s.toks,.int (i % j) (s.toks+1)],.cons ⟨_,rfl⟩ (.cons ⟨_,rfl⟩ .nil),?_⟩
 exact⟨_,Heap.get?_push_size s.heap rfl,rfl,0,rfl⟩
end
end L2
namespace L2
open PySem PySem.Spec PyProof.Rows
structure ObjM(h:Heap)(x dx C:Addr)(mA:Str→Option Value):Prop where
 obj:h.get? x=some (W.instObj C dx)
 ns:h.Ns1 dx mA
 ne:dx≠x

theorem S1{h:Heap}{dx:Addr}{mA:Str→Option Value}(n:h.Ns1 dx mA):∃od,h.get? dx=some od∧∀name,W.lookIn name od=some (mA name):=by
 obtain⟨o,es,ep,ho,hd,hk,_,hm⟩:=n;refine⟨o,ho,fun name=>?_⟩;have e:=hm name;unfold nsFind findBy at e;rw[←Array.find?_toList] at e;unfold W.lookIn;rw[hd];dsimp only
 split
 ·rename_i y q;rw[q] at e;exact congrArg some e
 ·rename_i q;rw[q] at e;have a:es.toList.any (·.refKey)=false:=by
   rw[List.any_eq_false];intro y hy;obtain⟨z,t,hkey⟩:=hk y (Array.mem_toList_iff.mp hy);simp[DictEntry.refKey,hkey]
  have a':¬es.toList.any (·.refKey)=true:=by rw[a];exact Bool.false_ne_true
  rw[if_neg a'];exact congrArg some e

theorem ObjM.look{h:Heap}{x dx C:Addr}{mA:Str→Option Value}(I:ObjM h x dx C mA):∃od,W.InstAt h x (W.instObj C dx) C (some od)∧∀name,W.lookIn name od=some (mA name):=
 let ⟨od,ho,hl⟩:=S1 I.ns
 ⟨od,⟨I.obj,rfl,rfl,ho⟩,hl⟩

section
variable{prog:Program}{w:World}{A:Around}{E:Value→Shared→Prop}{s:Shared}{K:W.Frag}{x dx C f:Addr}{mA:Str→Option Value}{name:Str}{v:Value}
theorem Zq{expr:Bool}{Q:Value→Shared→Prop}(X:K.In s.heap)(I:ObjM s.heap x dx C mA)(hg:W.plainGet K C name=true)(hh:W.hasDictIn K C=true)(ha:W.findIn K (.ref C) name=some none)(hv:mA name=some v)(hv':W.handedIn v=true)(h:Q v { s with toks:=s.toks+1 }) :
  wpAny (model prog w) A (getAttr (.ref x) name expr) Q E s:=by
 obtain⟨od,J,hl⟩:=I.look;exact W.get_value X J (W.plainGet_of hg).1 (W.findObj_own hh ha rfl (by rw[hl,hv])) hv' h

theorem X6{ns:List Str}{Q:Unit→Shared→Prop}(X:K.In s.heap)(I:ObjM s.heap x dx C mA)(hs:W.findIn K (.ref C) "__setattr__" = some (some (.builtin "object.__setattr__")))(hp:W.plainOver K C=true)(ht:W.takerIn K C name=some none)(hh:W.hasDictIn K C=true)(hw:PySem.Within mA ns)(hsz:ns.length≤sizeLine)(h:∀h',ObjM h' x dx C (fun y=>if y=name then some v else mA y)→Heap.SameBut dx s.heap h'→Q () { s with heap:=h',toks:=s.toks+2 }) :
  wpAny (model prog w) A (setAttr (.ref x) name v) Q E s:=by
 obtain⟨od,J,hl⟩:=I.look;refine W.set_plain X J hs (W.osa_open (s:={ s with toks:=s.toks+1 }) (r:=none) X J hp ht fun b=>?_);obtain⟨cd,hc,hd'⟩:=W.any_some hh;have hx:s.heap.get? x=some ⟨.ref C,some dx,.plain,#[]⟩:=I.obj;refine wpAny_bind (wpAny_pure (wpAny_bind (wpAny_bind (wpAny_loadPart hx (wpAny_bind (W.Looks.here (s:={ s with toks:=s.toks+1 }) (W.looks_clsIn X hc) ?_))))));rw[hd'];refine wpAny_pure (a:=some dx) (wpAny_bind (wpAny_pure (wpAny_bind ?_)));refine wpAny_nsSet1 (s:={ s with toks:=s.toks+1 }) I.ns fun h' hn2 hs2=>?_;obtain⟨oD,esD,epD,hoD,hdD,hcD⟩:=hn2.count (PySem.Within.cons name v hw);refine wpAny_bind (wpAny_lookBehind hoD (by rw[hdD];exact pastItsLine_dict (Nat.le_trans hcD (by rw[List.length_cons];omega))) ?_)
 exact wpAny_pure (h _ ⟨(hs2.2 _ (Ne.symm I.ne)).trans I.obj,hn2,I.ne⟩ hs2)

theorem Wl{R:Result→Shared→Prop}{vs:List Value}{kw:List (Str×Value)}(X:K.In s.heap)(hm:W.makesIn K C=true)(hi:W.findIn K (.ref C) "__init__" = some (some (.ref f)))(hf:W.typeIn K (.ref f)=some (.type "function"))(h:codeAny (model prog w) (A.under (.builtin "type.__call__" ⟨.ref C::vs,kw⟩)) (.call (.ref f) ⟨.ref (s.heap.objs.size+1)::vs,kw⟩) (W.InitBack (s.heap.objs.size+1) R)
   { s with heap:=(s.heap.push W.emptyDict).push (W.instObj C s.heap.objs.size) }) :
  codeAny (model prog w) A (.call (.ref C) ⟨vs,kw⟩) R s:=by
 obtain⟨hh,g,d,t,os⟩:=s;exact W.make_core (W.makes_of X hm) (W.looks_findIn X hi) (fun self=>W.bind_fn X self hf) (.inl rfl) h
end
noncomputable def Dh(f:Str)(v:V):List (Str×V)→List (Str×V)
 |[]=>[(f,v)]
 |(g,x)::r=>if g=f then (g,v)::r else (g,x)::Dh f v r
theorem F7(f g:Str)(v:V):∀fs:List (Str×V),(Dh f v fs).lookup g=if g=f then some v else fs.lookup g
 |[]=>by
  show List.lookup g [(f,v)]=_
  by_cases h:g=f
  ·have hb:(g == f)=true:=beq_iff_eq.mpr h;simp only[List.lookup,hb,if_pos h]
  ·have hb:(g == f)=false:=beq_eq_false_iff_ne.mpr h;simp only[List.lookup,hb,if_neg h]
 |(k,x)::r=>by
  have ih:=F7 f g v r;rw[show Dh f v ((k,x)::r)=(if k=f then (k,v)::r else (k,x)::Dh f v r) from rfl]
  by_cases hk:k=f
  ·rw[if_pos hk]
   by_cases h:g=k
   ·have hb:(g == k)=true:=beq_iff_eq.mpr h;simp only[List.lookup,hb,if_pos (h.trans hk)]
   ·have hb:(g == k)=false:=beq_eq_false_iff_ne.mpr h;simp only[List.lookup,hb,if_neg (fun e:g=f=>h (e.trans hk.symm))]
  ·rw[if_neg hk]
   by_cases h:g=k
   ·have hb:(g == k)=true:=beq_iff_eq.mpr h;simp only[List.lookup,hb,if_neg (fun e:g=f=>hk (h.symm.trans e))]
   ·have hb:(g == k)=false:=beq_eq_false_iff_ne.mpr h;simp only[List.lookup,hb];exact ih
theorem Fp(f:Str)(v:V):∀fs:List (Str×V),f∈(Dh f v fs).map (·.1)∧∀g,g∈fs.map (·.1)→g∈(Dh f v fs).map (·.1)
 |[]=>⟨by simp[Dh],fun g h=>by simp at h⟩
 |(k,x)::r=>by
  obtain⟨i1,i2⟩:=Fp f v r;rw[show Dh f v ((k,x)::r)=(if k=f then (k,v)::r else (k,x)::Dh f v r) from rfl]
  by_cases hk:k=f
  ·rw[if_pos hk];subst hk;exact⟨by simp,fun g h=>by simpa using h⟩
  ·rw[if_neg hk];refine⟨?_,fun g h=>?_⟩
   ·rw[List.map_cons];exact List.mem_cons_of_mem _ i1
   ·rw[List.map_cons] at h ⊢;rcases List.mem_cons.mp h with e|e
    ·exact List.mem_cons.mpr (.inl e)
    ·exact List.mem_cons_of_mem _ (i2 g e)
theorem F8(f:Str)(v:V):∀fs:List (Str×V),(Dh f v fs).length≤fs.length+1
 |[]=>by simp[Dh]
 |(k,x)::r=>by
  have ih:=F8 f v r;rw[show Dh f v ((k,x)::r)=(if k=f then (k,v)::r else (k,x)::Dh f v r) from rfl]
  by_cases hk:k=f
  ·rw[if_pos hk,List.length_cons,List.length_cons];omega
  ·rw[if_neg hk,List.length_cons,List.length_cons];omega

theorem RelO.some_of{v:V}{o:Option Value}(r:RelO (some v) o):∃u,o=some u∧RelV v u:=by
 cases o with
 |none=>exact(show False from r).elim
 |some u=>exact⟨u,rfl,r⟩
theorem RelO.none_of{o:Option Value}(r:RelO none o):o=none:=by
 cases o with
 |none=>rfl
 |some u=>exact(show False from r).elim
theorem Ta{v:V}{u:Value}(r:RelV v u):W.handedIn u=true:=by
 cases v with
 |non=>cases(show u=Value.none from r);rfl
 |bl b=>cases(show u=Value.bool b from r);rfl
 |int i=>obtain⟨t,e⟩:=(show ∃t,u=Value.int i t from r);cases e;rfl
 |str x=>obtain⟨t,e⟩:=(show ∃t,u=Value.str x t from r);cases e;rfl
 |byt b=>obtain⟨t,e⟩:=(show ∃t,u=Value.bytes b t from r);cases e;rfl
 |flt b=>obtain⟨t,e⟩:=(show ∃t,u=Value.float b t from r);cases e;rfl
 |ref a=>cases(show u=Value.ref a from r);rfl
 |ty n=>cases(show u=Value.type n from r);rfl

section
variable{P:Program}{w:World}{H H':Hp}{h h':Heap}{a C dx:Addr}{fs fs':List (Str×V)}
theorem ins_get(hok:HOk P w H h)(e:H a=some (.ins C dx fs)):∃mA,ObjM h a dx C mA∧(∀f,RelO (fs.lookup f) (mA f))∧PySem.Within mA (fs.map (·.1))∧fs.length≤1000∧H dx=some (.own a):=by
 obtain⟨d,z,ne,ob,mA,n,r,q⟩:=(show ObjOk P w H h a (.ins C dx fs) from hok a _ e);exact⟨mA,⟨ob,n,ne⟩,r,q,z,d⟩
end
structure Cls(K:W.Frag)(C:Addr):Prop where
 pg:W.plainGet K C Str.empty=true
 hd:W.hasDictIn K C=true
 po:W.plainOver K C=true
 sa:W.findIn K (.ref C) "__setattr__" = some (some (.builtin "object.__setattr__"))
theorem Cls.get{K:W.Frag}{C:Addr}(c:Cls K C)(f:Str):W.plainGet K C f=true:=c.pg
noncomputable def NoAttr(K:W.Frag)(C:Addr)(f:Str):Prop:=W.findIn K (.ref C) f=some none
theorem NoAttr.taker{K:W.Frag}{C:Addr}{f:Str}(n:NoAttr K C f):W.takerIn K C f=some none:=by
 unfold W.takerIn;rw[show W.findIn K (.ref C) f=some none from n];rfl
section
variable{X:Cx}{pins:List (Addr×Obj)}{σ:St}{H:Hp}{s:Shared}{a C dx:Addr}{fs:List (Str×V)}{f:Str}{v:V}{A:Around}{E:Value→Shared→Prop}
theorem Pl{b:Bool}{Q:Value→Shared→Prop}(I:Inv X pins σ H s)(e:H a=some (.ins C dx fs))(c:Cls X.K C)(n:NoAttr X.K C f)(l:fs.lookup f=some v)(h:∀u s',Inv X pins σ H s'→RelV v u→Q u s'):wpAny (model X.prog X.w) A (getAttr (.ref a) f b) Q E s:=by
 obtain⟨mA,O,r,_,_,_⟩:=ins_get I.hok e;obtain⟨u,hu,ru⟩:=RelO.some_of (v:=v) (o:=mA f) (by rw[←l];exact r f)
 exact Zq I.kIn O (c.get f) c.hd n hu (Ta ru) (h u _ (I.tok _) ru)

theorem O4{y:V}{u:Value}{Q:Unit→Shared→Prop}(I:Inv X pins σ H s)(e:H a=some (.ins C dx fs))(c:Cls X.K C)(n:NoAttr X.K C f)(hl:fs.length<1000)(ry:RelV y u)(h:∀s',Inv X pins σ (upd H a (.ins C dx (Dh f y fs))) s'→Q () s'):wpAny (model X.prog X.w) A (setAttr (.ref a) f u) Q E s:=by
 obtain⟨mA,O,r,wi,_,ho⟩:=ins_get I.hok e;have hz:(fs.map (·.1)).length≤sizeLine:=by rw[List.length_map,sizeLine_eq];omega
 refine X6 I.kIn O c.sa c.po n.taker c.hd wi hz fun h' O' sb=>h _ ?_;have hd:∃o,h'.get? dx=some o:=let ⟨o,_,_,e',_⟩:=O'.ns;⟨o,e'⟩;refine I.write (x:=a) (e:=dx) (by rw[e];exact True.intro) (.inr ho) (fun b q hb z=>(sb.2 b hb).trans z) hd ?_
 refine⟨by rw[Ad O.ne];exact ho,?_,O.ne,O'.obj,_,O'.ns,fun g=>?_,fun g hg=>?_⟩
 ·have:=F8 f y fs;omega
 ·show RelO ((Dh f y fs).lookup g) (if g=f then some u else mA g);rw[F7]
  by_cases q:g=f
  ·rw[if_pos q,if_pos q];exact ry
  ·rw[if_neg q,if_neg q];exact r g
 ·by_cases q:g=f
  ·rw[q];exact(Fp f y fs).1
  ·refine(Fp f y fs).2 g (wi g fun z=>hg ?_);show(if g=f then some u else mA g)=none;rw[if_neg q];exact z

theorem Inv.made(I:Inv X pins σ H s):Inv X pins σ (upd (upd H s.heap.objs.size (.own (s.heap.objs.size+1))) (s.heap.objs.size+1) (.ins C s.heap.objs.size []))
  { s with heap:=(s.heap.push W.emptyDict).push (W.instObj C s.heap.objs.size) }:=by
 have e1:(s.heap.push W.emptyDict).get? s.heap.objs.size=some W.emptyDict:=Heap.get?_push_size s.heap rfl;have e2:((s.heap.push W.emptyDict).push (W.instObj C s.heap.objs.size)).get? (s.heap.objs.size+1)=some (W.instObj C s.heap.objs.size):=by
  have:=Heap.get?_push_size (s.heap.push W.emptyDict) (o:=W.instObj C s.heap.objs.size) rfl
  rwa [Heap.size_push] at this
 have e3:(s.heap.push W.emptyDict).Ns s.heap.objs.size (fun _=>none):=⟨W.emptyDict,#[],_,e1,rfl,(fun e he=>absurd he (by simp)),fun _=>rfl⟩
 have I1:=I.laid (a:=s.heap.objs.size) (o:=.own (s.heap.objs.size+1)) (h':=s.heap.push W.emptyDict) (t':=s.toks) (fun b u q=>Heap.get?_push_of_some _ q) (Nat.le_refl _) ⟨_,e1⟩;refine I1.laid (a:=s.heap.objs.size+1) (o:=.ins C s.heap.objs.size []) (t':=s.toks) (fun b u q=>Heap.get?_push_of_some _ q) (Nat.le_of_eq (Heap.size_push _ _)) ?_;have ne:s.heap.objs.size≠s.heap.objs.size+1:=Nat.ne_of_lt (Nat.lt_succ_self _);refine⟨by rw[Ad ne,Ah],Nat.zero_le _,ne,e2,fun _=>none,(Heap.Ns1.of_empty e3).at fun o q=>Heap.get?_push_of_some _ q,fun _=>True.intro,fun y hy=>absurd rfl hy⟩

theorem Z7{prog:Program}{w:World}{env:Env}{e:Expr}{f:Str}{pos:Pos}{s:Shared}{Q:Value→Shared→Prop}(hb:attributeBase e f env (eval e env)=eval e env)(h:wpAny (model prog w) A (eval e env) (fun o s₁=>wpAny (model prog w) A (getAttr o f true) Q E s₁) E s):wpAny (model prog w) A (eval (.Attribute e f pos) env) Q E s:=
 Attribute_any_ h (by rw[arm_eval_Attribute,hb])
end
noncomputable def tFld(K:W.Frag)(ta:TE)(f:Str):TE:=fun σ H Q=>ta σ H fun x H1=>∃a C dx fs v,x=.ref a∧H1 a=some (.ins C dx fs)∧Cls K C∧NoAttr K C f∧fs.lookup f=some v∧Q v H1
noncomputable def sFld(K:W.Frag)(ta tv:TE)(f:Str):TS:=fun D σ H=>tv σ H fun y H1=>ta σ H1 fun x H2=>∃a C dx fs,x=.ref a∧H2 a=some (.ins C dx fs)∧Cls K C∧NoAttr K C f∧fs.length<1000∧
 D.nx σ (upd H2 a (.ins C dx (Dh f y fs)))
section
variable{X:Cx}{o e value:Expr}{f:Str}{pos pos' tpos:Pos}{ta tv:TE}
theorem Adm(he:PE X e ta)(hb:attributeBase e f X.env (eval e X.env)=eval e X.env):PE X (.Attribute e f pos) (tFld X.K ta f):=by
 intro pins s σ H Q I h;refine Z7 hb (thn (he pins s σ H _ I h) fun u s1 zz=>?_);obtain⟨x,H1,I1,rx,a,C,dx,fs,v,ex,ea,c,n,l,q⟩:=zz;subst ex;obtain rfl:u=Value.ref a:=rx;exact Pl I1 ea c n l fun u' s2 I2 ru=>⟨v,H1,I2,ru,q⟩
theorem Ac5(ha:PE X o ta)(hv:PE X value tv)(hs:swapsWith value (some (.Attribute o f pos')) pos.line X.env=pure false):PS X (.Assign [.Attribute o f pos'] value pos) (sFld X.K ta tv f):=by
 intro pins s σ H D I h;refine plainObj_wpAny_Assign_Attribute (thn (hv pins s σ H _ I h) fun u s1 ⟨y,H1,I1,ry,q⟩=>thn (ha pins s1 σ H1 _ I1 q) fun ov s2 ⟨x,H2,I2,rx,a,C,dx,fs,ex,ea,c,n,l,q2⟩=>?_) hs;subst ex;obtain rfl:ov=Value.ref a:=rx;exact O4 I2 ea c n l ry fun s3 I3=>⟨σ,_,I3,q2⟩
end
section
variable{X:Cx}{pins:List (Addr×Obj)}{σ:St}{H:Hp}{s:Shared}{A:Around}{E:Value→Shared→Prop}{Q:Value→Shared→Prop}{c:Value}{b:Bool}
inductive TyOf (K:W.Frag) (H:Hp):V→Value→Prop where
 |non:TyOf K H .non (.type "NoneType")
 |bl (x:Bool):TyOf K H (.bl x) (.type "bool")
 |int (i:Int):TyOf K H (.int i) (.type "int")
 |str (x:Str):TyOf K H (.str x) (.type "str")
 |flt (x:UInt64):TyOf K H (.flt x) (.type "float")
 |lst {a:Addr} {xs:List V} (e:H a=some (.lst xs)):TyOf K H (.ref a) (.type "list")
 |frz {a:Addr} {o:Obj} {xs:List V} (e:H a=some (.frz o (.lst xs))):TyOf K H (.ref a) (.type "list")
 |tup {a:Addr} {xs:List V} (e:H a=some (.tup xs)):TyOf K H (.ref a) (.type "tuple")
 |dK {a:Addr} {kvs:List (Key×V)} (e:H a=some (.dK kvs)):TyOf K H (.ref a) (.type "dict")
 |dT {a:Addr} {kvs:List (List Key×V)} (e:H a=some (.dT kvs)):TyOf K H (.ref a) (.type "dict")
 |ins {a C dx:Addr} {fs:List (Str×V)} (e:H a=some (.ins C dx fs)) (cl:Cls K C) (ha:W.findIn K (.ref C) "__class__" = some (some (.builtin "object.__class__")))
   (hn:W.specialIn K (.builtin "object.__class__") "__get__" = some (some (.builtin "getset_descriptor.__get__"))) (htk:W.takesIn K (.builtin "object.__class__")=some true)
   (hm:W.mroIn K C (.type "object")=some true):TyOf K H (.ref a) (.ref C)
theorem S7{x:V}{u t:Value}(I:Inv X pins σ H s)(rx:RelV x u)(ty:TyOf X.K H x t)(e:W.kitOne X.K t c=some b)(h:∀tk,Q (.bool b) { s with toks:=tk }) :
  wpAny (model X.prog X.w) A (call (.builtin "isinstance") [u,c]) Q E s:=by
 cases ty with
 |non=>cases(show u=Value.none from rx);exact W.kia_one W.kitx_none I.kIn True.intro e (fun z=>nomatch z) h
 |bl y=>cases(show u=Value.bool y from rx);exact W.kia_one W.kitx_bool I.kIn True.intro e (fun z=>nomatch z) h
 |int i=>obtain⟨t,q⟩:=(show ∃t,u=Value.int i t from rx);cases q;exact W.kia_one W.kitx_int I.kIn True.intro e (fun z=>nomatch z) h
 |str y=>obtain⟨t,q⟩:=(show ∃t,u=Value.str y t from rx);cases q;exact W.kia_one W.kitx_str I.kIn True.intro e (fun z=>nomatch z) h
 |flt y=>obtain⟨t,q⟩:=(show ∃t,u=Value.float y t from rx);cases q;exact W.kia_one W.kitx_float I.kIn True.intro e (fun z=>nomatch z) h
 |@lst a xs ea=>
  cases(show u=Value.ref a from rx);obtain⟨_,_,n,_,h1⟩:=(show ObjOk X.prog X.w H s.heap a (.lst xs) from I.hok a _ ea);exact W.kia_one W.kitx_list I.kIn ⟨_,h1,rfl⟩ e (fun z=>nomatch z) h
 |@frz a ob xs ea=>
  cases(show u=Value.ref a from rx);obtain⟨_,_,_,n,_,h1⟩:=(show ObjOk X.prog X.w H s.heap a (.frz ob (.lst xs)) from I.hok a _ ea);exact W.kia_one W.kitx_list I.kIn ⟨_,h1,rfl⟩ e (fun z=>nomatch z) h
 |@tup a xs ea=>
  cases(show u=Value.ref a from rx);obtain⟨_,_,_,p⟩:=(show ObjOk X.prog X.w H s.heap a (.tup xs) from I.hok a _ ea);obtain⟨o,h1,h2,_⟩:=p;exact W.kia_one W.kitx_tuple I.kIn ⟨o,h1,h2⟩ e (fun z=>nomatch z) h
 |@dK a kvs ea=>
  cases(show u=Value.ref a from rx);obtain⟨_,_,vs,_,p⟩:=(show ObjOk X.prog X.w H s.heap a (.dK kvs) from I.hok a _ ea);obtain⟨o,es,ep,h1,h2,_⟩:=p;exact W.kia_one W.kitx_dict I.kIn ⟨o,h1,h2.1⟩ e (fun z=>nomatch z) h
 |@dT a kvs ea=>
  cases(show u=Value.ref a from rx);obtain⟨_,_,xs,_,o,es,ep,h1,h2,_⟩:=(show ObjOk X.prog X.w H s.heap a (.dT kvs) from I.hok a _ ea);exact W.kia_one W.kitx_dict I.kIn ⟨o,h1,h2.1⟩ e (fun z=>nomatch z) h
 |@ins a C dx fs ea cl ha hn htk hm=>
  cases(show u=Value.ref a from rx);obtain⟨mA,O,_⟩:=ins_get I.hok ea;obtain⟨od,J,_⟩:=O.look;exact W.kia_one (W.kitx_own (cl.get _) cl.hd ha hn htk hm) I.kIn J e (fun z=>nomatch z) h
end
end L2
namespace L2
open PySem PySem.Spec PyProof.Rows
structure Room(k:Nat)(A:Around):Prop where
 hd:A.handled=none
 dp:A.depth+3*k+5<recursionLimit
 un:A.units+16*k+200<cLine
 gd:A.guards=some []
theorem Room.mono{j k:Nat}{A:Around}(r:Room k A)(h:j≤k):Room j A:=⟨r.hd,by have:=r.dp;omega,by have:=r.un;omega,r.gd⟩
theorem Room.deeper{k:Nat}{A:Around}(r:Room (k+1) A)(env:Env):Room k (A.deeper env):=
 ⟨r.hd,by have:=r.dp;show A.depth+1+3*k+5<_;omega,by have:=r.un;show A.units+3+16*k+200<_;omega,r.gd⟩
theorem Pi{A:Around}{C:Addr}{us:List Value}{kw:List (Str×Value)}:(A.under (.builtin "type.__call__" ⟨.ref C::us,kw⟩)).depth=A.depth+1:=by
 first|rfl|simp[Around.under,Code.weight,Code.isCreation,Code.isGuard,Code.isCaller,Code.frames,Code.isFrame,guardIds]
theorem Ph{A:Around}{C:Addr}{us:List Value}{kw:List (Str×Value)}:(A.under (.builtin "type.__call__" ⟨.ref C::us,kw⟩)).units=A.units+1:=by
 first|rfl|simp[Around.under,Code.cUnits,Code.frames,Code.isFrame]
theorem Room.make{k:Nat}{A:Around}(r:Room (k+1) A)(C:Addr)(us:List Value)(kw:List (Str×Value)):Room k (A.under (.builtin "type.__call__" ⟨.ref C::us,kw⟩)):=
 ⟨r.hd,by have:=r.dp;rw[Pi];omega,by have:=r.un;rw[Ph];omega,by first|exact r.gd|(simpa[Around.under,Code.isGuard,guardIds] using r.gd)⟩
theorem Room.depth{k:Nat}{A:Around}(r:Room k A):A.depth<recursionLimit:=by have:=r.dp;omega
noncomputable def Xi:TA:=fun _ H Q=>Q [] H
noncomputable def P6(ta:TE)(tr:TA):TA:=fun σ H Q=>ta σ H fun x H1=>tr σ H1 fun xs H2=>Q (x::xs) H2
section
variable{X:Cx}{e:Expr}{es:List Expr}{te:TE}{t:TA}{pos:Pos}
theorem pa_nil:PA X [] Xi:=fun _ _ _ _ H Q I h=>Calls.spliced_nil ⟨[],H,I,.nil,h⟩
theorem Qv(ha:PE X e te)(hr:PA X es t)(hs:starEach (e::es) X.env=(false,eval e X.env)::starEach es X.env:=by rfl):PA X (e::es) (P6 te t):=by
 intro pos pins s σ H Q I h;rw[hs];show wpAny _ _ (spliced ((false,eval e X.env)::backTo pos (starEach es X.env))) _ _ s;refine Calls.spliced_cons (thn (ha pins s σ H _ I h) fun u s1 zz=>?_);obtain⟨x,H1,I1,r1,q1⟩:=zz;exact thn (hr pos pins s1 σ H1 _ I1 q1) fun us s2 ⟨xs,H2,I2,r2,q2⟩=>⟨x::xs,H2,I2,.cons r1 r2,q2⟩

noncomputable def tTup(t:TA):TE:=fun σ H Q=>t σ H fun xs H1=>xs.length≤sizeLine∧∀p,H1 p=none→Q (.ref p) (upd H1 p (.tup xs))
noncomputable def tLst(t:TA):TE:=fun σ H Q=>t σ H fun xs H1=>xs.length≤sizeLine∧∀p,H1 p=none→Q (.ref p) (upd H1 p (.lst xs))
theorem Ade{x1}(h:PA X es t):PE X (.Tuple es x1 pos) (tTup t):=by
 intro pins s σ H Q I hq;refine wpAny_Tuple_spliced (thn (h pos pins s σ H _ I hq) fun us s1 ⟨xs,H1,I1,r,z,q⟩=>⟨by rw[←r.length];exact z,?_⟩)
 have hf:H1 s1.heap.objs.size=none:=I1.hok.fresh (Nat.le_refl _);refine⟨.ref s1.heap.objs.size,upd H1 s1.heap.objs.size (.tup xs),I1.laid (t':=s1.toks) (fun b u e=>Heap.get?_push_of_some _ e) (Nat.le_refl _) ?_,rfl,q _ hf⟩;exact⟨z,us,r,⟨_,Heap.get?_push_size _ rfl,rfl,_,rfl⟩⟩
theorem Adj(h:PA X es t):PE X (.List es pos) (tLst t):=by
 intro pins s σ H Q I hq;refine wpAny_List_spliced (thn (h pos pins s σ H _ I hq) fun us s1 ⟨xs,H1,I1,r,z,q⟩=>⟨by rw[←r.length];exact z,?_⟩)
 have hf:H1 s1.heap.objs.size=none:=I1.hok.fresh (Nat.le_refl _);refine⟨.ref s1.heap.objs.size,upd H1 s1.heap.objs.size (.lst xs),I1.laid (t':=s1.toks) (fun b u e=>Heap.get?_push_of_some _ e) (Nat.le_refl _) ?_,rfl,q _ hf⟩;exact⟨z,us,0,r,Heap.get?_push_size _ rfl⟩
end
noncomputable abbrev Sp:=List V→Hp→VK→XK→Prop
noncomputable abbrev CXT:=List Env→Hp→Shared→XK→Value→Shared→Prop

structure Env0(P:Program)(w:World)(K:W.Frag)(mg:Str→Option Value)(base:Heap)(A:Around)(outer:List Env)(s:Shared)(H:Hp):Prop where
 frames:A.frames=some outer
 mod:Mod K mg base
 bs:∀b o,base.get? b=some o→s.heap.get? b=some o∧H b=none
 bsz:base.objs.size≤s.heap.objs.size
 funs:s.heap.FunFrames base outer
 frf:∀b∈frs outer,H b=none
 hok:HOk P w H s.heap
 bare:AllBare s.gens
noncomputable def CE(outer:List Env)(P:Program)(w:World)(H:Hp)(s:Shared)(Q:VK)(u:Value)(s':Shared):Prop:=
 ∃v H',s'.os=s.os∧AllBare s'.gens∧Un (frs outer) [] H H' s.heap s'.heap∧HOk P w H' s'.heap∧RelV v u∧Q v H'
noncomputable def CR(CX:CXT)(outer:List Env)(P:Program)(w:World)(H:Hp)(s:Shared)(Q:VK)(E:XK)(r:Result)(s':Shared):Prop:=
 match r with
 |.ok (.ret u)=>CE outer P w H s Q u s'
 |.ok _=>False
 |.error e=>CX outer H s E e s'
structure FnOk(P:Program)(w:World)(K:W.Frag)(mg:Str→Option Value)(base:Heap)(CX:CXT)(k:Nat)(f:Addr)(fd:FuncData)(ps:List Str)(sp:Sp):Prop where
 len:∀vs H Q E,sp vs H Q E→vs.length=ps.length
 run:∀(A:Around) (outer:List Env) (s:Shared) (H:Hp) (args:Args) (us:List Value) (vs:List V) (Q:VK) (E:XK),Room k A→Env0 P w K mg base A outer s H→BindsTo s fd args (ps.zip us)→Vals vs us→sp vs H Q E→
  codeAny (model P w) A (.call (.ref f) args) (CR CX outer P w H s Q E) s
theorem FnOk.mono{P:Program}{w:World}{K:W.Frag}{mg:Str→Option Value}{base:Heap}{CX:CXT}{j k:Nat}{f:Addr}{fd:FuncData}{ps:List Str}{sp:Sp}(F:FnOk P w K mg base CX j f fd ps sp)(h:j≤k) :
  FnOk P w K mg base CX k f fd ps sp:=⟨F.len,fun A outer s H args us vs Q E hr=>F.run A outer s H args us vs Q E (hr.mono h)⟩
theorem Env0.make{P:Program}{w:World}{K:W.Frag}{mg:Str→Option Value}{base:Heap}{A:Around}{outer:List Env}{s:Shared}{H:Hp}(e:Env0 P w K mg base A outer s H)(C:Addr)(us:List Value)(kw:List (Str×Value)) :
  Env0 P w K mg base (A.under (.builtin "type.__call__" ⟨.ref C::us,kw⟩)) outer s H:=⟨by first|exact e.frames|(simpa[Around.under,Code.envs,Code.isFrame,pushEnvs] using e.frames),e.mod,e.bs,e.bsz,e.funs,e.frf,e.hok,e.bare⟩
theorem Env0.in1{P:Program}{w:World}{K:W.Frag}{mg:Str→Option Value}{base:Heap}{A:Around}{outer:List Env}{s:Shared}{H:Hp}(e:Env0 P w K mg base A outer s H) :
  Env0 P w K mg base A.in1 outer s H:=⟨e.frames,e.mod,e.bs,e.bsz,e.funs,e.frf,e.hok,e.bare⟩

section
variable{X:Cx}{pins:List (Addr×Obj)}{σ:St}{H:Hp}{s s':Shared}
theorem Inv.env0(I:Inv X pins σ H s):Env0 X.prog X.w X.K X.mg X.base X.A X.stack s H:=
 ⟨I.ok.frames,I.ok.mod,I.bs,Nat.le_trans I.ok.bsz I.sz,I.stack,I.stkFree,I.hok,I.bare⟩
theorem Inv.after{Q:VK}{u:Value}(I:Inv X pins σ H s)(h:CE X.stack X.prog X.w H s Q u s'):EP X pins σ Q u s':=by
 obtain⟨v,H',os,bare,un,hok,r,q⟩:=h;obtain⟨hh,g,d,t,os'⟩:=s';obtain rfl:os'=s.os:=os;exact⟨v,H',I.call (h':=hh) (g':=g) (d':=d) (t':=t) (ch:=[]) un hok bare (fun b z=>absurd z (by simp)),r,q⟩
end
noncomputable def tCall(sp:Sp)(dvs:List V)(E:XK)(t:TA):TE:=fun σ H Q=>t σ H fun vs H1=>sp (vs++dvs) H1 Q E
noncomputable def tMake(C:Addr)(sp:Sp)(dvs:List V)(E:XK)(t:TA):TE:=fun σ H Q=>t σ H fun vs H1=>∀x dx,H1 x=none→H1 dx=none→dx≠x→
 sp (.ref x::(vs++dvs)) (upd (upd H1 dx (.own x)) x (.ins C dx [])) (fun v H2=>v=.non∧Q (.ref x) H2) E

noncomputable def Binds(K:W.Frag)(fd:FuncData)(ps:List Str)(ds:List Value):Prop:=
 ∀(s:Shared) (us:List Value),K.In s.heap→(us++ds).length=ps.length→BindsTo s fd ⟨us,[]⟩ (ps.zip (us++ds))
theorem Binds.all{K:W.Frag}{fd:FuncData}{ps:List Str}(h:∀us:List Value,us.length=ps.length→bindArgs fd ⟨us,[]⟩=pure (ps.zip us)):Binds K fd ps []:=fun s us _ hl=>by
 rw[List.append_nil] at hl ⊢;exact .of_eq (h us hl)

noncomputable def Ef(CX:CXT)(X:Cx)(E:XK):Prop:=∀(pins:List (Addr×Obj)) (σ:St) (H:Hp) (s:Shared) (e:Value) (s':Shared),Inv X pins σ H s→CX X.stack H s E e s'→X.xe e s'

section
variable{X:Cx}{CX:CXT}{k:Nat}{f C:Addr}{fd:FuncData}{ps:List Str}{sp:Sp}{dvs:List V}{ds:List Value}{E:XK}{x m:Str}{p pos apos:Pos}{e o:Expr}{es:List Expr}{ta:TE}{t:TA}
theorem Uh{pins:List (Addr×Obj)}{σ:St}{H:Hp}{s:Shared}{Q:VK}{us:List Value}{vs:List V}(F:FnOk X.prog X.w X.K X.mg X.base CX k f fd ps sp)(hr:Room k X.A)(hb:Binds X.K fd ps ds)(hd:Vals dvs ds)(hx:Ef CX X E)(I:Inv X pins σ H s)(r:Vals vs us)(h:sp (vs++dvs) H Q E):wpAny (model X.prog X.w) X.A (call (.ref f) us) (EP X pins σ Q) X.xe s:=by
 have r2:Vals (vs++dvs) (us++ds):=r.append hd;have hl:(us++ds).length=ps.length:=by rw[←r2.length];exact F.len _ _ _ _ h
 refine wpAny_call (codeAny_mono (F.run X.A X.stack s H ⟨us,[]⟩ (us++ds) (vs++dvs) Q E hr I.env0 (hb s us I.kIn hl) r2 h) fun r s' hq=>?_);cases r with
 |error e=>exact hx pins σ H s e s' I hq
 |ok fl=>
  cases fl with
  |ret u=>exact I.after hq
  |next=>exact False.elim hq
  |brk=>exact False.elim hq
  |cont=>exact False.elim hq

theorem Yw(F:FnOk X.prog X.w X.K X.mg X.base CX k f fd ps sp)(hr:Room k X.A)(hg:Gl X x)(hm:X.mg x=some (.ref f))(hk:W.keepIn X.K (.ref f)=true)(hb:Binds X.K fd ps ds)(hd:Vals dvs ds)(hx:Ef CX X E)(ha:PA X (e::es) t)(hdb:(x == ("__debug__" : Str))=false:=by decide)(he:starEach (e::es) X.env=(false,eval e X.env)::starEach es X.env:=by rfl)(hpl:(backTo pos (starEach es X.env)).any (·.1)=false:=by rfl) :
  PE X (.Call (.Name x p) (e::es) [] pos) (tCall sp dvs E t):=by
 intro pins s σ H Q I h;refine wpAny_Call_Name_kw (K8 I hg hm ?_ hdb);refine W.callWith_K (h₀:=X.base) I.ok.mod.kin hk (thn (ha pos pins s σ H _ I h) fun us s1 ⟨vs,H1,I1,r,q⟩=>⟨I1.kIn,?_⟩) he hpl;exact Uh F hr hb hd hx I1 r q
structure Mk(K:W.Frag)(C f:Addr):Prop where
 makes:W.makesIn K C=true
 init:W.findIn K (.ref C) "__init__" = some (some (.ref f))
 fn:W.isFn K (.ref f)=true
 kp:W.keepIn K (.ref C)=true

theorem Vc{pins:List (Addr×Obj)}{σ:St}{H:Hp}{s:Shared}{Q:VK}{us:List Value}{vs:List V}(M:Mk X.K C f)(F:FnOk X.prog X.w X.K X.mg X.base CX k f fd ps sp)(hr:Room (k+1) X.A)(hb:Binds X.K fd ps ds)(hd:Vals dvs ds)(hx:Ef CX X E)(I:Inv X pins σ H s)(r:Vals vs us)(h:∀x dx,H x=none→H dx=none→dx≠x→sp (.ref x::(vs++dvs)) (upd (upd H dx (.own x)) x (.ins C dx [])) (fun v H2=>v=.non∧Q (.ref x) H2) E) :
  wpAny (model X.prog X.w) X.A (call (.ref C) us) (EP X pins σ Q) X.xe s:=by
 have hq:=h (s.heap.objs.size+1) s.heap.objs.size (I.hok.fresh (Nat.le_succ _)) (I.hok.fresh (Nat.le_refl _)) (Nat.ne_of_lt (Nat.lt_succ_self _));have I2:=Inv.made (C:=C) I;have r2:Vals (V.ref (s.heap.objs.size+1)::(vs++dvs)) (Value.ref (s.heap.objs.size+1)::(us++ds)):=.cons rfl (r.append hd);have hl:(Value.ref (s.heap.objs.size+1)::us++ds).length=ps.length:=by
  have e:=r2.length;rw[F.len _ _ _ _ hq] at e;exact e.symm
 refine wpAny_call (Wl (f:=f) I.kIn M.makes M.init (beq_iff_eq.mp M.fn) (codeAny_mono (F.run _ X.stack _ _ ⟨Value.ref (s.heap.objs.size+1)::us,[]⟩ (Value.ref (s.heap.objs.size+1)::(us++ds)) _ _ E (hr.make C us [])
  (I2.env0.make C us []) (hb _ (Value.ref (s.heap.objs.size+1)::us) I2.kIn hl) r2 hq) fun r s' hq'=>?_))
 cases r with
 |error e=>exact hx pins σ _ _ e s' I2 hq'
 |ok fl=>
  cases fl with
  |ret u=>
   obtain⟨v,H',I3,rv,ev,q3⟩:=I2.after hq';subst ev;exact⟨rv,⟨V.ref (s.heap.objs.size+1),H',I3,rfl,q3⟩⟩
  |next=>exact False.elim hq'
  |brk=>exact False.elim hq'
  |cont=>exact False.elim hq'
theorem Yu(M:Mk X.K C f)(F:FnOk X.prog X.w X.K X.mg X.base CX k f fd ps sp)(hr:Room (k+1) X.A)(hg:Gl X x)(hm:X.mg x=some (.ref C))(hb:Binds X.K fd ps ds)(hd:Vals dvs ds)(hx:Ef CX X E)(ha:PA X (e::es) t)(hdb:(x == ("__debug__" : Str))=false:=by decide)(he:starEach (e::es) X.env=(false,eval e X.env)::starEach es X.env:=by rfl)(hpl:(backTo pos (starEach es X.env)).any (·.1)=false:=by rfl) :
  PE X (.Call (.Name x p) (e::es) [] pos) (tMake C sp dvs E t):=by
 intro pins s σ H Q I h;refine wpAny_Call_Name_kw (K8 I hg hm ?_ hdb);refine W.callWith_K (h₀:=X.base) I.ok.mod.kin M.kp (thn (ha pos pins s σ H _ I h) fun us s1 ⟨vs,H1,I1,r,q⟩=>⟨I1.kIn,?_⟩) he hpl;exact Vc M F hr hb hd hx I1 r q
end
noncomputable def PK(X:Cx)(kws:List Keyword)(t:TA):Prop:=
 ∀(pos:Pos) (pins:List (Addr×Obj)) (s:Shared) (σ:St) (H:Hp) (Q:List V→Hp→Prop),Inv X pins σ H s→t σ H Q→wpAny (model X.prog X.w) X.A (evalAll ((backToKw pos (keywordEach kws X.env)).map (·.2))) (AP X pins σ Q) X.xe s
section
variable{X:Cx}{CX:CXT}{k:Nat}{f C:Addr}{fd:FuncData}{ps ks:List Str}{sp:Sp}{E:XK}{x m:Str}{p pos apos kpos:Pos}{e o:Expr}{es:List Expr}{kws:List Keyword}{te ta:TE}{t tk:TA}{nm:Option Str}
theorem Ac8:PK X [] Xi:=fun _ _ _ _ H Q I h=>wpAny_evalAll_nil ⟨[],H,I,.nil,h⟩
theorem Ys(ha:PE X e te)(hr:PK X kws t):PK X (⟨nm,e,kpos⟩::kws) (P6 te t):=by
 intro pos pins s σ H Q I h;show wpAny _ _ (evalAll ((do let v ←eval e X.env;standAt pos;pure v)::(backToKw pos (keywordEach kws X.env)).map (·.2))) _ _ s
 refine wpAny_evalAll_cons (wpAny_bind (thn (ha pins s σ H _ I h) fun u s1 ⟨x,H1,I1,r1,q1⟩=>wpAny_bind (wpAny_standAt (wpAny_pure ?_))));exact thn (hr pos pins s1 σ H1 _ I1 q1) fun us s2 ⟨xs,H2,I2,r2,q2⟩=>⟨x::xs,H2,I2,.cons r1 r2,q2⟩

variable{g:List Value→List Value→List Value}{gV:List V→List V→List V}
end
structure FnScope(N P:List Str)(sc:Scope):Prop where
 kind:sc.kind=.function
 co:sc.isCoroutine=false
 gen:sc.isGenerator=false
 nd:N.Nodup
 pre:N.take P.length=P
 par:∀x∈P,sc.names.lookup x=some .local∨sc.names.lookup x=some .cell
 nofree:∀y∈sc.names,y.2≠.free

theorem J8{kindOf:Str→Option NameKind}{x:Str}:∀{binds:List (Str×Value)} {m:Str→Option Value},(∀v,(x,v) ∉ binds)→bindL kindOf binds m x=m x
 |[],_,_=>rfl
 |(n,v)::r,m,h=>by
  unfold bindL;rw[J8 fun w hw=>h w (List.mem_cons_of_mem _ hw)]
  split
  ·have:x≠n:=by rintro rfl;exact h v List.mem_cons_self
   simp[this]
  ·rfl
theorem Ka{kindOf:Str→Option NameKind}{x:Str}:∀{binds:List (Str×Value)} {m:Str→Option Value},(∀v,(x,v) ∉ binds)→bindC kindOf binds m x=m x
 |[],_,_=>rfl
 |(n,v)::r,m,h=>by
  unfold bindC;rw[Ka fun w hw=>h w (List.mem_cons_of_mem _ hw)]
  split
  ·rfl
  ·have:x≠n:=by rintro rfl;exact h v List.mem_cons_self
   simp[this]
theorem J9{kindOf:Str→Option NameKind}{x:Str}{v:Value}:∀{P:List Str} {vs:List Value} {i:Nat} {m:Str→Option Value},P.Nodup→P[i]? = some x→vs[i]? = some v→kindOf x=some .local→
  bindL kindOf (P.zip vs) m x=some v
 |[],_,_,_,_,h,_,_=>by simp at h
 |_::_,[],_,_,_,_,h,_=>by simp at h
 |p::P,w::vs,0,m,nd,h1,h2,hk=>by
  simp at h1 h2;subst h1;subst h2;show bindL kindOf ((p,w)::P.zip vs) m p=_;unfold bindL;rw[J8 fun v hv=>(List.nodup_cons.mp nd).1 (List.of_mem_zip hv).1,if_pos hk];simp
 |p::P,w::vs,i+1,m,nd,h1,h2,hk=>by
  show bindL kindOf ((p,w)::P.zip vs) m x=_;unfold bindL;exact J9 (i:=i) (List.nodup_cons.mp nd).2 (by simpa using h1) (by simpa using h2) hk
theorem Kb{kindOf:Str→Option NameKind}{x:Str}{v:Value}:∀{P:List Str} {vs:List Value} {i:Nat} {m:Str→Option Value},P.Nodup→P[i]? = some x→vs[i]? = some v→kindOf x≠some .local→
  bindC kindOf (P.zip vs) m x=some v
 |[],_,_,_,_,h,_,_=>by simp at h
 |_::_,[],_,_,_,_,h,_=>by simp at h
 |p::P,w::vs,0,m,nd,h1,h2,hk=>by
  simp at h1 h2;subst h1;subst h2;show bindC kindOf ((p,w)::P.zip vs) m p=_;unfold bindC;rw[Ka fun v hv=>(List.nodup_cons.mp nd).1 (List.of_mem_zip hv).1,if_neg hk];simp
 |p::P,w::vs,i+1,m,nd,h1,h2,hk=>by
  show bindC kindOf ((p,w)::P.zip vs) m x=_;unfold bindC;exact Kb (i:=i) (List.nodup_cons.mp nd).2 (by simpa using h1) (by simpa using h2) hk

noncomputable def start(N:List Str)(vs:List V):St:=vs.map some++List.replicate (N.length-vs.length) none

noncomputable def Kh(CX:CXT)(P:Program)(w:World)(K:W.Frag)(mg:Str→Option Value)(base:Heap)(N:List Str)(qual:Str)(scope:Scope)(f:Addr)(cd:Value)(A:Around)(outer:List Env)(s:Shared)(H:Hp)(E:XK):Cx where
 prog:=P
 w:=w
 K:=K
 mg:=mg
 base:=base
 A:=A.deeper (envOfC qual scope s.heap.objs.size f cd)
 N:=N
 s₀:=s
 H₀:=H
 env:=envOfC qual scope s.heap.objs.size f cd
 outer:=outer
 stack:=envOfC qual scope s.heap.objs.size f cd::outer
 ex:=[]
 calm:=true
 fn:=fun _=>true
 pn:=[]
 xe:=fun e s'=>wpAny (model P w) (A.deeper (envOfC qual scope s.heap.objs.size f cd)) (leaving (envOfC qual scope s.heap.objs.size f cd) e) (fun _ s''=>CX outer H s E e s'') (fun e' s''=>CX outer H s E e' s'') s'

theorem Nf{sc:Scope}{n:Nat}{x:Str}(h:sc.names.lookup x=some .cell):∃c,(cellsFrom n sc.names []).lookup x=some c:=by
 have q:=W.cellsFrom_some sc.names n [] (.inl h);exact Option.isSome_iff_exists.mp q

theorem S8{CX:CXT}{P:Program}{w:World}{K:W.Frag}{mg:Str→Option Value}{base:Heap}{N ps:List Str}{qual:Str}{scope:Scope}{f:Addr}{cd:Value}{A:Around}{outer:List Env}{s s1:Shared}{H:Hp}{E:XK}{us:List Value}{vs:List V}(S:FnScope N ps scope)(hd:A.handled=none)(e0:Env0 P w K mg base A outer s H)(hl:vs.length=ps.length)(r:Vals vs us)(x:InCallC s s.heap.objs.size (bindL (envOfC qual scope s.heap.objs.size f cd).kindOf (ps.zip us) fun _=>none) (cellsFrom (s.heap.objs.size+1) scope.names []) (bindC (envOfC qual scope s.heap.objs.size f cd).kindOf (ps.zip us) fun _=>none) s1) :
  Inv (Kh CX P w K mg base N qual scope f cd A outer s H E) [] (start N vs) H s1:=by
 have hpl:ps.length≤N.length:=by have:=congrArg List.length S.pre;rw[List.length_take] at this;omega
 obtain⟨h1,tk,rfl,hk⟩:=x.done;have noA:∀b:Addr,b ∉ (Kh CX P w K mg base N qual scope f cd A outer s H E).ex:=fun b z=>absurd (show b∈([]:List Addr) from z) (by simp)
 refine⟨⟨e0.mod,S.kind,rfl,rfl,Nat.le_refl _,fun y z c h1 h2=>?_,fun y hy=>?_,fun y c _ h=>?_,fun _=>hd,Around.frames_deeper e0.frames,.inr ⟨rfl,rfl⟩,fun b z=>absurd z (noA b),e0.bs,e0.bsz,fun b _ _=>noA b,fun b z=>absurd z (noA b),e0.funs,e0.frf⟩,
  rfl,e0.bare,Un.kept hk,⟨_,x.toInCall.ns,fun i y v h1 h2 h3=>?_⟩,fun y c h=>⟨_,x.cell y c h⟩,e0.hok.fresh (Nat.le_refl _),fun y c h=>?_,fun p hp=>absurd (show p∈([]:List (Addr×Obj)) from hp) (by simp),e0.hok.kept hk,?_⟩
 ·exact name_of_addr x.apart (PySem.mem_of_lookup h1) (PySem.mem_of_lookup h2)
 ·have hy:scope.names.lookup y=some .cell∨scope.names.lookup y=some .free:=hy;rcases hy with hy|hy
  ·exact Nf hy
  ·exact absurd rfl (S.nofree _ (PySem.mem_of_lookup hy))
 ·exact Nat.le_of_lt (x.above y c (PySem.mem_of_lookup h))
 ·have hi:i<vs.length:=by
   unfold start at h2
   by_cases hi:i<vs.length
   ·exact hi
   ·rw[List.getElem?_append_right (by simpa using hi)] at h2
    rw[List.getElem?_replicate] at h2
    split at h2<;>cases h2
  have ha:vs[i]? = some v:=by
   unfold start at h2;rw[List.getElem?_append_left (by simpa using hi),List.getElem?_map] at h2
   cases e:vs[i]? with
   |none=>rw[e] at h2;cases h2
   |some a=>rw[e] at h2;cases h2;rfl
  obtain⟨u,hu,rv⟩:=r.get ha;have hp:ps[i]? = some y:=by
   rw[←S.pre,List.getElem?_take_of_lt (by omega)];exact h1
  have ndP:ps.Nodup:=by rw[←S.pre];exact S.nd.sublist (List.take_sublist _ _)
  refine⟨u,rv,?_⟩;rcases S.par y (List.mem_of_getElem? hp) with k|k
  ·exact .inl ⟨k,J9 ndP hp hu k⟩
  ·obtain⟨c,e⟩:=Nf (n:=s.heap.objs.size+1) k;refine .inr ⟨.inl k,c,e,?_⟩;have q:=x.cell y c e;rw[Kb ndP hp hu (by show scope.names.lookup y≠_;rw[k];decide)] at q
   exact q
 ·exact e0.hok.fresh (Nat.le_of_lt (x.above y c (PySem.mem_of_lookup h)))
 ·unfold start;show _=N.length;rw[List.length_append,List.length_map,List.length_replicate];omega

theorem Abb{CX:CXT}{P:Program}{w:World}{K:W.Frag}{mg:Str→Option Value}{base:Heap}{k:Nat}{f:Addr}{name qual:Str}{params:Arguments}{body:List Stmt}{scope:Scope}{dV kV doc pm cdv ct oc:Value}{an od:Option Addr}{osl:Array (Option Value)}{N ps:List Str}{sp:Sp}(lk:K.lookup f=some ⟨oc,od,.func (W.fnOf name qual params body scope dV kV doc pm an cdv ct),osl⟩)(hcd:W.codeIn K cdv qual=true)(S:FnScope N ps scope)(len:∀vs H Q E,sp vs H Q E→vs.length=ps.length)(hbody:∀(A:Around) (outer:List Env) (s:Shared) (H:Hp) (vs:List V) (Q:VK) (E:XK),Room k (A.deeper (envOfC qual scope s.heap.objs.size f cdv))→sp vs H Q E→
   ∃t,PSs (Kh CX P w K mg base N qual scope f cdv A outer s H E) body t∧t { nx:=fun _ H'=>Q .non H',rt:=Q } (start N vs) H) :
  FnOk P w K mg base CX (k+1) f (W.fnOf name qual params body scope dV kV doc pm an cdv ct) ps sp:=by
 refine⟨len,fun A outer s H args us vs Q E hr e0 hb r hsp=>?_⟩;have hl:=len _ _ _ _ hsp;have KX:K.In s.heap:=e0.mod.kin.keeps fun b o e=>(e0.bs b o e).1;have lim:s.heap.NoLimit:=e0.mod.nolimit.keeps fun b o e=>(e0.bs b o e).1;have hkind:∀y∈ps.zip us,scope.names.lookup y.1=some .local∨(scope.names.lookup y.1=some .cell∧((cellsFrom (s.heap.objs.size+1) scope.names []).lookup y.1).isSome=true):=fun zz hy=>by
  obtain⟨n,v⟩:=zz;rcases S.par n (List.of_mem_zip hy).1 with q|q
  ·exact .inl q
  ·exact .inr ⟨q,W.cellsFrom_some _ _ _ (.inl q)⟩
 refine codeAny_call_function hr.depth (KX _ _ lk) rfl S.co S.gen rfl (W.codeRec_of KX hcd) (hb _ _ _ _ ?_);refine wpAny_newFunctionEnv_cells S.kind hkind fun env he s1 x=>?_;subst he;refine⟨lim.keeps x.toInCall.keep,codeAny_func ?_⟩;obtain⟨t,ht,hq⟩:=hbody A outer s H vs Q E (hr.deeper _) hsp;have I:Inv (Kh CX P w K mg base N qual scope f cdv A outer s H E) [] (start N vs) H s1:=S8 S hr.hd e0 hl r x;refine wpAny_mono (ht [] s1 (start N vs) H _ I hq) (fun fl s' hs=>?_) fun e s' hs=>hs;have fin:∀{σ':St} {H':Hp} {v:V} {u:Value},Inv (Kh CX P w K mg base N qual scope f cdv A outer s H E) [] σ' H' s'→RelV v u→Q v H'→CE outer P w H s Q u s':=
  fun {σ' H' v u} J rv q=>⟨v,H',J.os,J.bare,J.base,J.hok,rv,q⟩
 cases fl with
 |ret u=>
  obtain⟨v,σ',H',J,rv,q⟩:=hs;exact fin J rv q
 |next=>
  obtain⟨σ',H',J,q⟩:=hs;exact fin (v:=V.non) (u:=Value.none) J rfl q
 |brk=>
  obtain⟨_,_,_,q⟩:=hs;exact False.elim q
 |cont=>
  obtain⟨_,_,_,q⟩:=hs;exact False.elim q
end L2
namespace L2
open PySem PySem.Spec PyProof.Rows
section
variable{X:Cx}{x:Str}{p pos:Pos}{e:Expr}{es:List Expr}{t:TA}{id T:String}{r:List V→Hp→VK→Prop}
noncomputable def tCB(r:List V→Hp→VK→Prop)(t:TA):TE:=fun σ H Q=>t σ H fun vs H1=>r vs H1 Q
theorem V5(hc:CallR X (.builtin id) r)(hg:Gl X x)(hm:X.mg x=none)(hv:bootBuiltins x=some (.builtin id))(ha:PA X (e::es) t)(hn:x≠"__name__":=by decide)(hdb:(x == ("__debug__" : Str))=false:=by decide)(he:starEach (e::es) X.env=(false,eval e X.env)::starEach es X.env:=by rfl)(hpl:(backTo pos (starEach es X.env)).any (·.1)=false:=by rfl):PE X (.Call (.Name x p) (e::es) [] pos) (tCB r t):=by
 intro pins s σ H Q I h;refine wpAny_Call_Name_kw (Ha I hg hm hv ?_ hn hdb);exact PyProof.Rows.callWith_builtin1 (thn (ha pos pins s σ H _ I h) fun us s1 ⟨vs,H1,I1,r1,q1⟩=>hc pins s1 σ H1 vs us Q I1 r1 q1) he hpl
theorem R8(hc:CallR X (.type T) r)(hg:Gl X x)(hm:X.mg x=none)(hv:bootBuiltins x=some (.type T))(ha:PA X (e::es) t)(hn:x≠"__name__":=by decide)(hdb:(x == ("__debug__" : Str))=false:=by decide)(he:starEach (e::es) X.env=(false,eval e X.env)::starEach es X.env:=by rfl)(hpl:(backTo pos (starEach es X.env)).any (·.1)=false:=by rfl):PE X (.Call (.Name x p) (e::es) [] pos) (tCB r t):=by
 intro pins s σ H Q I h;refine wpAny_Call_Name_kw (Ha I hg hm hv ?_ hn hdb);exact PyProof.Rows.callWith_type1 (thn (ha pos pins s σ H _ I h) fun us s1 ⟨vs,H1,I1,r1,q1⟩=>hc pins s1 σ H1 vs us Q I1 r1 q1) he hpl
end
end L2
namespace HT
open PySem PyProof.Rows
section
open PySem.SeqAt
open PySem.AutoSeq1 (wpAny_loadPart')
open PySem.MeetsSeq PySem.MeetsSeq2 PySem.MeetsSeq3
end
section
variable{prog:Program}{w:World}{A:Around}{E:Value→Shared→Prop}{s:Shared}
theorem cat_tup{t b:Addr}{vs ws:List Value}{Q:Value→Shared→Prop}(ht:IsTup s.heap t vs.toArray)(hb:IsTup s.heap b ws.toArray)(hv:vs≠[])(h1:ws=[]→Q (.ref t) s)(h2:ws≠[]→Q (.ref s.heap.objs.size) { s with heap:=s.heap.push { cls:=.type "tuple",data:=.seq (vs++ws).toArray } })(hsz:vs.length+ws.length≤sizeLine):wpAny (model prog w) A (binaryOp .Add (.ref t) (.ref b)) Q E s:=by
 obtain⟨⟨cls,dd,data,sl⟩,ho,hc,n,hd⟩:=id ht;obtain⟨⟨cls2,dd2,data2,sl2⟩,ho2,hc2,n2,hd2⟩:=id hb;simp only at hc hd hc2 hd2;subst hc hd hc2 hd2;have e:vs.toArray++ws.toArray=(vs++ws).toArray:=by simp
 by_cases hw:ws=[]
 ·exact concat_meets ⟨_,ho,rfl⟩ ⟨_,ho2,rfl⟩ noFill_tuple_add seq_tuple_add PySem.F.slot_tuple_add PySem.F.entry_tuple_add (PySem.F.args_tuple_add_2 _ _)
   (tuple_addW1 t b vs.toArray ws.toArray n n2 dd dd2 sl sl2 (by simpa using hv) (by simp[hw])) ⟨ho,ho2,h1 hw⟩
 ·refine concat_meets ⟨_,ho,rfl⟩ ⟨_,ho2,rfl⟩ noFill_tuple_add seq_tuple_add PySem.F.slot_tuple_add PySem.F.entry_tuple_add (PySem.F.args_tuple_add_2 _ _)
   (tuple_addW2 t b vs.toArray ws.toArray n n2 dd dd2 sl sl2 (by simpa using hv) (by simpa using hw) (by rw[List.size_toArray,List.size_toArray];exact hsz)) ⟨ho,ho2,?_⟩
  rw[e];exact h2 hw

noncomputable def sIx(n d:Nat):Option Int→Nat
 |none=>d
 |some v=>if v<0 then (v+(n:Int)).toNat else min v.toNat n
theorem Ace(n d:Nat)(hd:d≤n)(o:Option Int):sIx n d o≤n:=by
 cases o with
 |none=>exact hd
 |some v=>
  show(if v<0 then (v+(n:Int)).toNat else min v.toNat n)≤n
  by_cases hv:v<0
  ·rw[if_pos hv];omega
  ·rw[if_neg hv];exact Nat.min_le_right _ _
theorem Rh(v:Int)(n d:Nat):(if v<0 then max (v+(n:Int)) 0 else min v (n:Int))=((sIx n d (some v):Nat):Int):=by
 show(if v<0 then max (v+(n:Int)) 0 else min v (n:Int))=(((if v<0 then (v+(n:Int)).toNat else min v.toNat n):Nat):Int)
 by_cases hv:v<0
 ·simp only[if_pos hv];omega
 ·simp only[if_neg hv];omega
theorem Py(lo hi:Option Int)(n:Nat):Builtin.Slice.sliceAdjust lo hi 1 (n:Int)=(((sIx n 0 lo:Nat):Int),((sIx n n hi:Nat):Int)):=by
 have h1:¬((1:Int)<0):=by omega
 unfold Builtin.Slice.sliceAdjust;simp only[h1,if_false];refine Prod.ext ?_ ?_
 ·cases lo with
  |none=>rfl
  |some v=>exact Rh v n 0
 ·cases hi with
  |none=>rfl
  |some v=>exact Rh v n n
theorem O8(i j:Nat):Builtin.Slice.slicePlaces (i:Int) (j:Int) 1=j-i:=by
 unfold Builtin.Slice.slicePlaces;have h1:(1:Int)>0:=by omega
 simp only[h1,if_true,Int.ediv_one]
 split<;>omega
theorem Hu{v:Value}{o:Option Int}{Q:Option Int→Shared→Prop}(p:IsPart v o)(h:Q o s):wpAny (model prog w) A (Builtin.Slice.slicePartIndex v) Q E s:=by
 cases p with
 |none=>exact slicePart_none h
 |int i t=>exact slicePart_int h
theorem sliceApplied_gen{sl:Addr}{vl vu:Value}{lo hi:Option Int}{n:Nat}{Q:Int×Int×Nat→Shared→Prop}(hs:s.heap.IsSliceOf sl vl vu .none)(pl:IsPart vl lo)(pu:IsPart vu hi)(h:Q (((sIx n 0 lo:Nat):Int),1,sIx n n hi-sIx n 0 lo) s):wpAny (model prog w) A (Builtin.Slice.sliceApplied (.ref sl) (pure (n:Int))) Q E s:=by
 obtain⟨os,hos,hcs,hds⟩:=id hs;unfold Builtin.Slice.sliceApplied Builtin.Slice.sliceFields;refine wpAny_bind (wpAny_bind (wpAny_field hos hds (x:=vl) rfl (wpAny_bind (wpAny_field hos hds (x:=vu) rfl (wpAny_bind (wpAny_field hos hds (x:=.none) rfl (wpAny_pure ?_)))))));refine wpAny_bind (slicePart_none ?_);show wpAny _ _ (if ((1:Int) == 0)=true then _ else _) _ _ s;rw[if_neg (by decide)]
 refine wpAny_bind (Hu pl (wpAny_bind (Hu pu (wpAny_bind (wpAny_pure ?_)))));show wpAny _ _ (match Builtin.Slice.sliceAdjust lo hi 1 (n:Int) with|(lo,hi)=>pure (lo,(1:Int),Builtin.Slice.slicePlaces lo hi 1)) _ _ s
 rw[Py lo hi n];show wpAny _ _ (pure (((sIx n 0 lo:Nat):Int),(1:Int),Builtin.Slice.slicePlaces ((sIx n 0 lo:Nat):Int) ((sIx n n hi:Nat):Int) 1)) _ _ s;rw[O8];exact wpAny_pure h
theorem Vv(xs:Array Value)(i k:Nat):((List.range k).filterMap fun(m:Nat)=>xs[((i:Int)+(m:Int)*1).toNat]?).toArray=((xs.toList.drop i).take k).toArray:=by
 have e:(fun(m:Nat)=>xs[((i:Int)+(m:Int)*1).toNat]?)=fun m=>xs[i+m]?:=by
  funext m
  have:((i:Int)+(m:Int)*1).toNat=i+m:=by omega
  rw[this]
 rw[e]
 have:=pick_run xs i k
 rw[List.filterMap_map] at this;have e2:((fun x=>xs[x]?) ∘ fun x=>i+x)=fun m=>xs[i+m]?:=rfl;rw[e2] at this;rw[this]

theorem getItem_tuple_cut{t sl:Addr}{items:Array Value}{vl vu:Value}{lo hi:Option Int}{Q:Value→Shared→Prop}(ht:IsTup s.heap t items)(hs:s.heap.IsSliceOf sl vl vu .none)(pl:IsPart vl lo)(pu:IsPart vu hi)(hw:¬(sIx items.size 0 lo=0∧sIx items.size items.size hi=items.size))(h:Q (.ref s.heap.objs.size) { s with heap:=s.heap.push { cls:=.type "tuple",data:=.seq ((items.toList.drop (sIx items.size 0 lo)).take (sIx items.size items.size hi-sIx items.size 0 lo)).toArray } })(hsz:items.size≤sizeLine):wpAny (model prog w) A (getItem (.ref t) (.ref sl)) Q E s:=by
 have htake:sizeOk (.seq ((items.toList.drop (sIx items.size 0 lo)).take (sIx items.size items.size hi-sIx items.size 0 lo)).toArray):=by
  show((items.toList.drop (sIx items.size 0 lo)).take (sIx items.size items.size hi-sIx items.size 0 lo)).toArray.size≤sizeLine;rw[List.size_toArray,List.length_take,List.length_drop,Array.length_toList];omega
 have hj:sIx items.size items.size hi≤items.size:=Ace _ _ (Nat.le_refl _) hi;obtain⟨os,hos,hcs,hds⟩:=id hs;have hTs:s.TypeIs (.ref sl) "slice":=⟨os,hos,hcs⟩;unfold getItem
 try with_reducible refine wpAny_holding ?_
 first|refine wpAny_bind (wpAny_pure ?_)|skip
 refine wpAny_bind (wpAny_sequenceKey ht.typeIs (by decide) ?_)
 refine wpAny_bind (wpAny_callSpecial?_slot (name:=Str.ofString "__getitem__") ht.typeIs PyProof.Rows.slot_tuple_getitem
  (wpAny_call_entry PyProof.Rows.slot_tuple_getitem ht.typeIs entry_tuple_getitem ?_ (args_tuple_getitem _ _)))
 show wpAny _ _ (Builtin.Tuple.tupleItemsOf (.ref t) >>= _) _ _ s;refine wpAny_bind (tupleItemsOf_ ht ?_);refine wpAny_bind (wpAny_typeOf hTs ?_);rw[if_pos (by decide)]
 refine wpAny_bind (sliceApplied_gen hs pl pu ?_);have hno:¬((((sIx items.size 0 lo:Nat):Int) == 0&&(1:Int) == 1&&(sIx items.size items.size hi-sIx items.size 0 lo) == items.size)=true):=by
  intro q;rw[Bool.and_eq_true,Bool.and_eq_true] at q;have q1:((sIx items.size 0 lo:Nat):Int)=0:=eq_of_beq q.1.1;have q2:sIx items.size items.size hi-sIx items.size 0 lo=items.size:=eq_of_beq q.2;exact hw ⟨by omega,by omega⟩
 show wpAny _ _ (if (((sIx items.size 0 lo:Nat):Int) == 0&&(1:Int) == 1&&(sIx items.size items.size hi-sIx items.size 0 lo) == items.size)=true then _ else _) _ _ s;rw[if_neg hno,Vv]
 first
  |exact wpAny_bind (m:=Builtin.Tuple.tupleExact _) (wpAny_newObj_type (wpAny_pure ⟨_,rfl,wpAny_pure h⟩) htake)
  |exact wpAny_bind (m:=Builtin.Tuple.tupleExact _) (wpAny_newObj_type (wpAny_bind (wpAny_pure (wpAny_pure ⟨_,rfl,wpAny_pure h⟩))) htake)
  |exact wpAny_bind (wpAny_bind (m:=Builtin.Tuple.tupleExact _) (wpAny_newObj_type (wpAny_pure (wpAny_pure ⟨_,rfl,wpAny_pure h⟩)) htake))
  |exact wpAny_bind (wpAny_bind (m:=Builtin.Tuple.tupleExact _) (wpAny_newObj_type (wpAny_pure ⟨_,rfl,wpAny_pure h⟩) htake))
end
end HT
namespace L2
open PySem PySem.Spec PyProof.Rows
noncomputable abbrev TO:=St→Hp→(Option Int→Hp→Prop)→Prop
noncomputable def PO(X:Cx)(e:Option Expr)(t:TO):Prop:=
 ∀(pins:List (Addr×Obj)) (s:Shared) (σ:St) (H:Hp) (Q:Option Int→Hp→Prop),Inv X pins σ H s→t σ H Q→
  wpAny (model X.prog X.w) X.A (evalPart e X.env) (fun u s'=>∃o H',Inv X pins σ H' s'∧IsPart u o∧Q o H') X.xe s
noncomputable def Xw:TO:=fun _ H Q=>Q none H
noncomputable def tPart(t:TE):TO:=fun σ H Q=>t σ H fun x H1=>∃i,x=.int i∧Q (some i) H1

section
variable{X:Cx}{e:Expr}{te:TE}{lo hi:Option Expr}{tl th:TO}{pos p2:Pos}
theorem po_none:PO X none Xw:=by
 intro pins s σ H Q I h;rw[evalPart_none];exact wpAny_pure ⟨none,H,I,.none,h⟩
theorem Yr(h:PE X e te):PO X (some e) (tPart te):=by
 intro pins s σ H Q I hw;rw[evalPart_some];refine thn (h pins s σ H _ I hw) fun u s1 zz=>?_;obtain⟨x,H1,I1,r1,q1⟩:=zz;obtain⟨i,rfl,q⟩:=q1;obtain⟨t,rfl⟩:=r1;exact⟨some i,H1,I1,.int i t,q⟩

noncomputable def SlR(X:Cx)(r:V→Option Int→Option Int→Hp→VK→Prop):Prop:=
 ∀(pins:List (Addr×Obj)) (s:Shared) (σ:St) (H:Hp) (x:V) (v vl vu:Value) (lo hi:Option Int) (sl:Addr) (Q:VK),Inv X pins σ H s→RelV x v→s.heap.IsSliceOf sl vl vu .none→IsPart vl lo→IsPart vu hi→r x lo hi H Q→
  ∃T id,typeLookup (.type T) "__getitem__" = pure (some (.builtin id))∧s.TypeIs v T∧wpAny (model X.prog X.w) X.A (getItem v (.ref sl)) (EP X pins σ Q) X.xe s
noncomputable def tSl(r:V→Option Int→Option Int→Hp→VK→Prop)(te:TE)(tl th:TO):TE:=fun σ H Q=>te σ H fun x H1=>tl σ H1 fun l H2=>th σ H2 fun u H3=>r x l u H3 Q
theorem Vx{r:V→Option Int→Option Int→Hp→VK→Prop}(hr:SlR X r)(he:PE X e te)(hl:PO X lo tl)(hu:PO X hi th):PE X (.Subscript e (.Slice lo hi none p2) pos) (tSl r te tl th):=by
 intro pins s σ H Q I h;refine Subscript_ (thn (he pins s σ H _ I h) fun v s1 zz=>?_);obtain⟨x,H1,I1,r1,q1⟩:=zz;refine wpAny_Slice (thn (hl pins s1 σ H1 _ I1 q1) fun vl s2 ⟨l,H2,I2,pl,q2⟩=>thn (hu pins s2 σ H2 _ I2 q2) fun vu s3 ⟨u,H3,I3,pu,q3⟩=>?_);rw[evalPart_none];refine wpAny_pure ?_;have I4:Inv X pins σ H3 { s3 with heap:=s3.heap.push { cls:=.type "slice",data:=.fields #[vl,vu,.none] } }:=I3.kept (t':=s3.toks) fun b ob q=>Heap.get?_push_of_some _ q;obtain⟨T,id,hT,ht,hg⟩:=hr pins { s3 with heap:=s3.heap.push { cls:=.type "slice",data:=.fields #[vl,vu,.none] } } σ H3 x v vl vu l u s3.heap.objs.size Q I4 r1 (Heap.IsSliceOf.new ..) pl pu q3;show wpAny (model X.prog X.w) X.A (subscriptTail e (.Slice lo hi none p2) v (.ref s3.heap.objs.size)) (EP X pins σ Q) X.xe { s3 with heap:=s3.heap.push { cls:=.type "slice",data:=.fields #[vl,vu,.none] } };exact tail_any (ops:=[.ref s3.heap.objs.size,v]) ht hT hg (by with_unfolding_all rfl)

noncomputable def Me(xs:List V)(lo hi:Option Int):List V:=(xs.drop (HT.sIx xs.length 0 lo)).take (HT.sIx xs.length xs.length hi-HT.sIx xs.length 0 lo)
theorem F9(xs:List V)(lo hi:Option Int):(Me xs lo hi).length≤xs.length:=by
 unfold Me;rw[List.length_take,List.length_drop];omega
noncomputable def rSlT(K:W.Frag):V→Option Int→Option Int→Hp→VK→Prop:=fun x lo hi H Q=>∃a xs,x=.ref a∧SqT K H a xs∧
 ¬(HT.sIx xs.length 0 lo=0∧HT.sIx xs.length xs.length hi=xs.length)∧∀p,H p=none→Q (.ref p) (upd H p (.tup (Me xs lo hi)))
theorem Acb:SlR X (rSlT X.K):=by
 intro pins s σ H x v vl vu lo hi sl Q I rx hs pl pu h;obtain⟨a,xs,rfl,hx,hw,q⟩:=h;cases rx;obtain⟨its,r,ht,hz⟩:=I.tuple hx;have hlen:its.toArray.size=xs.length:=by rw[List.size_toArray];exact r.length.symm
 refine⟨"tuple",_,PyProof.Rows.slot_tuple_getitem.lookup,ht.typeIs,?_⟩;refine HT.getItem_tuple_cut ht hs pl pu (by rw[hlen];exact hw) ?_ (by rw[hlen];exact hz)
 rw[hlen];refine⟨.ref s.heap.objs.size,_,I.laid (t':=s.toks) (o:=.tup (Me xs lo hi)) (fun b ob q=>Heap.get?_push_of_some _ q) (Nat.le_refl _) ?_,rfl,q _ (I.hok.fresh (Nat.le_refl _))⟩;exact⟨Nat.le_trans (F9 xs lo hi) hz,_,(r.drop (HT.sIx xs.length 0 lo)).take (HT.sIx xs.length xs.length hi-HT.sIx xs.length 0 lo),IsTup.new _ _⟩

noncomputable def rCatT(K:W.Frag):R2:=fun x y H Q=>∃a b xs ys,x=.ref a∧y=.ref b∧SqT K H a xs∧SqT K H b ys∧xs≠[]∧xs.length+ys.length≤sizeLine∧
 (ys=[]→Q (.ref a) H)∧(ys≠[]→∀p,H p=none→Q (.ref p) (upd H p (.tup (xs++ys))))
theorem Vals.nil_iff{xs:List V}{us:List Value}(r:Vals xs us):us=[]↔xs=[]:=by
 cases r with
 |nil=>simp
 |cons _ _=>simp
theorem Y0:OpR X (binaryOp .Add) (rCatT X.K):=by
 intro pins s σ H x y v u Q I rx ry h;obtain⟨a,b,xs,ys,rfl,rfl,ha,hb,hx,hz,q1,q2⟩:=h;cases rx;cases ry;obtain⟨its,r1,p1,_⟩:=I.tuple ha;obtain⟨its2,r2,p2,_⟩:=I.tuple hb;refine HT.cat_tup p1 p2 (fun z=>hx (r1.nil_iff.mp z)) (fun z=>⟨.ref a,H,I,rfl,q1 (r2.nil_iff.mp z)⟩) (fun z=>?_) (by rw[←r1.length,←r2.length];exact hz)
 refine⟨.ref s.heap.objs.size,_,I.laid (t':=s.toks) (o:=.tup (xs++ys)) (fun b ob q=>Heap.get?_push_of_some _ q) (Nat.le_refl _) ?_,rfl,q2 (fun w=>z (r2.nil_iff.mpr w)) _ (I.hok.fresh (Nat.le_refl _))⟩;exact⟨by rw[List.length_append];exact hz,_,r1.append r2,IsTup.new _ _⟩
end
end L2
namespace L2
open PySem PySem.Spec PyProof.Rows
noncomputable def ixN(n:Nat)(i:Int):Option Nat:=if 0≤i then (if i<n then some i.toNat else none) else if -(n:Int)≤i then some (i+n).toNat else none
noncomputable def atI{α:Type}(xs:List α)(i:Int):Option α:=(ixN xs.length i).bind fun j=>xs[j]?
theorem Q7{n:Nat}{i:Int}{j:Nat}(h:ixN n i=some j):seqIndex? i n=some j∧j<n∧-(n:Int)≤i∧i<n:=by
 unfold ixN at h
 by_cases h0:0≤i
 ·rw[if_pos h0] at h
  by_cases h1:i<n
  ·rw[if_pos h1] at h;have e:i.toNat=j:=Option.some.inj h;exact⟨by rw[seqIndex_of h0 h1,e],by omega,by omega,h1⟩
  ·rw[if_neg h1] at h;cases h
 ·rw[if_neg h0] at h
  by_cases h1 : -(n:Int)≤i
  ·rw[if_pos h1] at h;have e:(i+n).toNat=j:=Option.some.inj h;exact⟨by rw[seqIndex_neg (by omega) h1,e],by omega,h1,by omega⟩
  ·rw[if_neg h1] at h;cases h
theorem Ld{α:Type}{xs:List α}{i:Int}{v:α}(h:atI xs i=some v):∃j,seqIndex? i xs.length=some j∧xs[j]? = some v∧j<xs.length∧-(xs.length:Int)≤i∧i<xs.length:=by
 unfold atI at h;cases e:ixN xs.length i with
 |none=>rw[e] at h;cases h
 |some j=>
  rw[e] at h;obtain⟨h1,h2,h3,h4⟩:=Q7 e;exact⟨j,h1,h,h2,h3,h4⟩
theorem B5{α:Type}{xs:List α}{j:Nat}{v:α}(h:xs[j]? = some v):atI xs (j:Int)=some v:=by
 have hj:j<xs.length:=(List.getElem?_eq_some_iff.mp h).1;have e:ixN xs.length (j:Int)=some j:=by
  unfold ixN;rw[if_pos (by omega),if_pos (by omega)];simp
 unfold atI;rw[e];exact h
noncomputable def Ri(b:Expr):Prop:=∀o i,subscripted b false o i=operate [o,i] (getItem o i)
noncomputable def IxR(X:Cx)(r:R2):Prop:=
 ∀(value slice:Expr) (pins:List (Addr×Obj)) (s:Shared) (σ:St) (H:Hp) (x y:V) (v u:Value) (Q:VK),Inv X pins σ H s→RelV x v→RelV y u→r x y H Q→
  subscripted slice false v u=operate [v,u] (getItem v u)→wpAny (model X.prog X.w) X.A (subscriptTail value slice v u) (EP X pins σ Q) X.xe s
noncomputable def MtR(X:Cx)(id:String)(r:V→List V→Hp→VK→Prop):Prop:=
 ∀(pins:List (Addr×Obj)) (s:Shared) (σ:St) (H:Hp) (x:V) (xs:List V) (v:Value) (us:List Value) (Q:VK),Inv X pins σ H s→RelV x v→Vals xs us→r x xs H Q→
  wpAny (model X.prog X.w) X.A (call (.builtin id) (v::us)) (EP X pins σ Q) X.xe s
section
variable{X:Cx}{a b:Expr}{ta tb:TE}{pos:Pos}
theorem IxR.or{r r':R2}(h:IxR X r)(h':IxR X r'):IxR X (fun x y H Q=>r x y H Q∨r' x y H Q):=by
 intro value slice pins s σ H x y v u Q I rx ry q hs;rcases q with q|q
 ·exact h value slice pins s σ H x y v u Q I rx ry q hs
 ·exact h' value slice pins s σ H x y v u Q I rx ry q hs
theorem pe_ix{r:R2}(hr:IxR X r)(ha:PE X a ta)(hb:PE X b tb)(hs:Ri b):PE X (.Subscript a b pos) (tOp r ta tb):=by
 intro pins s σ H Q I h;exact Subscript_ (binT ha hb I h fun v u s2 x y H2 I2 rx ry q=>hr a b pins s2 σ H2 x y v u Q I2 rx ry q (hs _ _))

noncomputable def rIxL(K:W.Frag):R2:=fun x y H Q=>∃p xs i v,x=.ref p∧y=.int i∧SqL K H p xs∧atI xs i=some v∧Q v H
noncomputable def rIxT(K:W.Frag):R2:=fun x y H Q=>∃p xs i v,x=.ref p∧y=.int i∧SqT K H p xs∧atI xs i=some v∧Q v H
noncomputable def rIxS:R2:=fun x y H Q=>∃z i c,x=.str z∧y=.int i∧z.length≤sizeLine∧atI z.cps.toList i=some c∧Q (.str ⟨#[c]⟩) H
theorem ix_list:IxR X (rIxL X.K):=by
 intro value slice pins s σ H x y v u Q I rx ry h hs;obtain⟨p,xs,i,z,rfl,rfl,hq,he,q⟩:=h;cases rx;obtain⟨t,rfl⟩:=ry;obtain⟨its,r,pl,hz⟩:=I.list hq;obtain⟨j,h1,h2,h3,h4,h5⟩:=Ld he;obtain⟨w,ew,rw'⟩:=r.get h2;have hl:=r.length;have hn:=Fe;have fin:EP X pins σ Q w s:=⟨z,H,I,rw',q⟩
 by_cases h0:0≤i
 ·have hj:i.toNat=j:=by
   rw[seqIndex_of h0 h5] at h1;exact Option.some.inj h1
  exact item_listR pl.isList h0 (by omega) (by rw[hj];simpa using ew) fin hs
 ·have hj:(i+(its.toArray.size:Int)).toNat=j:=by
   rw[seqIndex_neg (by omega) h4] at h1
   rw[List.size_toArray,←hl];exact Option.some.inj h1
  exact subscriptTail_builtinR (x:=w) pl.isList.typeIs slot_list_getitem.lookup
   (wpAny_getItem_list_neg (Q:=fun r s'=>r=w∧EP X pins σ Q r s') pl.isList (by omega) (by rw[List.size_toArray]<;>omega) (by omega) (by rw[hj];simpa using ew) ⟨rfl,fin⟩) hs
theorem ix_tup:IxR X (rIxT X.K):=by
 intro value slice pins s σ H x y v u Q I rx ry h hs;obtain⟨p,xs,i,z,rfl,rfl,hq,he,q⟩:=h;cases rx;obtain⟨t,rfl⟩:=ry;obtain⟨its,r,pl,hz⟩:=I.tuple hq;obtain⟨j,h1,h2,h3,h4,h5⟩:=Ld he;obtain⟨w,ew,rw'⟩:=r.get h2;have hl:=r.length;have hn:=Fe;have fin:EP X pins σ Q w s:=⟨z,H,I,rw',q⟩;exact subscriptTail_builtinR (x:=w) pl.typeIs slot_tuple_getitem.lookup
  (getItem_tuple (j:=j) (Q:=fun r s'=>r=w∧EP X pins σ Q r s') pl (by omega) (by omega) (by rw[List.size_toArray,←hl];exact h1) (by simpa using ew) ⟨rfl,fin⟩) hs
theorem Aeb:IxR X rIxS:=by
 intro value slice pins s σ H x y v u Q I rx ry h hs;obtain⟨z,i,c,rfl,rfl,hz,he,q⟩:=h;obtain⟨t,rfl⟩:=rx;obtain⟨t',rfl⟩:=ry;obtain⟨j,h1,h2,h3,h4,h5⟩:=Ld he;have hl:z.cps.toList.length=z.length:=by simp[Str.length]
 rw[hl] at h1 h4 h5;have hn:=Fe;exact tail_any (typeIs_str s z t) slot_str_getitem.lookup (getItem_str (c:=c) (by
  have e1:decide (i < -(2 ^ 63:Int))=false:=decide_eq_false (by omega)
  have e2:decide (i ≥ 2 ^ 63)=false:=decide_eq_false (by omega)
  rw[e1,e2,Bool.or_false]) (by rw[h1];simpa using h2) ⟨.str ⟨#[c]⟩,H,I.tok _,⟨_,rfl⟩,q⟩) hs
noncomputable def rIx(K:W.Frag):R2:=fun x y H Q=>rIxL K x y H Q∨rIxT K x y H Q∨rIxS x y H Q
theorem ix_seq:IxR X (rIx X.K):=ix_list.or (ix_tup.or Aeb)

theorem Pg(its:List Value)(n j:Nat)(u:Value):Obj.mapSeq (·.setIfInBounds j u) { cls:=.type "list",data:=.seq its.toArray n }={ cls:=.type "list",data:=.seq (its.set j u).toArray n }:=by
 simp[Obj.mapSeq]
theorem Inv.lst{pins:List (Addr×Obj)}{σ:St}{H:Hp}{s:Shared}{p:Addr}{xs:List V}(I:Inv X pins σ H s)(h:H p=some (.lst xs)) :
  ∃(its:List Value) (n:Nat),Vals xs its∧s.heap.get? p=some { cls:=.type "list",data:=.seq its.toArray n }∧xs.length≤sizeLine:=by
 obtain⟨z,its,n,r,e⟩:=I.hok p _ h;exact⟨its,n,r,e,z⟩
theorem Inv.lstUpd{pins:List (Addr×Obj)}{σ:St}{H:Hp}{s:Shared}{p:Addr}{xs ys:List V}{its its':List Value}{n n':Nat}{f:Obj→Obj}(I:Inv X pins σ H s)(h:H p=some (.lst xs))(ho:s.heap.get? p=some { cls:=.type "list",data:=.seq its.toArray n })(hf:f { cls:=.type "list",data:=.seq its.toArray n }={ cls:=.type "list",data:=.seq its'.toArray n' })(r:Vals ys its')(hz:ys.length≤sizeLine)(t:Nat) :
  Inv X pins σ (upd H p (.lst ys)) { s with heap:=s.heap.update p f,toks:=t }:=by
 have e:(s.heap.update p f).get? p=some { cls:=.type "list",data:=.seq its'.toArray n' }:=by
  rw[Heap.get?_update_self f ho (by rw[hf]<;>rfl),hf]
 refine I.write (x:=p) (e:=p) (by rw[h];trivial) (.inl rfl) (fun b u hb q=>(Heap.get?_update_other _ _ (Ne.symm hb)).trans q) ⟨_,e⟩ ?_
 exact⟨hz,its',n',r,e⟩
noncomputable def rSetL:V→V→V→Hp→(Hp→Prop)→Prop:=fun o i v H Q=>∃p xs k j,o=.ref p∧i=.int k∧H p=some (.lst xs)∧ixN xs.length k=some j∧Q (upd H p (.lst (xs.set j v)))
theorem set_list:PSet X rSetL:=by
 intro pins s σ H o i v ov iv u Q I ro ri rv h;obtain⟨p,xs,k,j,rfl,rfl,hp,hj,q⟩:=h;cases ro;obtain⟨t,rfl⟩:=ri;obtain⟨its,n,r,ho,hz⟩:=I.lst hp;obtain⟨h1,h2,h3,h4⟩:=Q7 hj;have hl:=r.length;have hn:=Fe;have I':Inv X pins σ (upd H p (.lst (xs.set j v))) { s with heap:=s.heap.update p (Obj.mapSeq (·.setIfInBounds j u)) }:=
  I.lstUpd hp ho (Pg its n j u) (r.set rv j) (by rw[List.length_set];exact hz) s.toks
 by_cases h0:0≤k
 ·have hk:k.toNat=j:=by
   rw[seqIndex_of h0 h4] at h1;exact Option.some.inj h1
  exact W.ki_setAt ho h0 (by omega) (by rw[List.size_toArray,←hl];exact h4) (by rw[hk];exact⟨_,I',q⟩)
 ·have hk:(k+(its.toArray.size:Int)).toNat=j:=by
   rw[seqIndex_neg (by omega) h3] at h1
   rw[List.size_toArray,←hl];exact Option.some.inj h1
  exact W.ki_setBack ho (by omega) (by rw[List.size_toArray,←hl];exact h3) (by omega) (by rw[hk];exact⟨_,I',q⟩)

theorem Li(lo hi:Option Int)(n:Nat):(sliceBounds lo hi none n).1=((HT.sIx n 0 lo:Nat):Int)∧(sliceBounds lo hi none n).2.1=((HT.sIx n n hi:Nat):Int)∧(sliceBounds lo hi none n).2.2=1:=by
 refine⟨?_,?_,rfl⟩
 ·cases lo with
  |none=>simp[sliceBounds,HT.sIx]
  |some i=>
   simp only[sliceBounds,HT.sIx,Option.getD_none,show(1:Int)>0 by decide,if_true]
   by_cases h:i<0
   ·simp only[h,if_true]<;>omega
   ·simp only[h,if_false]<;>omega
 ·cases hi with
  |none=>simp[sliceBounds,HT.sIx]
  |some i=>
   simp only[sliceBounds,HT.sIx,Option.getD_none,show(1:Int)>0 by decide,if_true]
   by_cases h:i<0
   ·simp only[h,if_true]<;>omega
   ·simp only[h,if_false]<;>omega
theorem Ip(its:List Value)(lo hi:Option Int):slicePick its.toArray lo hi none=((its.drop (HT.sIx its.length 0 lo)).take (HT.sIx its.length its.length hi-HT.sIx its.length 0 lo)).toArray:=by
 obtain⟨h1,h2,h3⟩:=Li lo hi its.toArray.size;unfold slicePick;rw[h1,h2,h3];simp only[sliceRange_one,pick_run,List.size_toArray]<;>rfl
noncomputable def rSlL(K:W.Frag):V→Option Int→Option Int→Hp→VK→Prop:=fun x lo hi H Q=>∃a xs,x=.ref a∧SqL K H a xs∧∀p,H p=none→Q (.ref p) (upd H p (.lst (Me xs lo hi)))
theorem X5:SlR X (rSlL X.K):=by
 intro pins s σ H x v vl vu lo hi sl Q I rx hs pl pu h;obtain⟨a,xs,rfl,hx,q⟩:=h;cases rx;obtain⟨its,r,ht,hz⟩:=I.list hx;have hlen:=r.length;refine⟨"list",_,slot_list_getitem.lookup,ht.isList.typeIs,?_⟩;refine wpAny_getItem_list_slice ht.isList hs pl pu .none (by simp) ?_ (by rw[List.size_toArray]<;>omega)
 rw[Ip,←hlen];refine⟨.ref s.heap.objs.size,_,I.laid (t':=s.toks) (o:=.lst (Me xs lo hi)) (fun b ob q=>Heap.get?_push_of_some _ q) (Nat.le_refl _) ?_,rfl,q _ (I.hok.fresh (Nat.le_refl _))⟩;exact⟨Nat.le_trans (F9 xs lo hi) hz,_,0,(r.drop (HT.sIx xs.length 0 lo)).take (HT.sIx xs.length xs.length hi-HT.sIx xs.length 0 lo),Heap.get?_push_size _ rfl⟩

theorem call_list_of:CallR X (.type "list") (fun xs H Q=>∃p ys,xs=[.ref p]∧(SqL X.K H p ys∨SqT X.K H p ys)∧∀l,H l=none→Q (.ref l) (upd H l (.lst ys))):=by
 intro pins s σ H xs us Q I r h;obtain⟨p,ys,rfl,hq,q⟩:=h;obtain⟨u,rfl,rx⟩:=Ek r;cases rx;have fin:∀(its:List Value),Vals ys its→ys.length≤sizeLine→∀(h':Heap) (c':Nat),(∀b o',s.heap.get? b=some o'→h'.get? b=some o')→
   h'.get? s.heap.objs.size=some { cls:=.type "list",dict:=none,data:=.seq its.toArray c',slots:=#[] }→EP X pins σ Q (.ref s.heap.objs.size) { s with heap:=h' }:=fun its r' hz h' c' kp e=>
  ⟨.ref s.heap.objs.size,_,I.laid (t':=s.toks) kp (Nat.le_refl _) (show ObjOk X.prog X.w _ h' _ (.lst ys) from⟨hz,its,c',r',e⟩),rfl,q _ (I.hok.fresh (Nat.le_refl _))⟩
 rcases hq with hq|hq
 ·obtain⟨its,r',pl,hz⟩:=I.list hq;have hlen:=r'.length;obtain⟨o,ho,hc,n,hd⟩:=pl.isList;exact call_list_seq p (.inl rfl) ho hc hd (fun h' c' kp e=>fin its r' hz h' c' kp e) (by simp only[List.size_toArray]<;>omega)
 ·obtain⟨its,r',pl,hz⟩:=I.tuple hq;have hlen:=r'.length;obtain⟨o,ho,hc,n,hd⟩:=pl;exact call_list_seq p (.inr rfl) ho hc hd (fun h' c' kp e=>fin its r' hz h' c' kp e) (by simp only[List.size_toArray]<;>omega)
theorem call_tuple_of:CallR X (.type "tuple") (fun xs H Q=>∃p ys,xs=[.ref p]∧((SqL X.K H p ys∧∀l,H l=none→Q (.ref l) (upd H l (.tup ys)))∨(SqT X.K H p ys∧Q (.ref p) H))):=by
 intro pins s σ H xs us Q I r h;obtain⟨p,ys,rfl,h⟩:=h;obtain⟨u,rfl,rx⟩:=Ek r;cases rx;rcases h with ⟨hq,q⟩|⟨hq,q⟩
 ·obtain⟨its,r',pl,hz⟩:=I.list hq;have hlen:=r'.length;refine call_tuple_list pl.isList (fun h' kp=>?_) (by simp only[List.size_toArray]<;>omega)
  have I1:Inv X pins σ H { s with heap:=h' }:=I.kept (t':=s.toks) kp;have I2:Inv X pins σ (upd H h'.objs.size (.tup ys)) { s with heap:=h'.push { cls:=.type "tuple",data:=.seq its.toArray } }:=
   I1.laid (t':=s.toks) (fun b o e=>Heap.get?_push_of_some _ e) (Nat.le_refl _) (show ObjOk X.prog X.w _ _ _ (.tup ys) from⟨hz,its,r',IsTup.new _ _⟩)
  exact⟨.ref h'.objs.size,_,I2,rfl,q _ (I1.hok.fresh (Nat.le_refl _))⟩
 ·obtain⟨its,r',pl,hz⟩:=I.tuple hq;exact call_tuple_same pl ⟨.ref p,H,I,rfl,q⟩

noncomputable def tyV(K:W.Frag)(T:String)(x:V)(H:Hp):Prop:=match x with
 |.str _=>T = "str"
 |.int _=>T = "int"
 |.ref p=>(T = "list"∧∃xs,SqL K H p xs)∨(T = "tuple"∧∃o,K.lookup p=some o∧o.cls=.type "tuple"∧o.dict=none)∨
   (T = "dict"∧((∃kvs,H p=some (.dK kvs))∨∃kvs,H p=some (.dT kvs)))∨(T = "set"∧∃S n,H p=some (.set S n))
 |_=>False
theorem Ab1{pins:List (Addr×Obj)}{σ:St}{H:Hp}{s:Shared}{T:String}{x:V}{v:Value}(I:Inv X pins σ H s)(r:RelV x v)(ty:tyV X.K T x H) :
  s.TypeIs v T∧∀a,v=.ref a→∃ob,s.heap.get? a=some ob∧ob.dict=none:=by
 cases x with
 |str z=>
  obtain⟨t,rfl⟩:=r;cases(show T = "str" from ty);exact⟨typeIs_str s z t,fun _ e=>nomatch e⟩
 |int i=>
  obtain⟨t,rfl⟩:=r;cases(show T = "int" from ty);exact⟨typeIs_int s i t,fun _ e=>nomatch e⟩
 |ref p=>
  cases r;rcases ty with ⟨rfl,xs,hq⟩|⟨rfl,o,hk,hc,hd⟩|⟨rfl,hk⟩|⟨rfl,S,n,hk⟩
  ·obtain⟨its,_,pl,_⟩:=I.list hq;refine⟨pl.isList.typeIs,fun a e=>?_⟩;cases e;obtain⟨o,n,e,c,hd,_⟩:=pl;exact⟨o,e,hd⟩
  ·refine⟨⟨o,I.kIn p o hk,hc⟩,fun a e=>?_⟩;cases e;exact⟨o,I.kIn _ o hk,hd⟩
  ·have z:∃o,s.heap.get? p=some o∧o.ExactDict:=by
    rcases hk with ⟨kvs,hk⟩|⟨kvs,hk⟩
    ·obtain⟨_,_,_,_,o,_,_,e,ex,_⟩:=I.hok p _ hk;exact⟨o,e,ex⟩
    ·obtain⟨_,_,_,_,o,_,_,e,ex,_⟩:=I.hok p _ hk;exact⟨o,e,ex⟩
   obtain⟨o,e,ex⟩:=z;refine⟨⟨o,e,ex.1⟩,fun a e2=>?_⟩;cases e2;exact⟨o,e,ex.2.1⟩
  ·obtain⟨o,_,_,_,e,ex,_⟩:=I.hok p _ hk;refine⟨⟨o,e,ex.1⟩,fun a e2=>?_⟩;cases e2;exact⟨o,e,ex.2.1⟩
 |_=>exact False.elim ty
noncomputable def tBM(K:W.Frag)(T:String)(r:V→List V→Hp→VK→Prop)(to:TE)(t:TA):TE:=fun σ H Q=>to σ H fun x H1=>tyV K T x H1∧t σ H1 fun xs H2=>r x xs H2 Q
variable{o e:Expr}{es:List Expr}{to:TE}{t:TA}{name:Str}{apos cpos:Pos}{T id:String}{r:V→List V→Hp→VK→Prop}
theorem pe_bm(pa:PlainAttrs T)(slot:Slot T name id)(hty:typeOf (.builtin id)=pure (.type "method_descriptor"))(hm:MtR X id r)(ho:PE X o to)(ha:PA X (e::es) t)(hbase:attributeBase o name X.env (eval o X.env)=eval o X.env:=by rfl)(hfew:((backTo cpos (starEach (e::es) X.env)).all (fun x=>!x.1)&&(backToKw cpos (keywordEach [] X.env)).all (fun x=>x.1.isSome)
   && decide ((e::es).length+([]:List Keyword).length+(if ([]:List Keyword).isEmpty then 0 else 1)<30))=true:=by rfl)(hline:(apos.endLine == cpos.line)=true:=by rfl)(hs:starEach (e::es) X.env=(false,eval e X.env)::starEach es X.env:=by rfl)(hplain:(backTo cpos (starEach es X.env)).any (·.1)=false:=by rfl) :
  PE X (.Call (.Attribute o name apos) (e::es) [] cpos) (tBM X.K T r to t):=by
 intro pins s σ H Q I h;refine wpAny_Call_method_late hbase hfew hline rfl (thn (ho pins s σ H _ I h) fun v s1 zz=>?_);obtain⟨x,H1,I1,r1,ty,q1⟩:=zz;obtain⟨h1,h2⟩:=Ab1 I1 r1 ty;refine⟨T,id,pa,slot,hty,h1,h2,?_⟩;have hA:=ha cpos pins s1 σ H1 _ I1 q1;rw[hs] at hA ⊢;refine Calls.callWith_builtin (by show(false||(backTo cpos (starEach es X.env)).any (·.1))=false;rw[hplain]<;>rfl) (Calls.evalArgs_plain ?_)
 exact thn hA fun us s2 ⟨vs,H2,I2,r2,q2⟩=>hm pins s2 σ H2 x vs v us Q I2 r1 r2 q2
end
end L2
namespace L2
open PySem PySem.Spec PyProof.Rows
noncomputable def MtM(X:Cx)(id:String)(r:V→List V→Hp→VK→Prop):Prop:=
 ∀(pins:List (Addr×Obj)) (s:Shared) (σ:St) (H:Hp) (x:V) (xs:List V) (v:Value) (us:List Value) (Q:VK),Inv X pins σ H s→RelV x v→Vals xs us→r x xs H Q→
  wpAny (model X.prog X.w) X.A (call (.builtin id) (v::us)) (EP X pins σ Q) X.xe s

theorem Vals.one:∀{x:V} {us:List Value},Vals [x] us→∃u,us=[u]∧RelV x u
 |_,_,.cons r .nil=>⟨_,rfl,r⟩
theorem Vals.two:∀{x y:V} {us:List Value},Vals [x,y] us→∃u v,us=[u,v]∧RelV x u∧RelV y v
 |_,_,_,.cons r (.cons q .nil)=>⟨_,_,rfl,r,q⟩
section
variable{X:Cx}{pins:List (Addr×Obj)}{σ:St}{H:Hp}{s:Shared}{l b:Addr}{xs ys zs:List V}
theorem Inv.lset{its its':List Value}{n:Nat}{f:Array Value→Array Value}{t':Nat}(I:Inv X pins σ H s)(hH:H l=some (.lst xs))(e:s.heap.get? l=some { cls:=.type "list",data:=.seq its.toArray n })(hf:f its.toArray=its'.toArray)(hv:Vals ys its')(hz:ys.length≤sizeLine) :
  Inv X pins σ (upd H l (.lst ys)) { s with heap:=s.heap.update l (Obj.mapSeq f),toks:=t' }:=by
 have q:=PySem.IsL.update e f;rw[hf] at q;refine I.write (x:=l) (e:=l) (by rw[hH];exact trivial) (.inl rfl) (fun b' u hb hu=>(Heap.get?_update_other s.heap (Obj.mapSeq f) (Ne.symm hb)).trans hu) ⟨_,q⟩ ?_
 exact⟨hz,its',_,hv,q⟩
theorem Inv.lnew{its:List Value}{t':Nat}(I:Inv X pins σ H s)(hv:Vals ys its)(hz:ys.length≤sizeLine) :
  Inv X pins σ (upd H s.heap.objs.size (.lst ys)) { s with heap:=s.heap.push { cls:=.type "list",data:=.seq its.toArray },toks:=t' }:=
 I.laid (fun _ _ q=>Heap.get?_push_of_some _ q) (Nat.le_refl _) ⟨hz,its,0,hv,Heap.get?_push_size _ rfl⟩
theorem Inv.fresh(I:Inv X pins σ H s):H s.heap.objs.size=none:=I.hok.fresh (Nat.le_refl _)
theorem Inv.lstM(I:Inv X pins σ H s)(hH:H l=some (.lst xs)):xs.length≤sizeLine∧∃(its:List Value) (n:Nat),Vals xs its∧xs.length=its.length∧s.heap.get? l=some { cls:=.type "list",data:=.seq its.toArray n }:=by
 obtain⟨z,its,n,r,e⟩:=I.hok l _ hH;exact⟨z,its,n,r,r.length,e⟩

theorem Wj{n:Nat}(h:n≤sizeLine):Builtin.List.listTooLong n=false:=by
 unfold Builtin.List.listTooLong;exact decide_eq_false (by omega)
end
section
variable{X:Cx}
noncomputable def Yf:V→List V→Hp→VK→Prop:=fun x vs H Q=>∃l xs y,x=.ref l∧vs=[y]∧H l=some (.lst xs)∧xs.length<sizeLine∧Q .non (upd H l (.lst (xs++[y])))
theorem Fo:MtM X "list.append" Yf:=by
 intro pins s σ H x vs v us Q I rx rv h;obtain⟨l,xs,y,rfl,rfl,hH,hz,q⟩:=h;cases rx;obtain⟨u,rfl,ru⟩:=rv.one;obtain⟨z,its,n,r,hl,e⟩:=I.lstM hH;refine call_meets F.slot_list_append ⟨_,e,rfl⟩ F.entry_list_append (F.args_list_append_2 _ _) (PySem.list_append l its.toArray n u (by rw[List.size_toArray];omega)) ⟨e,?_⟩
 refine⟨.non,_,I.lset (its':=its++[u]) hH e (by simp) (r.append (.cons ru .nil)) ?_,rfl,q⟩
 rw[List.length_append,List.length_singleton];omega

noncomputable def Ye:V→List V→Hp→VK→Prop:=fun x vs H Q=>∃l b xs zs,x=.ref l∧vs=[.ref b]∧H l=some (.lst xs)∧H b=some (.lst zs)∧xs.length+zs.length≤sizeLine∧Q .non (upd H l (.lst (xs++zs)))
theorem Aew:MtM X "list.extend" Ye:=by
 intro pins s σ H x vs v us Q I rx rv h;obtain⟨l,b,xs,zs,rfl,rfl,hH,hB,hz,q⟩:=h;cases rx;obtain⟨u,rfl,ru⟩:=rv.one;cases ru;obtain⟨z,its,n,r,hl,e⟩:=I.lstM hH;obtain⟨z2,its2,n2,r2,hl2,e2⟩:=I.lstM hB;have hsz:its.toArray.size+its2.toArray.size≤sizeLine:=by rw[List.size_toArray,List.size_toArray];omega
 have hlong:¬(!its.toArray.isEmpty&&Builtin.List.listTooLong (its.toArray.size+its2.toArray.size))=true:=by
  rw[Wj hsz,Bool.and_false];exact Bool.false_ne_true
 refine call_meets F.slot_list_extend ⟨_,e,rfl⟩ F.entry_list_extend (F.args_list_extend_2 _ _)
  (AutoSeq1.list_extend_list_list_0 l its.toArray n b its2.toArray n2 hlong (by rw[List.size_toArray];omega) (by omega)) ⟨e,e2,?_⟩
 refine⟨.non,_,I.lset (its':=its++its2) hH e (by simp) (r.append r2) ?_,rfl,q⟩
 rw[List.length_append];omega

noncomputable def rCat:R2:=fun x y H Q=>∃l b xs zs,x=.ref l∧y=.ref b∧H l=some (.lst xs)∧H b=some (.lst zs)∧xs.length+zs.length≤sizeLine∧∀p,H p=none→Q (.ref p) (upd H p (.lst (xs++zs)))
theorem Ads:OpR X (binaryOp .Add) rCat:=by
 intro pins s σ H x y v u Q I rx ry h;obtain⟨l,b,xs,zs,rfl,rfl,hH,hB,hz,q⟩:=h;cases rx;cases ry;obtain⟨z,its,n,r,hl,e⟩:=I.lstM hH;obtain⟨z2,its2,n2,r2,hl2,e2⟩:=I.lstM hB;refine PySem.P.add_list e e2 ?_ (by rw[List.size_toArray,List.size_toArray];omega)
 have ea:its.toArray++its2.toArray=(its++its2).toArray:=by simp
 rw[ea];exact⟨.ref _,_,I.lnew (t':=s.toks) (r.append r2) (by rw[List.length_append];omega),rfl,q _ I.fresh⟩
end
section
variable{prog:Program}{w:World}{A:Around}{E:Value→Shared→Prop}{s:Shared}
end
section
variable{X:Cx}
end
end L2
namespace L2
open PySem PySem.Spec PyProof.Rows
section
variable{κ:Type}[DecidableEq κ]
noncomputable def A8(kvs:List (κ×V))(k:κ):Option V:=(kvs.find? fun kv=>decide (kv.1=k)).map (·.2)
noncomputable def Bz(kvs:List (κ×V))(k:κ)(v:V):List (κ×V):=
 if (kvs.any fun kv=>decide (kv.1=k))=true then kvs.map (fun kv=>if kv.1=k then (kv.1,v) else kv) else kvs++[(k,v)]
noncomputable def En(kvs:List (κ×V))(k:κ):List (κ×V):=kvs.filter fun kv=>decide (kv.1≠k)

theorem Hh{p:κ×V}{r:List (κ×V)}{k:κ}(e:p.1=k):A8 (p::r) k=some p.2:=by simp[A8,List.find?_cons,e]
theorem Hi{p:κ×V}{r:List (κ×V)}{k:κ}(e:¬p.1=k):A8 (p::r) k=A8 r k:=by simp[A8,List.find?_cons,e]
theorem Ml(k:κ):∀kvs:List (κ×V),(kvs.any fun kv=>decide (kv.1=k))=(A8 kvs k).isSome
 |[]=>rfl
 |p::r=>by
  rw[List.any_cons]
  by_cases e:p.1=k
  ·simp only[Hh e,decide_eq_true e,Bool.true_or,Option.isSome_some]
  ·rw[Hi e,decide_eq_false e,Bool.false_or];exact Ml k r
theorem Bw(kvs:List (κ×V))(k:κ)(v:V):(Bz kvs k v).length≤kvs.length+1:=by
 unfold Bz
 split
 ·rw[List.length_map];omega
 ·rw[List.length_append,List.length_cons,List.length_nil];omega
theorem RelO.isSome_eq{o:Option V}{u:Option Value}(r:RelO o u):o.isSome=u.isSome:=by
 cases o with
 |none=>cases u with
  |none=>rfl
  |some _=>exact(show False from r).elim
 |some _=>cases u with
  |none=>exact(show False from r).elim
  |some _=>rfl
theorem KV.val{kvs:List (κ×V)}{vs:List (κ×Value)}(r:KV kvs vs)(k:κ):RelO (A8 kvs k) (valueAt vs k):=by
 unfold KV at r
 induction r with
 |nil=>exact True.intro
 |@cons p q ps qs h t ih=>
  obtain⟨h1,h2⟩:=h
  by_cases e:p.1=k
  ·have e':q.1=k:=h1.symm.trans e;have b:valueAt (q::qs) k=some q.2:=by simp[valueAt,List.find?_cons,e']
   rw[Hh e,b];exact h2
  ·have e':¬q.1=k:=fun z=>e (h1.trans z);have b:valueAt (q::qs) k=valueAt qs k:=by simp[valueAt,List.find?_cons,e']
   rw[Hi e,b];exact ih
theorem KV.any{kvs:List (κ×V)}{vs:List (κ×Value)}(r:KV kvs vs)(k:κ):(kvs.any fun kv=>decide (kv.1=k))=vs.any fun kv=>decide (kv.1=k):=by
 unfold KV at r
 induction r with
 |nil=>rfl
 |cons h t ih=>rw[List.any_cons,List.any_cons,ih,h.1]
theorem KV.repl{kvs:List (κ×V)}{vs:List (κ×Value)}(r:KV kvs vs)(k:κ){y:V}{u:Value}(ry:RelV y u) :
  KV (kvs.map fun kv=>if kv.1=k then (kv.1,y) else kv) (vs.map fun kv=>if kv.1=k then (kv.1,u) else kv):=by
 unfold KV at r ⊢
 induction r with
 |nil=>exact .nil
 |@cons p q ps qs h t ih=>
  rw[List.map_cons,List.map_cons];refine .cons ?_ ih;obtain⟨h1,h2⟩:=h
  by_cases e:p.1=k
  ·rw[if_pos e,if_pos (h1.symm.trans e)];exact⟨h1,ry⟩
  ·rw[if_neg e,if_neg (fun z=>e (h1.trans z))];exact⟨h1,h2⟩
theorem KV.put{kvs:List (κ×V)}{vs:List (κ×Value)}(r:KV kvs vs)(k:κ){y:V}{u:Value}(ry:RelV y u):KV (Bz kvs k y) (stored vs k u):=by
 unfold Bz stored;rw[r.any k]
 by_cases e:(vs.any fun kv=>decide (kv.1=k))=true
 ·rw[if_pos e,if_pos e];exact r.repl k ry
 ·rw[if_neg e,if_neg e];exact Paired.snoc r ⟨rfl,ry⟩
theorem KV.drop{kvs:List (κ×V)}{vs:List (κ×Value)}(r:KV kvs vs)(k:κ):KV (En kvs k) (without vs k):=by
 unfold KV at r ⊢;unfold En without
 induction r with
 |nil=>exact .nil
 |@cons p q ps qs h t ih=>
  obtain⟨h1,h2⟩:=h;rw[List.filter_cons,List.filter_cons]
  by_cases e:p.1=k
  ·have a:¬decide (p.1≠k)=true:=by simp[e]
   have b:¬decide (q.1≠k)=true:=by simp[h1.symm.trans e]
   rw[if_neg a,if_neg b];exact ih
  ·have e':¬q.1=k:=fun z=>e (h1.trans z);have a:decide (p.1≠k)=true:=by simp[e]
   have b:decide (q.1≠k)=true:=by simp[e']
   rw[if_pos a,if_pos b];exact .cons ⟨h1,h2⟩ ih
theorem KV.length{kvs:List (κ×V)}{vs:List (κ×Value)}(r:KV kvs vs):kvs.length=vs.length:=Paired.length r
theorem Nc(kvs:List (κ×V))(k:κ):(En kvs k).length≤kvs.length:=List.length_filter_le _ _
end
theorem Cy{P:Program}{w:World}{k:Key}{u:Value}(r:RelV (kV k) u):(Al P w).is k u=true:=by
 cases k with
 |inl i=>obtain⟨t,e⟩:=(show ∃t,u=Value.int i t from r);subst e;exact Nq P w i t
 |inr x=>obtain⟨t,e⟩:=(show ∃t,u=Value.str x t from r);subst e;exact Np P w x t
theorem Jx{P:Program}{w:World}:∀{ks:List Key} {us:List Value},Vals (ks.map kV) us→ItemsAre (Al P w) ks us
 |[],_,r=>by rw[List.map_nil] at r;cases r;exact .nil
 |k::ks,_,r=>by
  rw[List.map_cons] at r;cases r with
  |cons h t=>exact .cons (Cy h) (Jx t)

noncomputable abbrev KT(H:Hp):List (List Key×V)→List (List Key×Addr×Value)→Prop:=Paired fun p q=>p.1=q.1∧H q.2.1=some (.tup (p.1.map kV))∧RelV p.2 q.2.2
theorem KT.val{H:Hp}{kvs:List (List Key×V)}{xs:List (List Key×Addr×Value)}(r:KT H kvs xs)(k:List Key):RelO (A8 kvs k) ((atKey xs k).map (·.2)):=by
 induction r with
 |nil=>exact True.intro
 |@cons p q ps qs h t ih=>
  obtain⟨h1,_,h2⟩:=h
  by_cases e:p.1=k
  ·have e':q.1=k:=h1.symm.trans e;have b:atKey (q::qs) k=some q.2:=by simp[atKey,List.find?_cons,e']
   rw[Hh e,b];exact h2
  ·have e':¬q.1=k:=fun z=>e (h1.trans z);have b:atKey (q::qs) k=atKey qs k:=by simp[atKey,List.find?_cons,e']
   rw[Hi e,b];exact ih
theorem KT.repl{H:Hp}{kvs:List (List Key×V)}{xs:List (List Key×Addr×Value)}(r:KT H kvs xs)(k:List Key){y:V}{u:Value}(ry:RelV y u) :
  KT H (kvs.map fun kv=>if kv.1=k then (kv.1,y) else kv) (xs.map (putAt k u)):=by
 induction r with
 |nil=>exact .nil
 |@cons p q ps qs h t ih=>
  rw[List.map_cons,List.map_cons];refine .cons ?_ ih;obtain⟨h1,h2,h3⟩:=h;unfold putAt
  by_cases e:p.1=k
  ·rw[if_pos e,if_pos (h1.symm.trans e)];exact⟨h1,h2,ry⟩
  ·rw[if_neg e,if_neg (fun z=>e (h1.trans z))];exact⟨h1,h2,h3⟩
theorem KT.put{H:Hp}{kvs:List (List Key×V)}{xs:List (List Key×Addr×Value)}(r:KT H kvs xs)(k:List Key){b:Addr}{y:V}{u:Value}(hb:H b=some (.tup (k.map kV)))(ry:RelV y u) :
  KT H (Bz kvs k y) (storedH xs k b u):=by
 have e:(kvs.any fun kv=>decide (kv.1=k))=(atKey xs k).isSome:=by
  rw[Ml,(r.val k).isSome_eq,Option.isSome_map]
 unfold Bz storedH;rw[e]
 by_cases q:(atKey xs k).isSome=true
 ·rw[if_pos q,if_pos q];exact r.repl k ry
 ·rw[if_neg q,if_neg q];exact Paired.snoc r ⟨rfl,hb,ry⟩
theorem KT.keeps{H H':Hp}{kvs:List (List Key×V)}{xs:List (List Key×Addr×Value)}(r:KT H kvs xs)(ht:∀b ys,H b=some (.tup ys)→H' b=some (.tup ys)):KT H' kvs xs:=
 Paired.mapP r fun _ _ z=>⟨z.1,ht _ _ z.2.1,z.2.2⟩

section
variable{P:Program}{w:World}{H:Hp}{h:Heap}{a:Addr}
theorem Aai{u:HO}(ok:HOk P w H h)(e:Rd H a u):ObjOk P w H h a u:=e.ok ok
theorem Ud{kvs:List (Key×V)}(ok:HOk P w H h)(e:Rd H a (.dK kvs)):kvs.length≤sizeLine∧(a == sysModules)=false∧∃vs,KV kvs vs∧h.DictOf (Al P w) a vs:=
 show ObjOk P w H h a (.dK kvs) from Aai ok e
theorem D6{kvs:List (Key×V)}(ok:HOk P w H h)(e:H a=some (.dK kvs)):kvs.length≤sizeLine∧(a == sysModules)=false∧∃vs,KV kvs vs∧h.DictOf (Al P w) a vs:=Ud ok (.inl e)
theorem Kt{ks:List Key}(ok:HOk P w H h)(e:H a=some (.tup (ks.map kV))):(tupleKind (Al P w)).is h ks a:=by
 obtain⟨_,its,r,o,h1,h2,n,h3⟩:=(show ObjOk P w H h a (.tup (ks.map kV)) from ok a _ e);exact⟨o,its.toArray,n,h1,h2,h3,by simpa using Jx r⟩
theorem Uc{kvs:List (List Key×V)}(ok:HOk P w H h)(e:Rd H a (.dT kvs)):kvs.length≤sizeLine∧(a == sysModules)=false∧
  ∃xs,KT H kvs xs∧h.DictOfH (tupleKind (Al P w)) a xs:=by
 obtain⟨z,y,xs,r,o,es,ep,h1,h2,h3,h4,h5⟩:=(show ObjOk P w H h a (.dT kvs) from Aai ok e);refine⟨z,y,xs,r,o,es,ep,h1,h2,h3,h4,fun x hx=>?_,h5⟩;have all:∀{l:List (List Key×V)} {m:List (List Key×Addr×Value)},KT H l m→∀x∈m,(tupleKind (Al P w)).is h x.1 x.2.1:=by
  intro l m q
  induction q with
  |nil=>intro x hx;exact nomatch hx
  |@cons p q ps qs hq t ih=>
   intro x hx;rcases List.mem_cons.mp hx with e|hx
   ·subst e;exact Kt ok (by rw[←hq.1];exact hq.2.1)
   ·exact ih x hx
 exact all r x hx
theorem Abc{kvs:List (List Key×V)}(ok:HOk P w H h)(e:H a=some (.dT kvs)):kvs.length≤sizeLine∧(a == sysModules)=false∧
  ∃xs,KT H kvs xs∧h.DictOfH (tupleKind (Al P w)) a xs:=Uc ok (.inl e)
end
noncomputable def DGet(H:Hp)(a:Addr)(y:V)(r:Option V):Prop:=
 (∃kvs k,Rd H a (.dK kvs)∧y=kV k∧r=A8 kvs k)∨∃kvs k b,Rd H a (.dT kvs)∧y=.ref b∧H b=some (.tup (k.map kV))∧r=A8 kvs k
noncomputable def DPut(H:Hp)(a:Addr)(y v:V)(H':Hp):Prop:=
 (∃kvs k,H a=some (.dK kvs)∧y=kV k∧kvs.length<sizeLine∧H'=upd H a (.dK (Bz kvs k v)))∨
 ∃kvs k b,H a=some (.dT kvs)∧y=.ref b∧H b=some (.tup (k.map kV))∧kvs.length<sizeLine∧H'=upd H a (.dT (Bz kvs k v))
theorem DGet.k{H:Hp}{a:Addr}{kvs:List (Key×V)}{k:Key}(e:H a=some (.dK kvs)):DGet H a (kV k) (A8 kvs k):=.inl ⟨kvs,k,.inl e,rfl,rfl⟩
theorem DGet.t{H:Hp}{a b:Addr}{kvs:List (List Key×V)}{k:List Key}(e:H a=some (.dT kvs))(eb:H b=some (.tup (k.map kV))):DGet H a (.ref b) (A8 kvs k):=.inr ⟨kvs,k,b,.inl e,rfl,eb,rfl⟩
theorem DPut.k{H:Hp}{a:Addr}{kvs:List (Key×V)}{k:Key}{v:V}(e:H a=some (.dK kvs))(hl:kvs.length<sizeLine):DPut H a (kV k) v (upd H a (.dK (Bz kvs k v))):=.inl ⟨kvs,k,e,rfl,hl,rfl⟩
theorem DPut.t{H:Hp}{a b:Addr}{kvs:List (List Key×V)}{k:List Key}{v:V}(e:H a=some (.dT kvs))(eb:H b=some (.tup (k.map kV)))(hl:kvs.length<sizeLine) :
  DPut H a (.ref b) v (upd H a (.dT (Bz kvs k v))):=.inr ⟨kvs,k,b,e,rfl,eb,hl,rfl⟩


section
variable{X:Cx}{pins:List (Addr×Obj)}{σ:St}{H:Hp}{s:Shared}{a:Addr}{y v:V}{u r:Value}{o:Option V}{A:Around}{E:Value→Shared→Prop}
theorem Inv.big(I:Inv X pins σ H s):sysModules<s.heap.objs.size:=by
 have h:mainGlobals<s.heap.objs.size:=(I.mod.glob.keeps I.bk).lt;exact Nat.lt_trans (by decide) h

theorem Zu{Q:Value→Shared→Prop}(hu:A.units+1<cLine)(I:Inv X pins σ H s)(g:DGet H a y o)(ry:RelV y u)(h:∀s',Inv X pins σ H s'→Q (.bool (!o.isSome)) s') :
  wpAny (model X.prog X.w) A (compareOp .NotIn u (.ref a)) Q E s:=by
 rcases g with ⟨kvs,k,e,ey,l⟩|⟨kvs,k,b,e,ey,eb,l⟩
 ·subst ey;obtain⟨z,hd,vs,rel,dd⟩:=Ud I.hok e;refine wpAny_notIn_of (Cy ry) hd dd.mapOf ?_;rw[←(rel.val k).isSome_eq,←l];exact h _ (I.tok _)
 ·subst ey;cases(show u=Value.ref b from ry);obtain⟨z,hd,xs,rel,dd⟩:=Uc I.hok e;refine wpAny_notIn_heap (tupleKind_room_in1 hu) (Kt I.hok eb) hd dd ?_;have q:=(rel.val k).isSome_eq;rw[Option.isSome_map] at q;rw[←q,←l];exact h _ (I.tok _)
theorem Da{h':Heap}{t':Nat}{ob:HO}(I:Inv X pins σ H s)(mu:Mut (H a))(hs:Heap.SameBut a s.heap h')(he:∃q,h'.get? a=some q)(new:ObjOk X.prog X.w (upd H a ob) h' a ob) :
  Inv X pins σ (upd H a ob) { s with heap:=h',toks:=t' }:=
 I.write (x:=a) (e:=a) mu (.inl rfl) (fun b q hb z=>(hs.2 b hb).trans z) he new
theorem Hd{P:Program}{w:World}{H':Hp}{h':Heap}{kvs:List (Key×V)}{vs:List (Key×Value)}(z:kvs.length≤sizeLine)(hd:(a == sysModules)=false)(rel:KV kvs vs)(dd:h'.DictOf (Al P w) a vs) :
  ObjOk P w H' h' a (.dK kvs):=⟨z,hd,vs,rel,dd⟩
theorem J4{H':Hp}{Q:Unit→Shared→Prop}(hu:A.units+1<cLine)(I:Inv X pins σ H s)(g:DPut H a y v H')(ry:RelV y u)(rv:RelV v r)(h:∀s',Inv X pins σ H' s'→Q () s') :
  wpAny (model X.prog X.w) A (setItem (.ref a) u r) Q E s:=by
 rcases g with ⟨kvs,k,e,ey,l,eH⟩|⟨kvs,k,b,e,ey,eb,l,eH⟩
 ·subst ey eH;obtain⟨z,hd,vs,rel,dd⟩:=D6 I.hok e;have hz:vs.length≤sizeLine:=by rw[←rel.length];exact z
  have hl:(Bz kvs k v).length≤sizeLine:=by have:=Bw kvs k v;omega
  refine wpAny_setItem_pairs (hsz:=hz) (Cy ry) dd fun h' dd' hs=>h _ ?_;have he:∃q,h'.get? a=some q:=let ⟨q,_,_,hq,_⟩:=dd';⟨q,hq⟩;exact Da I (by rw[e];exact True.intro) hs he (Hd hl hd (rel.put k rv) dd')
 ·subst ey eH;cases(show u=Value.ref b from ry);obtain⟨z,hd,xs,rel,dd⟩:=Abc I.hok e;have hz:xs.length≤sizeLine:=by rw[←Paired.length rel];exact z
  have hl:(Bz kvs k v).length≤sizeLine:=by have:=Bw kvs k v;omega
  refine wpAny_setItem_heap (hsz:=hz) (tupleKind_room_in1 hu) (Kt I.hok eb) dd fun h' dd' hs=>h _ ?_;obtain⟨q,es,ep,hq,h2,h3,h4,_,h5⟩:=dd';refine Da I (by rw[e];exact True.intro) hs ⟨q,hq⟩ ⟨hl,hd,_,(rel.put k eb rv).keeps fun c ys ec=>?_,q,es,ep,hq,h2,h3,h4,h5⟩
  rw[Ad (F1 ec e (fun z=>nomatch z))];exact ec
end
section
variable{X:Cx}{pins:List (Addr×Obj)}{σ:St}{H:Hp}{s:Shared}{a:Addr}{kvs:List (Key×V)}{k:Key}{u:Value}{A:Around}{E:Value→Shared→Prop}
theorem Aex{Q:Unit→Shared→Prop}(I:Inv X pins σ H s)(e:H a=some (.dK kvs))(ry:RelV (kV k) u)(l:(A8 kvs k).isSome=true)(h:∀s',Inv X pins σ (upd H a (.dK (En kvs k))) s'→Q () s') :
  wpAny (model X.prog X.w) A (delItem (.ref a) u) Q E s:=by
 obtain⟨z,hd,vs,rel,dd⟩:=D6 I.hok e;refine wpAny_delItem_slot dd.typeIs (by decide) PySem.F.slot_dict_delitem
  (call_meetsIn PySem.F.slot_dict_delitem dd.typeIs PySem.F.entry_dict_delitem (PySem.F.args_dict_delitem_2 _ _) (meets_dict_delitem_pairs (Al X.prog X.w) a (Cy ry)) ⟨vs,dd,by rw[←rel.length];exact z,by rw[←(rel.val k).isSome_eq];exact l,fun h' dd' hs=>h _ ?_⟩)
 have he:∃q,h'.get? a=some q:=let ⟨q,_,_,hq,_⟩:=dd';⟨q,hq⟩;exact Da I (by rw[e];exact True.intro) hs he (Hd (Nat.le_trans (Nc kvs k) z) hd (rel.drop k) dd')
theorem Abf{v:V}{more:List Value}{Q:Value→Shared→Prop}(I:Inv X pins σ H s)(e:H a=some (.dK kvs))(ry:RelV (kV k) u)(l:A8 kvs k=some v)(hm:more=[]∨∃x,more=[x])(h:∀w' s',Inv X pins σ (upd H a (.dK (En kvs k))) s'→RelV v w'→Q w' s'):wpAny (model X.prog X.w) A (call (.builtin "dict.pop") (.ref a::u::more)) Q E s:=by
 obtain⟨z,hd,vs,rel,dd⟩:=D6 I.hok e;obtain⟨w',hw,rw'⟩:=RelO.some_of (v:=v) (o:=valueAt vs k) (by rw[←l];exact rel.val k)
 have hp:(keyPart u).isSome=true:=by
  cases k with
  |inl i=>obtain⟨t,q⟩:=(show ∃t,u=Value.int i t from ry);subst q;rfl
  |inr x=>obtain⟨t,q⟩:=(show ∃t,u=Value.str x t from ry);subst q;rfl
 have ha:argsOk "dict.pop" ⟨.ref a::u::more,[]⟩:=by
  rcases hm with q|⟨x,q⟩
  ·subst q;exact PySem.F.args_dict_pop_2 _ _
  ·subst q;exact PySem.F.args_dict_pop_3 _ _ _
 refine call_meetsIn PySem.F.slot_dict_pop dd.typeIs PySem.F.entry_dict_pop ha (meets_dict_pop_there (Al X.prog X.w) a (Cy ry) more hm hp)
  ⟨vs,w',dd,by rw[←rel.length];exact z,hw,fun h' dd' hs=>h w' _ ?_ rw'⟩
 have he:∃q,h'.get? a=some q:=let ⟨q,_,_,hq,_⟩:=dd';⟨q,hq⟩;exact Da I (by rw[e];exact True.intro) hs he (Hd (Nat.le_trans (Nc kvs k) z) hd (rel.drop k) dd')
theorem Aeg{r:Value}{Q:Value→Shared→Prop}(I:Inv X pins σ H s)(e:H a=some (.dK kvs))(ry:RelV (kV k) u)(l:A8 kvs k=none)(h:∀s',Inv X pins σ H s'→Q r s') :
  wpAny (model X.prog X.w) A (call (.builtin "dict.pop") [.ref a,u,r]) Q E s:=by
 obtain⟨z,hd,vs,rel,dd⟩:=D6 I.hok e;have hn:valueAt vs k=none:=RelO.none_of (by rw[←l];exact rel.val k)
 have hp:(keyPart u).isSome=true:=by
  cases k with
  |inl i=>obtain⟨t,q⟩:=(show ∃t,u=Value.int i t from ry);subst q;rfl
  |inr x=>obtain⟨t,q⟩:=(show ∃t,u=Value.str x t from ry);subst q;rfl
 exact call_meetsIn PySem.F.slot_dict_pop dd.typeIs PySem.F.entry_dict_pop (PySem.F.args_dict_pop_3 _ _ _) (meets_dict_pop_default (Al X.prog X.w) a (Cy ry) hd hp r) ⟨vs,dd,hn,h _ (I.tok _)⟩
end
noncomputable def Xn(i:Expr):Prop:=∀ov iv,subscripted i false ov iv=operate [ov,iv] (getItem ov iv)
theorem Xy{prog:Program}{w:World}{A:Around}{E:Value→Shared→Prop}{s:Shared}{env:Env}{value slice:Expr}{pos:Pos}{T id:String}{Q:Value→Shared→Prop}(hl:typeLookup (.type T) "__getitem__" = pure (some (.builtin id)))(hs:Xn slice)(h:wpAny (model prog w) A (eval value env) (fun o s₁=>wpAny (model prog w) A (eval slice env) (fun i s₂=>s₂.TypeIs o T∧wpAny (model prog w) A (getItem o i) Q E s₂) E s₁) E s) :
  wpAny (model prog w) A (eval (.Subscript value slice pos) env) Q E s:=by
 refine Subscript_ (wpAny_mono h (fun o s₁ h₁=>wpAny_mono h₁ (fun i s₂ h₂=>?_) fun _ _ x=>x) fun _ _ x=>x);obtain⟨hT,h₂⟩:=h₂;unfold subscriptTail;refine wpAny_bind ?_;rw[getitemInPython_of_ne hT.not_modules];refine wpAny_bind (wpAny_specialOf hT hl ?_);have fin:wpAny (model prog w) A (subscripted slice false o i) (fun r s₃=>wpAny (model prog w) A (letTemporaryGo value o r >>= fun _=>pure r) Q E s₃) E s₂:=by
  rw[hs o i];exact wpAny_operating (wpAny_mono h₂ (fun r s₃ h₃=>wpAny_bind (wpAny_letTemporaryGo (wpAny_pure h₃))) fun _ _ x=>x)
 first
  |exact wpAny_pure (wpAny_bind fin)
  |exact wpAny_bind (wpAny_pure (wpAny_bind fin))
  |exact wpAny_bind fin

section
variable{X:Cx}{o i e value:Expr}{pos pos' tpos:Pos}{td ty tv:TE}
end
theorem Nd{P:Program}{w:World}{H:Hp}(h:Heap)(hb:sysModules<h.objs.size):ObjOk P w H (h.push { cls:=.type "dict",data:=.dict #[] }) h.objs.size (.dK []):=
 ⟨Nat.zero_le _,beq_eq_false_iff_ne.mpr (Ne.symm (Nat.ne_of_lt hb)),[],.nil,Heap.DictOf.new h⟩
theorem Nb{P:Program}{w:World}{H:Hp}(h:Heap)(hb:sysModules<h.objs.size):ObjOk P w H (h.push { cls:=.type "dict",data:=.dict #[] }) h.objs.size (.dT []):=
 ⟨Nat.zero_le _,beq_eq_false_iff_ne.mpr (Ne.symm (Nat.ne_of_lt hb)),[],.nil,_,#[],0,Heap.get?_push_size _ rfl,⟨rfl,rfl,rfl⟩,rfl,rfl,List.nodup_nil⟩
noncomputable def Aca:TE:=fun _ H Q=>∀p,H p=none→Q (.ref p) (upd H p (.dK []))
section
variable{X:Cx}{pos:Pos}
theorem pe_dnewK:PE X (.Dict [] [] pos) Aca:=fun pins s σ H Q I h=>
 wpAny_Dict_empty ⟨.ref s.heap.objs.size,_,I.laid (a:=s.heap.objs.size) (o:=.dK []) (t':=s.toks) (fun _ _ q=>Heap.get?_push_of_some _ q) (Nat.le_refl _) (Nd s.heap I.big),rfl,h _ (I.hok.fresh (Nat.le_refl _))⟩
end
structure M1(X:Cx)(o:Expr)(m:Str)(apos:Pos)(e:Expr)(cpos:Pos):Prop where
 base:attributeBase o m X.env (eval o X.env)=eval o X.env
 few:((backTo cpos (starEach [e] X.env)).all (fun x=>!x.1)&&(backToKw cpos (keywordEach [] X.env)).all (fun x=>x.1.isSome)
  && decide (([e]:List Expr).length+([]:List Keyword).length+(if ([]:List Keyword).isEmpty then 0 else 1)<30))=true
 line:(apos.endLine == cpos.line)=true
 trees:backTo cpos (starEach [e] X.env)=[(false,eval e X.env)]
structure M2(X:Cx)(o:Expr)(m:Str)(apos:Pos)(e f:Expr)(cpos:Pos):Prop where
 base:attributeBase o m X.env (eval o X.env)=eval o X.env
 few:((backTo cpos (starEach [e,f] X.env)).all (fun x=>!x.1)&&(backToKw cpos (keywordEach [] X.env)).all (fun x=>x.1.isSome)
  && decide (([e,f]:List Expr).length+([]:List Keyword).length+(if ([]:List Keyword).isEmpty then 0 else 1)<30))=true
 line:(apos.endLine == cpos.line)=true
 trees:backTo cpos (starEach [e,f] X.env)=[(false,eval e X.env),(false,eval f X.env)]

noncomputable def IsD(H:Hp)(a:Addr):Prop:=(∃kvs,Rd H a (.dK kvs))∨∃kvs,Rd H a (.dT kvs)
theorem Ku{X:Cx}{pins:List (Addr×Obj)}{σ:St}{H:Hp}{s:Shared}{a:Addr}(I:Inv X pins σ H s)(d:IsD H a) :
  s.TypeIs (.ref a) "dict"∧(∀b,Value.ref a=.ref b→∃ob,s.heap.get? b=some ob∧ob.dict=none)∧(a == sysModules)=false:=by
 rcases d with ⟨kvs,e⟩|⟨kvs,e⟩
 ·obtain⟨_,hd,vs,_,dd⟩:=Ud I.hok e;refine⟨dd.typeIs,fun b q=>?_,hd⟩;cases q;obtain⟨ob,_,_,h1,h2,_⟩:=dd;exact⟨ob,h1,h2.2.1⟩
 ·obtain⟨_,hd,xs,_,dd⟩:=Uc I.hok e;refine⟨dd.typeIs,fun b q=>?_,hd⟩;cases q;obtain⟨ob,_,_,h1,h2,_⟩:=dd;exact⟨ob,h1,h2.2.1⟩

section
variable{X:Cx}{pins:List (Addr×Obj)}{σ:St}{H:Hp}{s:Shared}{a:Addr}{y d:V}{u r:Value}{o:Option V}{A:Around}{E:Value→Shared→Prop}
end
noncomputable def Ab9(td ty:TE):TE:=fun σ H Q=>td σ H fun x H1=>∃a,x=.ref a∧IsD H1 a∧ty σ H1 fun y H2=>∃kvs k v,H2 a=some (.dK kvs)∧y=kV k∧A8 kvs k=some v∧Q v (upd H2 a (.dK (En kvs k)))
noncomputable def Ab8(td ty tx:TE):TE:=fun σ H Q=>td σ H fun x H1=>∃a,x=.ref a∧IsD H1 a∧ty σ H1 fun y H2=>tx σ H2 fun z H3=>∃kvs k,H3 a=some (.dK kvs)∧y=kV k∧
 (∀v,A8 kvs k=some v→Q v (upd H3 a (.dK (En kvs k))))∧(A8 kvs k=none→Q z H3)
section
variable{X:Cx}{o e f:Expr}{apos cpos:Pos}{td ty tx:TE}
theorem V1(ho:PE X o td)(he:PE X e ty)(m:M1 X o "pop" apos e cpos):PE X (.Call (.Attribute o "pop" apos) [e] [] cpos) (Ab9 td ty):=by
 intro pins s σ H Q I h;refine wpAny_Call_method m.base m.few m.line PySem.F.plainAttrs_dict PySem.F.slot_dict_pop PySem.F.type_dict_pop (thn (ho pins s σ H _ I h) fun u s1 zz=>?_);obtain⟨x,H1,I1,rx,a,ex,d,q1⟩:=zz;subst ex;obtain rfl:u=Value.ref a:=rx;obtain⟨t1,t2,_⟩:=Ku I1 d;refine⟨t1,t2,?_⟩;rw[m.trees];refine Calls.callWith_builtin rfl (Calls.evalArgs_plain (Calls.spliced_cons (thn (he pins s1 σ H1 _ I1 q1) fun iv s2 ⟨y,H2,I2,ry,kvs,k,v,ea,ey,l,q2⟩=>Calls.spliced_nil ?_)));subst ey;exact Abf I2 ea ry l (.inl rfl) fun w' s3 I3 rw'=>⟨v,_,I3,rw',q2⟩
theorem V0(ho:PE X o td)(he:PE X e ty)(hf:PE X f tx)(m:M2 X o "pop" apos e f cpos):PE X (.Call (.Attribute o "pop" apos) [e,f] [] cpos) (Ab8 td ty tx):=by
 intro pins s σ H Q I h;refine wpAny_Call_method m.base m.few m.line PySem.F.plainAttrs_dict PySem.F.slot_dict_pop PySem.F.type_dict_pop (thn (ho pins s σ H _ I h) fun u s1 zz=>?_);obtain⟨x,H1,I1,rx,a,ex,d,q1⟩:=zz;subst ex;obtain rfl:u=Value.ref a:=rx;obtain⟨t1,t2,_⟩:=Ku I1 d;refine⟨t1,t2,?_⟩;rw[m.trees];refine Calls.callWith_builtin rfl (Calls.evalArgs_plain (Calls.spliced_cons (thn (he pins s1 σ H1 _ I1 q1) fun iv s2 ⟨y,H2,I2,ry,q2⟩=>
  Calls.spliced_cons (thn (hf pins s2 σ H2 _ I2 q2) fun fv s3 ⟨z,H3,I3,rz,kvs,k,ea,ey,q3,q4⟩=>Calls.spliced_nil ?_))))
 subst ey;cases l:A8 kvs k with
 |some v=>exact Abf I3 ea ry l (.inr ⟨fv,rfl⟩) fun w' s4 I4 rw'=>⟨v,_,I4,rw',q3 v l⟩
 |none=>exact Aeg I3 ea ry l fun s4 I4=>⟨z,H3,I4,rz,q4 l⟩
end
section
variable{X:Cx}{pins:List (Addr×Obj)}{σ:St}{H:Hp}{s:Shared}{a:Addr}{kvs:List (Key×V)}{A:Around}{E:Value→Shared→Prop}
end
section
variable{X:Cx}{pins:List (Addr×Obj)}{σ:St}{H:Hp}{s:Shared}{a:Addr}{y:V}{u:Value}{A:Around}{E:Value→Shared→Prop}
end
end L2
namespace Att
open PySem PySem.W PySem.Calls PyProof.Rows
theorem Gf{P:Params}{h:Heap}:∀(ns:List Int) (vs:List Value),WellAll P h vs (ns.map WData.int)→IntsAre vs ns:=by
 intro ns
 induction ns with
 |nil=>
  intro vs w;rw[List.map_nil] at w;cases w;exact .nil
 |cons n ns ih=>
  intro vs w;rw[List.map_cons] at w;cases w with
  |cons a b=>
   cases a;exact .cons _ _ (ih _ b)

theorem Rw{l:OpenLaw}{n:Nat}(hn:l.most=some n){P:Params}{h:Heap}{args:List WData}{vals:List Value}(hpre:l.row.toRowW.claim.pre args=true)(hwl:WellAll P h vals args) :
  ∃a vs ns,vals=[Value.ref a]∧args=[WData.list (ns.map WData.int)]∧h.get? a=some { cls:=.type "list",data:=.seq vs.toArray }∧IntsAre vs ns∧ns.length≤n:=by
 have hsh:WShape.hasAll [] args [.list .int]=true:=(pre_splitW hpre).1;have hc:l.pre.holds [] { args:=args }=true:=(pre_splitW hpre).2;obtain⟨d,r,rfl,h1,h2⟩:=hasAllW_cons hsh;obtain rfl:=hasAllW_nil h2;obtain⟨xs,rfl,h3⟩:=hasW_list h1;obtain⟨ns,rfl⟩:=items_int h3;have hlen:ns.length≤n:=by
  unfold OpenLaw.pre at hc;have h4:(WTm.not (.lt (.lit (.int (n:Int))) (.len (.arg 0)))).holds [] { args:=[.list (ns.map .int)] }=true:=by
   have h4:=(holds_andW hc).1;rw[hn] at h4;exact h4
  have h5:=condW_of h4 (w_not (w_lt w_lit (w_len_list (w_arg rfl))));rw[List.length_map] at h5;refine Nat.le_of_not_lt fun q=>?_;have q':(n:Int)<((ns.length:Nat):Int):=by omega
  first
   |(rw[decide_eq_true q'] at h5;exact absurd h5 (by decide))
   |(simp at h5;omega)
 cases hwl with
 |cons w1 w2=>
  cases w2;cases w1 with
  |list ho hall=>exact⟨_,_,ns,rfl,rfl,ho,Gf ns _ hall,hlen⟩

theorem R5(l:OpenLaw)(args:List WData):l.row.toRowW.claim.post args (.bool true) args=true:=
 postW_of (r:=l.row.toRowW) (X:=(true == true))
  (show WShape.has [] (.bool true) .bool=true by first|rfl|decide|simp[WShape.has,WShape.arms,WShape.armsAll])
  (show(WTm.eq .res (.lit (.bool true))).value [] { args:=args,res:=some (.bool true),after:=args }=some (.bool (true == true)) from w_eq_bool (w_res rfl) w_lit) rfl

theorem attach_call{l:OpenLaw}{n:Nat}{q:Program}{loose:List Str}{XP:(Str→Option Value)→Heap→Prop}{YP:World→Heap→Prop}{d:DefRec}(hn:l.most=some n)(hdf:d.params.defaults=[])(call:∀(w:World) (s₀ s₁:Shared) (mg mb:Str→Option Value) (fa:Addr) (o:Obj) (pm cd doc:Value) (a:Addr) (vs:List Value) (ns:List Int),
   Ground q loose [] XP w s₀ mg mb s₁.heap→YP w s₁.heap→
   s₁.heap.get? fa=some o→o.data=.func (docDef d.name d.params d.body d.scope pm cd doc)→s₁.heap.CodeRec cd d.name→mg d.name=some (.ref fa)→
   s₁.heap.get? a=some { cls:=.type "list",data:=.seq vs.toArray }→IntsAre vs ns→ns.length≤n→s₁.gens=#[]→
   codeAny (model l.prog w) callerA (.call (.ref fa) ⟨[.ref a],[]⟩) (fun r s'=>r=.ok (.ret (.bool true))∧OldK s₁.heap s'.heap∧s'.os=s₁.os∧AllBare s'.gens) s₁) :
  WalkO q loose XP YP l.row.toRowW d [] (fun f vs=>PySem.call f vs):=by
 intro w s₀ s₁ mg mb G Y fa o pm cd doc dV kV ho hd hcd hD hmg hg args vals as hpre hlay hrd hwl hlo;obtain rfl:dV=.none:=Dflts.none hD hdf;obtain rfl:kV=.none:=Dflts.noKw hD;obtain⟨a,vs,ns,rfl,rfl,hobj,hints,hlen⟩:=Rw hn hpre hwl;refine enter_call (codeAny_mono (call w s₀ s₁ mg mb fa o pm cd doc a vs ns G Y ho (fd_plain hd) hcd hmg hobj hints hlen hg) fun r s' hq=>?_);obtain⟨rfl,h2,h3,h4⟩:=hq;exact⟨.inl ⟨.bool true,.bool true,[],rfl,fun _=>rfl,.bool true,R5 l _,fun _=>⟨List.Pairwise.nil,fun _ hm=>(nomatch hm)⟩⟩,h2,h3,h4⟩

section
variable{prog:Program}{w:World}{A:Around}{E:Value→Shared→Prop}{s:Shared}{K:Frag}
end
end Att
namespace L2
open PySem PySem.Spec PyProof.Rows
theorem vals_ints:∀{vs:List Value} {ns:List Int},IntsAre vs ns→Vals (ns.map V.int) vs
 |_,_,.nil=>.nil
 |_,_,.cons n t h=>.cons ⟨t,rfl⟩ (vals_ints h)

end L2
namespace L2
open PySem PySem.Spec PyProof.Rows
noncomputable abbrev KOf{K:W.Frag}{h:Heap}(_:K.In h):W.Frag:=K

end L2
namespace L2
open PySem PySem.Spec PyProof.Rows
noncomputable def defArgs(s:Stmt):Arguments:=match s with
 |.FunctionDef _ a _ _ _ _ _ _ _ _=>a
 |_=>{ posonlyargs:=[],args:=[],vararg:=none,kwonlyargs:=[],kw_defaults:=[],kwarg:=none,defaults:=[] }
noncomputable def defBody(s:Stmt):List Stmt:=match s with
 |.FunctionDef _ _ b _ _ _ _ _ _ _=>b
 |_=>[]
noncomputable def defScope(s:Stmt):Scope:=match s with
 |.FunctionDef _ _ _ _ _ _ sc _ _ _=>sc
 |_=>{ kind:=.function,names:=[],isGenerator:=false,isCoroutine:=false }

noncomputable abbrev CX0:CXT:=fun _ _ _ _ _ _=>False
noncomputable abbrev E0:XK:=fun _ _ _=>False
structure Fun(K:W.Frag)(x qual:Str)(st:Stmt)(f:Addr)(fd:FuncData):Prop where
 ex:∃(oc:Value) (od:Option Addr) (kV doc pm:Value) (an:Option Addr) (cdv ct:Value) (osl:Array (Option Value)),
  fd=W.fnOf x qual (defArgs st) (defBody st) (defScope st) .none kV doc pm an cdv ct∧K.lookup f=some ⟨oc,od,.func fd,osl⟩∧W.codeIn K cdv qual=true
 kp:W.keepIn K (.ref f)=true
section
variable{P:Program}{w:World}{K:W.Frag}{mg:Str→Option Value}{base:Heap}
theorem Fun.ok{x qual:Str}{st:Stmt}{f:Addr}{fd:FuncData}{N ps:List Str}{k:Nat}{sp:Sp}(F:Fun K x qual st f fd)(S:FnScope N ps (defScope st))(len:∀vs H Q E,sp vs H Q E→vs.length=ps.length)(hbody:∀(cdv:Value) (A:Around) (outer:List Env) (s:Shared) (H:Hp) (vs:List V) (Q:VK) (E:XK),Room k (A.deeper (envOfC qual (defScope st) s.heap.objs.size f cdv))→sp vs H Q E→
   ∃t,PSs (Kh CX0 P w K mg base N qual (defScope st) f cdv A outer s H E).nox (defBody st) t∧t { nx:=fun _ H'=>Q .non H',rt:=Q } (start N vs) H):FnOk P w K mg base CX0 (k+1) f fd ps sp:=by
 obtain⟨oc,od,kV,doc,pm,an,cdv,ct,osl,rfl,lk,hcd⟩:=F.ex;refine Abb lk hcd S len fun A outer s H vs Q E hr hsp=>?_;obtain⟨t,h,q⟩:=hbody cdv A outer s H vs Q E hr hsp;exact⟨t,h.nox,q⟩
theorem Fun.binds{x qual:Str}{st:Stmt}{f:Addr}{fd:FuncData}{ps:List Str}(F:Fun K x qual st f fd)(h:∀(kV doc pm:Value) (an:Option Addr) (cdv ct:Value) (us:List Value),us.length=ps.length→bindArgs (W.fnOf x qual (defArgs st) (defBody st) (defScope st) .none kV doc pm an cdv ct) ⟨us,[]⟩=pure (ps.zip us)):Binds K fd ps []:=by
 obtain⟨oc,od,kV,doc,pm,an,cdv,ct,osl,rfl,lk,hcd⟩:=F.ex;exact .all (h kV doc pm an cdv ct)
theorem Kv{x qual:Str}{st:Stmt}{f:Addr}{oc:Value}{od an:Option Addr}{osl:Array (Option Value)}{kV doc pm cdv ct:Value}(l:K.lookup f=some ⟨oc,od,.func (W.fnOf x qual (defArgs st) (defBody st) (defScope st) .none kV doc pm an cdv ct),osl⟩)(c:W.codeIn K cdv qual=true)(k:W.keepIn K (.ref f)=true):Fun K x qual st f (W.fnOf x qual (defArgs st) (defBody st) (defScope st) .none kV doc pm an cdv ct):=⟨⟨oc,od,kV,doc,pm,an,cdv,ct,osl,rfl,l,c⟩,k⟩
end
theorem Rt{n:Nat}(h:n≤1000):n<sizeLine:=Nat.lt_of_le_of_lt h (by decide)

section
variable{X:Cx}
end
noncomputable def Same(H H':Hp):Prop:=∀b o,H b=some o→H' b=some o
theorem Same.trans{H H1 H2:Hp}(a:Same H H1)(b:Same H1 H2):Same H H2:=fun c o h=>b c o (a c o h)
theorem Same.free{H H':Hp}(e:Same H H'){l:Addr}(h:H' l=Option.none):H l=Option.none:=by
 cases q:H l with
 |none=>rfl
 |some o=>
  rw[e l o q] at h;cases h
section
variable{X:Cx}
end
section
variable{κ:Type}[DecidableEq κ]
end
end L2
namespace D3
open PySem PySem.Spec
open PyProof.Rows hiding St
open L2 hiding St
inductive D where
 |non|bl (b:Bool)|int (i:Int)|str (x:Str)|tup (ds:List D)|ref (a:Addr)|ty (n:String)|lint (ns:List Int)
 deriving Inhabited

noncomputable def RdI(K:W.Frag)(H:Hp)(a:Addr)(xs:List V):Prop:=(∃o,H a=some (.frz o (.lst xs)))∨
 ∃(o:Obj) (its:Array Value) (n:Nat),K.lookup a=some o∧o.cls=.type "list"∧o.dict=none∧o.data=.seq its n∧its.size≤sizeLine∧Vals xs its.toList
theorem RdI.sq{K:W.Frag}{H:Hp}{a:Addr}{xs:List V}(h:RdI K H a xs):SqL K H a xs:=h.elim (fun⟨o,e⟩=>.inl (.inr ⟨o,e⟩)) .inr
mutual
inductive DV (K:W.Frag) (H:Hp):D→V→Prop where
 |non:DV K H .non .non
 |bl (b:Bool):DV K H (.bl b) (.bl b)
 |int (i:Int):DV K H (.int i) (.int i)
 |str (x:Str):DV K H (.str x) (.str x)
 |ref (a:Addr):DV K H (.ref a) (.ref a)
 |ty (n:String):DV K H (.ty n) (.ty n)
 |lint {ns:List Int} {a:Addr} (e:RdI K H a (ns.map V.int)):DV K H (.lint ns) (.ref a)
 |tup {ds:List D} {a:Addr} {xs:List V} (e:H a=some (.tup xs)) (r:DVs K H ds xs):DV K H (.tup ds) (.ref a)
inductive DVs (K:W.Frag) (H:Hp):List D→List V→Prop where
 |nil:DVs K H [] []
 |cons {d:D} {v:V} {ds:List D} {vs:List V} (h:DV K H d v) (t:DVs K H ds vs):DVs K H (d::ds) (v::vs)
end
structure Ext(H H':Hp):Prop where
 tup:∀b xs,H b=some (.tup xs)→H' b=some (.tup xs)
 frz:∀b o u,H b=some (.frz o u)→H' b=some (.frz o u)
theorem Ext.refl(H:Hp):Ext H H:=⟨fun _ _ h=>h,fun _ _ _ h=>h⟩
theorem Ext.trans{H H1 H2:Hp}(a:Ext H H1)(b:Ext H1 H2):Ext H H2:=⟨fun c xs h=>b.tup c xs (a.tup c xs h),fun c o u h=>b.frz c o u (a.frz c o u h)⟩
theorem Ext.fresh{H:Hp}{p:Addr}{o:HO}(h:H p=none):Ext H (upd H p o):=⟨fun b xs e=>by
 rw[Ad (Ao e h)];exact e,fun b ob u e=>by rw[Ad (Ao e h)];exact e⟩
theorem Ext.write{H:Hp}{p:Addr}{o u:HO}(h:H p=some u)(n:∀xs,u≠.tup xs)(m:∀ob w,u≠.frz ob w):Ext H (upd H p o):=⟨fun b xs e=>by
 rw[Ad (F1 e h fun z=>n xs z.symm)];exact e,fun b ob w e=>by rw[Ad (F1 e h fun z=>m ob w z.symm)];exact e⟩
theorem RdI.ext{K:W.Frag}{H H':Hp}{a:Addr}{xs:List V}(h:RdI K H a xs)(x:Ext H H'):RdI K H' a xs:=h.elim (fun⟨o,e⟩=>.inl ⟨o,x.frz _ _ _ e⟩) .inr
section
variable{K:W.Frag}
mutual
theorem DV.ext{H H':Hp}(x:Ext H H'):∀{d:D} {v:V},DV K H d v→DV K H' d v
 |_,_,.non=>.non
 |_,_,.bl b=>.bl b
 |_,_,.int i=>.int i
 |_,_,.str s=>.str s
 |_,_,.ref a=>.ref a
 |_,_,.ty n=>.ty n
 |_,_,.lint e=>.lint (e.ext x)
 |_,_,.tup e r=>.tup (x.tup _ _ e) (DVs.ext x r)
theorem DVs.ext{H H':Hp}(x:Ext H H'):∀{ds:List D} {vs:List V},DVs K H ds vs→DVs K H' ds vs
 |_,_,.nil=>.nil
 |_,_,.cons h t=>.cons (DV.ext x h) (DVs.ext x t)
end
theorem DVs.length{H:Hp}:∀{ds:List D} {vs:List V},DVs K H ds vs→ds.length=vs.length
 |_,_,.nil=>rfl
 |_,_,.cons _ t=>congrArg (· + 1) t.length
theorem DVs.get{H:Hp}:∀{ds:List D} {vs:List V} {i:Nat} {d:D},DVs K H ds vs→ds[i]? = some d→∃v,vs[i]? = some v∧DV K H d v
 |_,_,_,_,.nil,e=>by simp at e
 |_,_,0,_,.cons h _,e=>by simp at e;subst e;exact⟨_,rfl,h⟩
 |_,_,i+1,d,.cons _ t,e=>by
  obtain⟨v,h1,h2⟩:=DVs.get (i:=i) (d:=d) t (by simpa using e)
  exact⟨v,by simpa using h1,h2⟩
theorem DVs.get'{H:Hp}:∀{ds:List D} {vs:List V} {i:Nat} {v:V},DVs K H ds vs→vs[i]? = some v→∃d,ds[i]? = some d∧DV K H d v
 |_,_,_,_,.nil,e=>by simp at e
 |_,_,0,_,.cons h _,e=>by simp at e;subst e;exact⟨_,rfl,h⟩
 |_,_,i+1,d,.cons _ t,e=>by
  obtain⟨v,h1,h2⟩:=DVs.get' (i:=i) (v:=d) t (by simpa using e)
  exact⟨v,by simpa using h1,h2⟩
theorem DVs.append{H:Hp}:∀{ds es:List D} {vs ws:List V},DVs K H ds vs→DVs K H es ws→DVs K H (ds++es) (vs++ws)
 |_,_,_,_,.nil,s=>s
 |_,_,_,_,.cons h t,s=>.cons h (t.append s)
theorem DVs.set{H:Hp}{d:D}{v:V}(r:DV K H d v):∀{ds:List D} {vs:List V} (i:Nat),DVs K H ds vs→DVs K H (ds.set i d) (vs.set i v)
 |_,_,_,.nil=>.nil
 |_,_,0,.cons _ t=>.cons r t
 |_,_,i+1,.cons h t=>.cons h (DVs.set r i t)
theorem DVs.take{H:Hp}:∀{ds:List D} {vs:List V} (n:Nat),DVs K H ds vs→DVs K H (ds.take n) (vs.take n)
 |_,_,0,_=>.nil
 |_,_,_+1,.nil=>.nil
 |_,_,n+1,.cons h t=>.cons h (t.take n)
theorem DVs.drop{H:Hp}:∀{ds:List D} {vs:List V} (n:Nat),DVs K H ds vs→DVs K H (ds.drop n) (vs.drop n)
 |_,_,0,r=>r
 |_,_,_+1,.nil=>.nil
 |_,_,n+1,.cons _ t=>t.drop n
theorem DVs.ints{H:Hp}:∀{ns:List Int},DVs K H (ns.map D.int) (ns.map V.int)
 |[]=>.nil
 |_::_=>.cons (.int _) DVs.ints
theorem DVs.one{H:Hp}{d:D}{vs:List V}(r:DVs K H [d] vs):∃v,vs=[v]∧DV K H d v:=by
 cases r with|cons h t=>cases t;exact⟨_,rfl,h⟩
theorem DVs.two{H:Hp}{d e:D}{vs:List V}(r:DVs K H [d,e] vs):∃v w,vs=[v,w]∧DV K H d v∧DV K H e w:=by
 cases r with|cons h t=>cases t with|cons h' t'=>cases t';exact⟨_,_,rfl,h,h'⟩

end
noncomputable def kD:Key→D
 |.inl i=>.int i
 |.inr x=>.str x

inductive GO where
 |lst (ds:List D)
 |dct (kvs:List (List Key×D))
 |dkk (kvs:List (Key×D))
 /-- an instance of the class at C,its attributes -/
 |ins (C:Addr) (fs:List (Str×D))
 /-- the codes that were made within a def;q: how they are called -/
 |tbl (q:Str)
 /-- a thing that never changes,of which ok holds (a function,an exception) -/
 |any (ok:Hp→Addr→Prop)
noncomputable abbrev Gp:=Addr→Option GO
noncomputable def Ab(G:Gp)(a:Addr)(o:GO):Gp:=fun b=>if b=a then some o else G b
theorem Aa{G:Gp}{a:Addr}{o:GO}:Ab G a o a=some o:=if_pos rfl
theorem Ac{G:Gp}{a b:Addr}{o:GO}(h:b≠a):Ab G a o b=G b:=if_neg h
theorem Cz{G:Gp}{a:Addr}{o u:GO}:Ab (Ab G a o) a u=Ab G a u:=by
 funext b;unfold Ab;split<;>rfl
theorem Fj{G:Gp}{a b:Addr}{o u:GO}(h:a≠b):Ab (Ab G a o) b u=Ab (Ab G b u) a o:=by
 funext c;unfold Ab
 by_cases h1:c=b
 ·by_cases h2:c=a
  ·exact absurd (h2.symm.trans h1) h
  ·simp[h1,Ne.symm h]
 ·by_cases h2:c=a<;>simp[h1,h2,h]
theorem Ji{G:Gp}{a:Addr}{o:GO}(h:G a=some o):Ab G a o=G:=by
 funext b;unfold Ab
 by_cases h1:b=a
 ·subst h1;rw[if_pos rfl,h]
 ·rw[if_neg h1]
theorem gne{G:Gp}{a b:Addr}{o:GO}(h:G a=some o)(h':G b=none):a≠b:=by
 intro e;subst e;rw[h] at h';cases h'

noncomputable def Kx(o:Obj)(q:Str):Prop:=∃vs t,o.data=.fields vs∧vs[1]? = some (.str q t)
noncomputable def GOk(K:W.Frag)(H:Hp)(a:Addr):GO→Prop
 |.lst ds=>∃xs,H a=some (.lst xs)∧DVs K H ds xs
 |.dct kvs=>∃ks,H a=some (.dT ks)∧Paired (fun(p:List Key×D) (q:List Key×V)=>p.1=q.1∧DV K H p.2 q.2) kvs ks
 |.dkk kvs=>∃ks,H a=some (.dK ks)∧Paired (fun(p:Key×D) (q:Key×V)=>p.1=q.1∧DV K H p.2 q.2) kvs ks
 |.ins C fs=>∃dx ks,H a=some (.ins C dx ks)∧Paired (fun(p:Str×D) (q:Str×V)=>p.1=q.1∧DV K H p.2 q.2) fs ks
 |.tbl q=>∃ps,H a=some (.tbl ps)∧TriplesOk ps.toList∧∀pos cv,codeAmong pos ps.toList=some cv→∃c o u,cv=.ref c∧H c=some (.frz o u)∧Kx o q
 |.any ok=>(∃o u,H a=some (.frz o u))∧∀H',Ext H H'→ok H' a
noncomputable def RelG(K:W.Frag)(H:Hp)(G:Gp):Prop:=∀a o,G a=some o→GOk K H a o

theorem GOk.upd{K:W.Frag}{H:Hp}{a p:Addr}{o:GO}{u:HO}(h:GOk K H a o)(x:Ext H (L2.upd H p u))(n:H p=none∨a≠p):GOk K (L2.upd H p u) a o:=by
 have ne:∀u,H a=some u→a≠p:=fun u e=>n.elim (fun z=>Ao e z) id;cases o with
 |lst ds=>obtain⟨xs,e,r⟩:=h;exact⟨xs,by rw[Ad (ne _ e)];exact e,r.ext x⟩
 |dct kvs=>obtain⟨ks,e,r⟩:=h;exact⟨ks,by rw[Ad (ne _ e)];exact e,L2.Paired.mapP r fun _ _ z=>⟨z.1,z.2.ext x⟩⟩
 |dkk kvs=>obtain⟨ks,e,r⟩:=h;exact⟨ks,by rw[Ad (ne _ e)];exact e,L2.Paired.mapP r fun _ _ z=>⟨z.1,z.2.ext x⟩⟩
 |ins C fs=>obtain⟨dx,ks,e,r⟩:=h;exact⟨dx,ks,by rw[Ad (ne _ e)];exact e,L2.Paired.mapP r fun _ _ z=>⟨z.1,z.2.ext x⟩⟩
 |tbl q=>obtain⟨ps,e,t,r⟩:=h;exact⟨ps,by rw[Ad (ne _ e)];exact e,t,fun pos cv h1=>let ⟨c,o,u,a1,a2,a3⟩:=r pos cv h1;⟨c,o,u,a1,x.frz _ _ _ a2,a3⟩⟩
 |any ok=>obtain⟨⟨o,u,e⟩,r⟩:=h;exact⟨⟨o,u,x.frz _ _ _ e⟩,fun H' y=>r H' (x.trans y)⟩
theorem RelG.free{K:W.Frag}{H:Hp}{G:Gp}(r:RelG K H G){p:Addr}(h:H p=none):G p=none:=by
 cases q:G p with
 |none=>rfl
 |some o=>
  have z:=r p o q;cases o with
  |lst ds=>obtain⟨_,e,_⟩:=z;rw[h] at e;cases e
  |dct ds=>obtain⟨_,e,_⟩:=z;rw[h] at e;cases e
  |dkk ds=>obtain⟨_,e,_⟩:=z;rw[h] at e;cases e
  |ins C fs=>obtain⟨_,_,e,_⟩:=z;rw[h] at e;cases e
  |tbl q=>obtain⟨_,e,_⟩:=z;rw[h] at e;cases e
  |any ok=>obtain⟨⟨_,_,e⟩,_⟩:=z;rw[h] at e;cases e
theorem RelG.tup{K:W.Frag}{H:Hp}{G:Gp}(r:RelG K H G){p:Addr}{u:HO}(h:H p=none):RelG K (upd H p u) G:=fun a o e=>(r a o e).upd (Ext.fresh h) (.inl h)
theorem RelG.ext'{K:W.Frag}{H:Hp}{G G':Gp}(r:RelG K H G)(s:∀a o,G' a=some o→G a=some o):RelG K H G':=fun a o e=>r a o (s a o e)

noncomputable abbrev DSt:=List (Option D)
noncomputable abbrev St:=L2.St
noncomputable def RelS(K:W.Frag)(H:Hp)(σD:DSt)(σ:St):Prop:=σD.length=σ.length∧∀(i:Nat) d,σD[i]? = some (some d)→∃v,σ[i]? = some (some v)∧DV K H d v
theorem RelS.ext{K:W.Frag}{H H':Hp}{σD:DSt}{σ:St}(r:RelS K H σD σ)(x:Ext H H'):RelS K H' σD σ:=⟨r.1,fun i d e=>let ⟨v,h1,h2⟩:=r.2 i d e;⟨v,h1,h2.ext x⟩⟩
theorem RelS.set{K:W.Frag}{H:Hp}{σD:DSt}{σ:St}(r:RelS K H σD σ){d:D}{v:V}(h:DV K H d v)(i:Nat):RelS K H (σD.set i (some d)) (σ.set i (some v)):=by
 refine⟨by rw[List.length_set,List.length_set];exact r.1,fun j e q=>?_⟩
 by_cases hj:i=j
 ·subst hj;rw[List.getElem?_set] at q ⊢;rw[if_pos rfl] at q ⊢;have hl:=r.1
  split at q
  ·rename_i hi;cases q;exact⟨v,by rw[if_pos (by omega)],h⟩
  ·cases q
 ·rw[List.getElem?_set_ne hj] at q ⊢;exact r.2 j e q

noncomputable abbrev DK:=D→Gp→Prop
noncomputable abbrev DTE:=DSt→Gp→DK→Prop
noncomputable abbrev DTT:=DSt→Gp→(Bool→Gp→Prop)→Prop
noncomputable abbrev DTA:=DSt→Gp→(List D→Gp→Prop)→Prop
structure DEnds where
 nx:DSt→Gp→Prop
 rt:DK
 bk:DSt→Gp→Prop:=fun _ _=>False
 ct:DSt→Gp→Prop:=fun _ _=>False
noncomputable abbrev DTS:=DEnds→DSt→Gp→Prop

noncomputable def Fwd(K:W.Frag)(H:Hp)(G':Gp)(Q:Hp→Prop):Prop:=∀H',Ext H H'→RelG K H' G'→Q H'
theorem Fwd.go{K:W.Frag}{H H1:Hp}{G':Gp}{Q:Hp→Prop}(f:Fwd K H G' Q)(x:Ext H H1):Fwd K H1 G' Q:=fun H' y r=>f H' (x.trans y) r

noncomputable def Bp(K:W.Frag)(t:DTE):TE:=fun σ H Q=>∃σD G Q',RelS K H σD σ∧RelG K H G∧t σD G Q'∧∀d G',Q' d G'→Fwd K H G' fun H'=>∀v,DV K H' d v→Q v H'
noncomputable def D5(K:W.Frag)(t:DTT):TT:=fun σ H Q=>∃σD G Q',RelS K H σD σ∧RelG K H G∧t σD G Q'∧∀b G',Q' b G'→Fwd K H G' fun H'=>Q b H'
noncomputable def Aa7(K:W.Frag)(t:DTA):TA:=fun σ H Q=>∃σD G Q',RelS K H σD σ∧RelG K H G∧t σD G Q'∧∀ds G',Q' ds G'→Fwd K H G' fun H'=>∀vs,DVs K H' ds vs→Q vs H'
structure DEnds.Reach(K:W.Frag)(H:Hp)(D:DEnds)(E:Ends):Prop where
 nx:∀σD G',D.nx σD G'→Fwd K H G' fun H'=>∀σ,RelS K H' σD σ→E.nx σ H'
 rt:∀d G',D.rt d G'→Fwd K H G' fun H'=>∀v,DV K H' d v→E.rt v H'
 bk:∀σD G',D.bk σD G'→Fwd K H G' fun H'=>∀σ,RelS K H' σD σ→E.bk σ H'
 ct:∀σD G',D.ct σD G'→Fwd K H G' fun H'=>∀σ,RelS K H' σD σ→E.ct σ H'
theorem DEnds.Reach.go{K:W.Frag}{H H1:Hp}{D:DEnds}{E:Ends}(r:D.Reach K H E)(x:Ext H H1):D.Reach K H1 E:=
 ⟨fun σ G h=>(r.nx σ G h).go x,fun d G h=>(r.rt d G h).go x,fun σ G h=>(r.bk σ G h).go x,fun σ G h=>(r.ct σ G h).go x⟩
noncomputable def F3(K:W.Frag)(t:DTS):TS:=fun E σ H=>∃σD G D,RelS K H σD σ∧RelG K H G∧t D σD G∧D.Reach K H E

noncomputable def QE(X:Cx)(e:Expr)(t:DTE):Prop:=PE X e (Bp X.K t)
noncomputable def QT(X:Cx)(e:Expr)(t:DTT):Prop:=PT X e (D5 X.K t)
noncomputable def QW(X:Cx)(e:Expr)(t:DTT):Prop:=PW X e (D5 X.K t)
noncomputable def QA(X:Cx)(es:List Expr)(t:DTA):Prop:=PA X es (Aa7 X.K t)
noncomputable def QS(X:Cx)(s:Stmt)(t:DTS):Prop:=PS X s (F3 X.K t)
noncomputable def QSs(X:Cx)(s:List Stmt)(t:DTS):Prop:=PSs X s (F3 X.K t)

theorem _root_.L2.PE.imp{X:Cx}{e:Expr}{t t':TE}(h:PE X e t)(f:∀σ H Q,t' σ H Q→t σ H Q):PE X e t':=fun pins s σ H Q I q=>h pins s σ H Q I (f σ H Q q)
theorem _root_.L2.PT.imp{X:Cx}{e:Expr}{t t':TT}(h:PT X e t)(f:∀σ H Q,t' σ H Q→t σ H Q):PT X e t':=fun pins s σ H Q I q=>h pins s σ H Q I (f σ H Q q)
theorem _root_.L2.PW.imp{X:Cx}{e:Expr}{t t':TT}(h:PW X e t)(f:∀σ H Q,t' σ H Q→t σ H Q):PW X e t':=fun w pins s σ H Q I q=>h w pins s σ H Q I (f σ H Q q)
theorem _root_.L2.PA.imp{X:Cx}{e:List Expr}{t t':TA}(h:PA X e t)(f:∀σ H Q,t' σ H Q→t σ H Q):PA X e t':=fun p pins s σ H Q I q=>h p pins s σ H Q I (f σ H Q q)
theorem _root_.L2.PS.imp{X:Cx}{e:Stmt}{t t':TS}(h:PS X e t)(f:∀D σ H,t' D σ H→t D σ H):PS X e t':=fun pins s σ H D I q=>h pins s σ H D I (f D σ H q)
theorem _root_.L2.PSs.imp{X:Cx}{e:List Stmt}{t t':TS}(h:PSs X e t)(f:∀D σ H,t' D σ H→t D σ H):PSs X e t':=fun pins s σ H D I q=>h pins s σ H D I (f D σ H q)

section
variable{X:Cx}{a b c e:Expr}{ta tb tc te:DTE}{pos:Pos}
noncomputable def Xj(i:Nat):DTE:=fun σ G Q=>∃d,σ[i]? = some (some d)∧Q d G
noncomputable def nC(d:D):DTE:=fun _ G Q=>Q d G
theorem Aaj{i:Nat}{x:Str}(hN:X.N[i]? = some x:=by rfl)(hv:Vis X.env.scope x:=by first|exact Or.inl rfl|exact Or.inr (Or.inl rfl)|exact Or.inr (Or.inr rfl))(hd:(x == ("__debug__" : Str))=false:=by decide)(hcd:(x == ("__classdict__" : Str))=false:=by decide):QE X (.Name x pos) (Xj i):=(Ur hN hv hd hcd).imp fun σ H Q zz=>by
 obtain⟨σD,G,Q',rs,rg,⟨d,e,q⟩,cl⟩:=zz;obtain⟨v,e1,r⟩:=rs.2 i d e;exact⟨v,e1,cl d G q H (Ext.refl H) rg v r⟩
theorem Gw{v:V}{d:D}(h:PE X e (tC v))(r:∀H,DV X.K H d v):QE X e (nC d):=h.imp fun σ H Q ⟨σD,G,Q',rs,rg,q,cl⟩=>cl d G q H (Ext.refl H) rg v (r H)
theorem q_int{i j pos}:QE X (.Constant (.int i) j pos) (nC (.int i)):=Gw Adl fun _=>.int i
theorem q_bl{b j pos}:QE X (.Constant (.bool b) j pos) (nC (.bl b)):=Gw pe_bl fun _=>.bl b
theorem q_non{j pos}:QE X (.Constant .none j pos) (nC .non):=Gw Adi fun _=>.non
theorem Aal{x j pos}:QE X (.Constant (.str x) j pos) (nC (.str x)):=Gw Adf fun _=>.str x
theorem Acw{x:Str}{i:Int}{t:Tok}(hm:X.mg x=some (.int i t))(hg:Gl X x:=by rfl)(hd:(x == ("__debug__" : Str))=false:=by decide):QE X (.Name x pos) (nC (.int i)):=Gw (v:=.int i) (Qs hg hm ⟨t,rfl⟩ hd) fun _=>.int i
theorem Vn{x:Str}{n:String}(hm:X.mg x=none)(hv:bootBuiltins x=some (.type n))(hg:Gl X x:=by rfl)(hn:x≠"__name__":=by decide)(hd:(x == ("__debug__" : Str))=false:=by decide):QE X (.Name x pos) (nC (.ty n)):=
 Gw (v:=.ty n) (Yx hg hm hv rfl hn hd) fun _=>.ty n

noncomputable abbrev DR2:=D→D→Gp→DK→Prop
noncomputable def Jd(K:W.Frag)(r:DR2):R2:=fun x y H Q=>∃dx dy G Q',DV K H dx x∧DV K H dy y∧RelG K H G∧r dx dy G Q'∧∀d G',Q' d G'→Fwd K H G' fun H'=>∀v,DV K H' d v→Q v H'
noncomputable def QOp(X:Cx)(f:Value→Value→Sem Value)(r:DR2):Prop:=OpR X f (Jd X.K r)
theorem _root_.L2.OpR.imp{f:Value→Value→Sem Value}{r r':R2}(h:OpR X f r)(g:∀x y H Q,r' x y H Q→r x y H Q):OpR X f r':=fun pins s σ H x y v u Q I rx ry q=>h pins s σ H x y v u Q I rx ry (g x y H Q q)
noncomputable def nOp(r:DR2)(ta tb:DTE):DTE:=fun σ G Q=>ta σ G fun x G1=>tb σ G1 fun y G2=>r x y G2 Q
theorem Gs{K:W.Frag}{r:DR2}{σ:St}{H:Hp}{Q:VK}(h:Bp K (nOp r ta tb) σ H Q):tOp (Jd K r) (Bp K ta) (Bp K tb) σ H Q:=by
 obtain⟨σD,G,Q',rs,rg,h,cl⟩:=h;refine⟨σD,G,_,rs,rg,h,fun x G1 h1 H1 x1 rg1 v1 d1=>?_⟩;refine⟨σD,G1,_,rs.ext x1,rg1,h1,fun y G2 h2 H2 x2 rg2 v2 d2=>?_⟩;exact⟨x,y,G2,Q',d1.ext x2,d2,rg2,h2,fun d G' q=>(cl d G' q).go (x1.trans x2)⟩
theorem q_op{op:Operator}{r:DR2}(ho:QOp X (binaryOp op) r)(ha:QE X a ta)(hb:QE X b tb):QE X (.BinOp a op b pos) (nOp r ta tb):=(pe_op ho ha hb).imp fun _ _ _ h=>Gs h
noncomputable def dI(C:Int→Int→Prop)(g:Int→Int→D):DR2:=fun x y G Q=>∃i,x=.int i∧∃j,y=.int j∧C i j∧Q (g i j) G
noncomputable def dI0(g:Int→Int→D):DR2:=fun x y G Q=>∃i,x=.int i∧∃j,y=.int j∧Q (g i j) G
theorem T6{f:Value→Value→Sem Value}{C:Int→Int→Prop}{g:Int→Int→V}{g':Int→Int→D}(h:OpR X f (rI C g))(e:∀H i j,DV X.K H (g' i j) (g i j)):QOp X f (dI C g'):=L2.OpR.imp h fun x y H Q zz=>by
 obtain⟨dx,dy,G,Q',hx,hy,rg,⟨i,ei,j,ej,c,q⟩,cl⟩:=zz;subst ei ej;cases hx;cases hy;exact⟨i,j,rfl,rfl,c,cl _ G q H (Ext.refl H) rg _ (e H i j)⟩
theorem Ko{f:Value→Value→Sem Value}{g:Int→Int→V}{g':Int→Int→D}(h:OpR X f (rI0 g))(e:∀H i j,DV X.K H (g' i j) (g i j)):QOp X f (dI0 g'):=L2.OpR.imp h fun x y H Q zz=>by
 obtain⟨dx,dy,G,Q',hx,hy,rg,⟨i,ei,j,ej,q⟩,cl⟩:=zz;subst ei ej;cases hx;cases hy;exact⟨i,j,rfl,rfl,cl _ G q H (Ext.refl H) rg _ (e H i j)⟩
theorem o_sub:QOp X (binaryOp .Sub) (dI0 fun i j=>.int (i-j)):=Ko Ado fun _ _ _=>.int _
theorem T8:QOp X (binaryOp .Mult) (dI CMul fun i j=>.int (i*j)):=T6 Adp fun _ _ _=>.int _
theorem Ad0:QOp X (binaryOp .FloorDiv) (dI T4 fun i j=>.int (i / j)):=T6 Yz fun _ _ _=>.int _
theorem o_mod:QOp X (binaryOp .Mod) (dI (fun _ j=>0<j) fun i j=>.int (i % j)):=T6 Adq fun _ _ _=>.int _
theorem o_lt:QOp X (compareOp .Lt) (dI0 fun i j=>.bl (decide (i<j))):=Ko op_lt fun _ _ _=>.bl _
theorem o_le:QOp X (compareOp .LtE) (dI0 fun i j=>.bl (decide (i≤j))):=Ko op_le fun _ _ _=>.bl _
theorem o_gt:QOp X (compareOp .Gt) (dI0 fun i j=>.bl (decide (j<i))):=Ko op_gt fun _ _ _=>.bl _
end
section
variable{K:W.Frag}
theorem RelG.lst{H:Hp}{G:Gp}(r:RelG K H G){p:Addr}{ds:List D}{xs:List V}(hp:H p=none)(rv:DVs K H ds xs):RelG K (upd H p (.lst xs)) (Ab G p (.lst ds)):=fun a o e=>by
 by_cases h:a=p
 ·subst h;rw[Aa] at e;cases e;exact⟨xs,Ah,rv.ext (Ext.fresh hp)⟩
 ·rw[Ac h] at e;exact(r a o e).upd (Ext.fresh hp) (.inl hp)
theorem Dy{H:Hp}{p:Addr}{xs:List V}{o:HO}(h:H p=some (.lst xs)):Ext H (upd H p o):=Ext.write h (fun _ z=>nomatch z) fun _ _ z=>nomatch z
theorem RelG.lstw{H:Hp}{G:Gp}(r:RelG K H G){p:Addr}{ds:List D}{xs ys:List V}(hp:H p=some (.lst ys))(rv:DVs K H ds xs):RelG K (upd H p (.lst xs)) (Ab G p (.lst ds)):=fun a o e=>by
 by_cases h:a=p
 ·subst h;rw[Aa] at e;cases e;exact⟨xs,Ah,rv.ext (Dy hp)⟩
 ·rw[Ac h] at e;exact(r a o e).upd (Dy hp) (.inr h)
end
section
variable{X:Cx}{a b c e:Expr}{ta tb tc te:DTE}{pos:Pos}
noncomputable def Qa(t:DTE):DTT:=fun σ G Q=>t σ G fun x G'=>∃k,x=.bl k∧Q k G'
theorem Jt{K:W.Frag}{t:DTE}{σ:St}{H:Hp}{Q:Bool→Hp→Prop}(h:D5 K (Qa t) σ H Q):Bp K t σ H fun x H'=>∃k,x=.bl k∧Q k H':=by
 obtain⟨σD,G,Q',rs,rg,h,cl⟩:=h;refine⟨σD,G,_,rs,rg,h,fun d G' zz H' x r v dv=>?_⟩;obtain⟨k,ek,q⟩:=zz;subst ek;cases dv;exact⟨k,rfl,cl k G' q H' x r⟩
theorem q_cmp{op:CmpOp}{r:DR2}(ho:QOp X (compareOp op) r)(ha:QE X a ta)(hb:QE X b tb)(hm:behindInMarks op b=false):QE X (.Compare a [op] [b] pos) (nOp r ta tb):=(Yv ho ha hb hm).imp fun _ _ _ h=>Gs h
theorem qt_cmp{op:CmpOp}{r:DR2}(ho:QOp X (compareOp op) r)(ha:QE X a ta)(hb:QE X b tb)(hm:behindInMarks op b=false):QT X (.Compare a [op] [b] pos) (Qa (nOp r ta tb)):=
 (Yo ho ha hb hm).imp fun _ _ _ h=>Gs (Jt h)
noncomputable def Kr(r r':DR2)(ta tb tc:DTE):DTE:=fun σ G Q=>ta σ G fun x G1=>tb σ G1 fun y G2=>r x y G2 fun z G3=>∃k,z=.bl k∧
 (if k=true then tc σ G3 fun w' G4=>r' y w' G4 Q else Q (.bl false) G3)
theorem Hw{K:W.Frag}{r r':DR2}{σ:St}{H:Hp}{Q:VK}(h:Bp K (Kr r r' ta tb tc) σ H Q):Og (Jd K r) (Jd K r') (Bp K ta) (Bp K tb) (Bp K tc) σ H Q:=by
 obtain⟨σD,G,Q',rs,rg,h,cl⟩:=h;refine⟨σD,G,_,rs,rg,h,fun x G1 h1 H1 x1 rg1 v1 d1=>?_⟩;refine⟨σD,G1,_,rs.ext x1,rg1,h1,fun y G2 h2 H2 x2 rg2 v2 d2=>?_⟩;refine⟨x,y,G2,_,d1.ext x2,d2,rg2,h2,fun z G3 h3 H3 x3 rg3 v3 d3=>?_⟩;obtain⟨k,ek,h3⟩:=h3;subst ek;cases d3;refine⟨k,rfl,?_⟩;cases k with
 |true=>
  rw[if_pos rfl] at h3 ⊢;refine⟨σD,G3,_,rs.ext (x1.trans (x2.trans x3)),rg3,h3,fun w4 G4 h4 H4 x4 rg4 v4 d4=>?_⟩;exact⟨y,w4,G4,Q',d2.ext (x3.trans x4),d4,rg4,h4,fun d G' q=>(cl d G' q).go (x1.trans (x2.trans (x3.trans x4)))⟩
 |false=>
  rw[if_neg Bool.false_ne_true] at h3 ⊢;exact cl _ G3 h3 H3 (x1.trans (x2.trans x3)) rg3 _ (.bl false)
theorem q_chain{op op':CmpOp}{r r':DR2}(ho:QOp X (compareOp op) r)(ho':QOp X (compareOp op') r')(ha:QE X a ta)(hb:QE X b tb)(hc:QE X c tc)(hm:lastMarks [op,op'] [b,c]=false:=by with_unfolding_all rfl):QE X (.Compare a [op,op'] [b,c] pos) (Kr r r' ta tb tc):=(V4 ho ho' ha hb hc hm).imp fun _ _ _ h=>Hw h
theorem qt_chain{op op':CmpOp}{r r':DR2}(ho:QOp X (compareOp op) r)(ho':QOp X (compareOp op') r')(ha:QE X a ta)(hb:QE X b tb)(hc:QE X c tc)(hm:lastMarks [op,op'] [b,c]=false:=by with_unfolding_all rfl):QT X (.Compare a [op,op'] [b,c] pos) (Qa (Kr r r' ta tb tc)):=(Vr ho ho' ha hb hc hm).imp fun _ _ _ h=>Hw (Jt h)

noncomputable def eqS:D→D→Option Bool
 |.int i,.int j=>some (decide (i=j))
 |.bl i,.bl j=>some (decide (i=j))
 |.str i,.str j=>some (decide (i=j))
 |.non,.non=>some true
 |.non,.int _=>some false|.int _,.non=>some false|.non,.bl _=>some false|.bl _,.non=>some false|.non,.str _=>some false|.str _,.non=>some false
 |.int _,.str _=>some false|.str _,.int _=>some false|.bl _,.str _=>some false|.str _,.bl _=>some false
 |_,_=>none
theorem M4{H:Hp}{K:W.Frag}{x y:D}{v u:V}{k:Bool}(h:eqS x y=some k)(hx:DV K H x v)(hy:DV K H y u):scal v u=true∧decide (v=u)=k:=by
 cases hx<;>cases hy<;>simp only[eqS,Option.some.injEq,reduceCtorEq] at h<;>subst h<;>refine⟨rfl,?_⟩<;>simp
noncomputable def dEq:DR2:=fun x y G Q=>∃k,eqS x y=some k∧Q (.bl k) G
noncomputable def dNe:DR2:=fun x y G Q=>∃k,eqS x y=some k∧Q (.bl (!k)) G
theorem o_eq:QOp X (compareOp .Eq) dEq:=L2.OpR.imp op_eq fun x y H Q zz=>by
 obtain⟨dx,dy,G,Q',hx,hy,rg,⟨k,ek,q⟩,cl⟩:=zz;obtain⟨h1,h2⟩:=M4 ek hx hy;refine⟨h1,?_⟩;rw[h2];exact cl _ G q H (Ext.refl H) rg _ (.bl k)
theorem o_ne:QOp X (compareOp .NotEq) dNe:=L2.OpR.imp op_ne fun x y H Q zz=>by
 obtain⟨dx,dy,G,Q',hx,hy,rg,⟨k,ek,q⟩,cl⟩:=zz;obtain⟨h1,h2⟩:=M4 ek hx hy;refine⟨h1,?_⟩;rw[h2];exact cl _ G q H (Ext.refl H) rg _ (.bl (!k))
noncomputable def isN:D→Bool
 |.non=>true
 |_=>false
theorem Aec{H:Hp}{K:W.Frag}{d:D}{v:V}(h:DV K H d v):decide (v=.non)=isN d:=by cases h<;>simp[isN]
theorem o_notN:QOp X (compareOp .IsNot) (fun x y G Q=>y=.non∧Q (.bl (!isN x)) G):=L2.OpR.imp Yy fun x y H Q zz=>by
 obtain⟨dx,dy,G,Q',hx,hy,rg,⟨ey,q⟩,cl⟩:=zz;subst ey;cases hy;refine⟨rfl,?_⟩;rw[Aec hx];exact cl _ G q H (Ext.refl H) rg _ (.bl _)

variable{t u:DTT}{rest:List Expr}
noncomputable def nAnd(t u:DTT):DTT:=fun σ G Q=>t σ G fun c G1=>if c=true then u σ G1 Q else Q false G1
noncomputable def nOr(t u:DTT):DTT:=fun σ G Q=>t σ G fun c G1=>if c=true then Q true G1 else u σ G1 Q
noncomputable def nNot(t:DTT):DTT:=fun σ G Q=>t σ G fun c G1=>Q (!c) G1
theorem Yg(ha:QT X a t):QW X (.BoolOp .And [a] pos) t:=Yn ha
theorem Acg(ha:QT X a t):QW X (.BoolOp .Or [a] pos) t:=Acy ha
theorem Ach(ha:QT X a t)(hb:QW X (.BoolOp .And (b::rest) pos) u):QW X (.BoolOp .And (a::b::rest) pos) (nAnd t u):=(Acz ha hb).imp fun σ H Q zz=>by
 obtain⟨σD,G,Q',rs,rg,h,cl⟩:=zz;refine⟨σD,G,_,rs,rg,h,fun k G1 h1 H1 x1 rg1=>?_⟩;cases k with
 |true=>rw[if_pos rfl] at h1 ⊢;exact⟨σD,G1,Q',rs.ext x1,rg1,h1,fun b G' q=>(cl b G' q).go x1⟩
 |false=>rw[if_neg Bool.false_ne_true] at h1 ⊢;exact cl _ G1 h1 H1 x1 rg1
theorem qw_or(ha:QT X a t)(hb:QW X (.BoolOp .Or (b::rest) pos) u):QW X (.BoolOp .Or (a::b::rest) pos) (nOr t u):=(pw_or ha hb).imp fun σ H Q zz=>by
 obtain⟨σD,G,Q',rs,rg,h,cl⟩:=zz;refine⟨σD,G,_,rs,rg,h,fun k G1 h1 H1 x1 rg1=>?_⟩;cases k with
 |true=>rw[if_pos rfl] at h1 ⊢;exact cl _ G1 h1 H1 x1 rg1
 |false=>rw[if_neg Bool.false_ne_true] at h1 ⊢;exact⟨σD,G1,Q',rs.ext x1,rg1,h1,fun b G' q=>(cl b G' q).go x1⟩
theorem qt_of(h:QW X e t):QT X e t:=h.pt
theorem Acj(ha:QT X a t):QT X (.UnaryOp .Not a pos) (nNot t):=(Ac1 ha).imp fun σ H Q ⟨σD,G,Q',rs,rg,h,cl⟩=>
 ⟨σD,G,_,rs,rg,h,fun k G1 h1 H1 x1 rg1=>cl _ G1 h1 H1 x1 rg1⟩
noncomputable def Aa4(ta tb:DTE):DTE:=fun σ G Q=>ta σ G fun x G1=>∃c,x=.bl c∧if c=true then tb σ G1 Q else Q (.bl false) G1
noncomputable def Aav(ta:DTE):DTE:=fun σ G Q=>ta σ G fun x G1=>∃c,x=.bl c∧Q (.bl (!c)) G1
theorem q_one{op}(h:QE X a ta):QE X (.BoolOp op [a] pos) ta:=Adg h
theorem q_and(ha:QE X a ta)(hb:QE X (.BoolOp .And (b::rest) pos) tb):QE X (.BoolOp .And (a::b::rest) pos) (Aa4 ta tb):=(Adn ha hb).imp fun σ H Q zz=>by
 obtain⟨σD,G,Q',rs,rg,h,cl⟩:=zz;refine⟨σD,G,_,rs,rg,h,fun d G1 zz H1 x1 rg1 v dv=>?_⟩;obtain⟨k,ek,h1⟩:=zz;subst ek;cases dv;refine⟨k,rfl,?_⟩;cases k with
 |true=>rw[if_pos rfl] at h1 ⊢;exact⟨σD,G1,Q',rs.ext x1,rg1,h1,fun b G' q=>(cl b G' q).go x1⟩
 |false=>rw[if_neg Bool.false_ne_true] at h1 ⊢;exact cl _ G1 h1 H1 x1 rg1 _ (.bl false)
theorem q_not(ha:QE X a ta):QE X (.UnaryOp .Not a pos) (Aav ta):=(Adh ha).imp fun σ H Q zz=>by
 obtain⟨σD,G,Q',rs,rg,h,cl⟩:=zz;refine⟨σD,G,_,rs,rg,h,fun d G1 zz H1 x1 rg1 v dv=>?_⟩;obtain⟨k,ek,h1⟩:=zz;subst ek;cases dv;exact⟨k,rfl,cl _ G1 h1 H1 x1 rg1 _ (.bl _)⟩
noncomputable def nIf(t:DTT)(ta tb:DTE):DTE:=fun σ G Q=>t σ G fun c G1=>if c=true then ta σ G1 Q else tb σ G1 Q
theorem Yj(hc:QT X c t)(ha:QE X a ta)(hb:QE X b tb):QE X (.IfExp c a b pos) (nIf t ta tb):=(Vy hc ha hb).imp fun σ H Q zz=>by
 obtain⟨σD,G,Q',rs,rg,h,cl⟩:=zz;refine⟨σD,G,_,rs,rg,h,fun k G1 h1 H1 x1 rg1=>?_⟩;cases k with
 |true=>rw[if_pos rfl] at h1 ⊢;exact⟨σD,G1,Q',rs.ext x1,rg1,h1,fun b G' q=>(cl b G' q).go x1⟩
 |false=>rw[if_neg Bool.false_ne_true] at h1 ⊢;exact⟨σD,G1,Q',rs.ext x1,rg1,h1,fun b G' q=>(cl b G' q).go x1⟩
noncomputable def Rj(G:Gp):D→Option Bool
 |.non=>some false
 |.bl b=>some b
 |.int i=>some (i != 0)
 |.str y=>if y.length≤sizeLine then some ((y.length:Int) != 0) else none
 |.tup ds=>some (!ds.isEmpty)
 |.lint ns=>some (!ns.isEmpty)
 |.ref a=>match G a with
  |some (.lst ds)=>some (!ds.isEmpty)
  |some (.dkk kvs)=>some (!kvs.isEmpty)
  |_=>none
 |_=>none
theorem isE{K:W.Frag}{H:Hp}{ds:List D}{vs:List V}(r:DVs K H ds vs):ds.isEmpty=vs.isEmpty:=by cases r<;>rfl
theorem Xu{K:W.Frag}{H:Hp}{G:Gp}{d:D}{v:V}{k:Bool}(rg:RelG K H G)(h:Rj G d=some k)(r:DV K H d v):TruV K v H k:=by
 cases r with
 |non=>cases h;rfl
 |bl b=>cases h;rfl
 |int i=>cases h;rfl
 |str y=>
  simp only[Rj] at h
  split at h
  ·rename_i hy;cases h;exact⟨hy,rfl⟩
  ·cases h
 |tup e r=>
  cases h;exact .inr (.inl ⟨_,.inl (.inl e),by rw[isE r]⟩)
 |@lint ns a e=>
  cases h;exact .inl ⟨_,e.sq,by cases ns<;>rfl⟩
 |ref a=>
  simp only[Rj] at h
  split at h
  ·rename_i ds q;obtain⟨xs,e,r⟩:=rg a _ q;cases h;exact .inl ⟨xs,.inl (.inl e),by rw[isE r]⟩
  ·rename_i kvs q;obtain⟨xs,e,r⟩:=rg a _ q;cases h;exact .inr (.inr ⟨xs,e,by cases r<;>rfl⟩)
  ·cases h
 |ty n=>cases h
noncomputable def nTru(t:DTE):DTT:=fun σ G Q=>t σ G fun x G'=>∃k,Rj G' x=some k∧Q k G'
theorem Aci(ha:QE X a ta)(he:∀whole,isTrue a X.env whole=(do let v ←whole;standAt a.pos;holding [v] (truthy v)):=by intro _;rfl):QT X a (nTru ta):=(Vq ha he).imp fun σ H Q zz=>by
 obtain⟨σD,G,Q',rs,rg,h,cl⟩:=zz;refine⟨σD,G,_,rs,rg,h,fun d G1 zz H1 x1 rg1 v dv=>?_⟩;obtain⟨k,ek,h1⟩:=zz;exact⟨k,Xu rg1 ek dv,cl _ G1 h1 H1 x1 rg1⟩

variable{es:List Expr}{tA:DTA}
noncomputable def Xk:DTA:=fun _ G Q=>Q [] G
noncomputable def Ua(ta:DTE)(tr:DTA):DTA:=fun σ G Q=>ta σ G fun x G1=>tr σ G1 fun xs G2=>Q (x::xs) G2
theorem qa_nil:QA X [] Xk:=pa_nil.imp fun σ H Q ⟨σD,G,Q',rs,rg,h,cl⟩=>cl _ G h H (Ext.refl H) rg _ .nil
theorem Qn(ha:QE X e te)(hr:QA X es tA)(hs:starEach (e::es) X.env=(false,eval e X.env)::starEach es X.env:=by rfl):QA X (e::es) (Ua te tA):=(Qv ha hr hs).imp fun σ H Q zz=>by
 obtain⟨σD,G,Q',rs,rg,h,cl⟩:=zz;refine⟨σD,G,_,rs,rg,h,fun x G1 h1 H1 x1 rg1 v1 d1=>?_⟩;refine⟨σD,G1,_,rs.ext x1,rg1,h1,fun ys G2 h2 H2 x2 rg2 v2 d2=>?_⟩;exact cl _ G2 h2 H2 (x1.trans x2) rg2 _ (.cons (d1.ext x2) d2)
noncomputable def nTup(t:DTA):DTE:=fun σ G Q=>t σ G fun xs G1=>xs.length≤sizeLine∧Q (.tup xs) G1
noncomputable def nLst(t:DTA):DTE:=fun σ G Q=>t σ G fun xs G1=>xs.length≤sizeLine∧∀p,G1 p=none→Q (.ref p) (Ab G1 p (.lst xs))
theorem Aak{x1}(h:QA X es tA):QE X (.Tuple es x1 pos) (nTup tA):=(Ade h).imp fun σ H Q zz=>by
 obtain⟨σD,G,Q',rs,rg,h,cl⟩:=zz;refine⟨σD,G,_,rs,rg,h,fun ds G1 ⟨hl,q⟩ H1 x1 rg1 vs dv=>⟨by rw[←dv.length];exact hl,fun p hp=>?_⟩⟩
 exact cl _ G1 q _ (x1.trans (Ext.fresh hp)) (rg1.tup hp) _ (.tup Ah (dv.ext (Ext.fresh hp)))
theorem Mg(h:QA X es tA):QE X (.List es pos) (nLst tA):=(Adj h).imp fun σ H Q zz=>by
 obtain⟨σD,G,Q',rs,rg,h,cl⟩:=zz;refine⟨σD,G,_,rs,rg,h,fun ds G1 ⟨hl,q⟩ H1 x1 rg1 vs dv=>⟨by rw[←dv.length];exact hl,fun p hp=>?_⟩⟩
 exact cl _ _ (q p (rg1.free hp)) _ (x1.trans (Ext.fresh hp)) (rg1.lst hp dv) _ (.ref p)

noncomputable def Bh(G:Gp)(x:D)(i:Int):Option D:=match x with
 |.tup ds=>atI ds i
 |.lint ns=>atI (ns.map D.int) i
 |.ref a=>match G a with
  |some (.lst ds)=>atI ds i
  |_=>none
 |_=>none
theorem Lf{K:W.Frag}{H:Hp}{ds:List D}{vs:List V}{i:Int}{d:D}(r:DVs K H ds vs)(h:atI ds i=some d):∃v,atI vs i=some v∧DV K H d v:=by
 unfold atI at h ⊢;rw[←r.length];cases e:ixN ds.length i with
 |none=>rw[e] at h;cases h
 |some j=>rw[e] at h;exact r.get h
noncomputable def dIx:DR2:=fun x y G Q=>∃i,y=.int i∧∃d,Bh G x i=some d∧Q d G
theorem _root_.L2.IxR.imp{r r':R2}(h:IxR X r)(g:∀x y H Q,r' x y H Q→r x y H Q):IxR X r':=fun va sl pins s σ H x y v u Q I rx ry q hs=>h va sl pins s σ H x y v u Q I rx ry (g x y H Q q) hs
theorem o_ix:IxR X (Jd X.K dIx):=ix_seq.imp fun x y H Q zz=>by
 obtain⟨dx,dy,G,Q',hx,hy,rg,⟨i,ei,d,ed,q⟩,cl⟩:=zz;subst ei;cases hy;cases hx with
 |@tup ds a xs e r=>
  obtain⟨v,ev,dv⟩:=Lf r (show atI ds i=some d from ed);exact .inr (.inl ⟨a,xs,i,v,rfl,rfl,.inl (.inl e),ev,cl _ G q H (Ext.refl H) rg _ dv⟩)
 |@lint ns a e=>
  obtain⟨v,ev,dv⟩:=Lf (K:=X.K) (H:=H) DVs.ints (show atI (ns.map D.int) i=some d from ed);exact .inl ⟨a,_,i,v,rfl,rfl,e.sq,ev,cl _ G q H (Ext.refl H) rg _ dv⟩
 |ref a=>
  simp only[Bh] at ed
  split at ed
  ·rename_i ds g;obtain⟨xs,e,r⟩:=rg a _ g;obtain⟨v,ev,dv⟩:=Lf r ed;exact .inl ⟨a,xs,i,v,rfl,rfl,.inl (.inl e),ev,cl _ G q H (Ext.refl H) rg _ dv⟩
  ·cases ed
 |_=>cases ed
theorem Rk(ha:QE X a ta)(hb:QE X b tb)(hs:Ri b:=by intro _ _;rfl):QE X (.Subscript a b pos) (nOp dIx ta tb):=(pe_ix o_ix ha hb hs).imp fun _ _ _ h=>Gs h
end
section
variable{X:Cx}{a b c e:Expr}{ta tb tc te:DTE}{pos:Pos}{st:Stmt}{rest body orelse:List Stmt}{t u:DTS}
noncomputable def Aaw:DTS:=fun D σ G=>D.nx σ G
noncomputable def nSeq(t u:DTS):DTS:=fun D σ G=>t { D with nx:=u D } σ G
theorem qss_nil:QSs X [] Aaw:=pss_nil.imp fun E σ H ⟨σD,G,D,rs,rg,h,cl⟩=>cl.nx σD G h H (Ext.refl H) rg σ rs
theorem Wm{K:W.Frag}{E:Ends}{σ:St}{H:Hp}(h:F3 K (nSeq t u) E σ H):tSeq (F3 K t) (F3 K u) E σ H:=by
 obtain⟨σD,G,D,rs,rg,h,cl⟩:=h;refine⟨σD,G,_,rs,rg,h,⟨fun σ1 G1 h1 H1 x1 rg1 σ' rs1=>⟨σ1,G1,D,rs1,rg1,h1,cl.go x1⟩,cl.rt,cl.bk,cl.ct⟩⟩
theorem Mm(h1:QS X st t)(h2:QSs X rest u):QSs X (st::rest) (nSeq t u):=(Vs h1 h2).imp fun _ _ _ h=>Wm h
theorem Gq(h1:QS X st t):QSs X [st] t:=Yp h1
noncomputable def Aa1(te:DTE):DTS:=fun D σ G=>te σ G fun _ G1=>D.nx σ G1
theorem Yh(he:QE X e te)(hs:swapsWith e none pos.line X.env=pure false:=by rfl):QS X (.Expr e pos) (Aa1 te):=(Yq he hs).imp fun E σ H ⟨σD,G,D,rs,rg,h,cl⟩=>
 ⟨σD,G,_,rs,rg,h,fun d G1 h1 H1 x1 rg1 v dv=>cl.nx σD G1 h1 H1 x1 rg1 σ (rs.ext x1)⟩
noncomputable def nRet(te:DTE):DTS:=fun D σ G=>te σ G D.rt
theorem Oo(he:QE X e te):QS X (.Return (some e) pos) (nRet te):=(Ac3 he).imp fun E σ H ⟨σD,G,D,rs,rg,h,cl⟩=>⟨σD,G,_,rs,rg,h,cl.rt⟩
noncomputable def nIfS(c:DTT)(t u:DTS):DTS:=fun D σ G=>c σ G fun b G1=>if b=true then t D σ G1 else u D σ G1
theorem P8{tc:DTT}(hc:QT X c tc)(ha:QSs X body t)(hb:QSs X orelse u):QS X (.If c body orelse pos) (nIfS tc t u):=(Aam hc ha hb).imp fun E σ H zz=>by
 obtain⟨σD,G,D,rs,rg,h,cl⟩:=zz;refine⟨σD,G,_,rs,rg,h,fun k G1 h1 H1 x1 rg1=>?_⟩;cases k with
 |true=>rw[if_pos rfl] at h1 ⊢;exact⟨σD,G1,D,rs.ext x1,rg1,h1,cl.go x1⟩
 |false=>rw[if_neg Bool.false_ne_true] at h1 ⊢;exact⟨σD,G1,D,rs.ext x1,rg1,h1,cl.go x1⟩
noncomputable def Uu:DTS:=fun _ _ _=>False
theorem Vi:QS X st Uu:=ps_never.imp fun E σ H ⟨σD,G,D,rs,rg,h,cl⟩=>h
noncomputable abbrev DTG:=D→DSt→Gp→(DSt→Gp→Prop)→Prop
noncomputable abbrev Mf:=List D→DSt→Gp→(DSt→Gp→Prop)→Prop
noncomputable def Em(K:W.Frag)(t:DTG):TG:=fun v σ H Q=>∃d σD G Q',DV K H d v∧RelS K H σD σ∧RelG K H G∧t d σD G Q'∧∀σD' G',Q' σD' G'→Fwd K H G' fun H'=>∀σ',RelS K H' σD' σ'→Q σ' H'
noncomputable def Ad3(K:W.Frag)(t:Mf):TGs:=fun vs σ H Q=>∃ds σD G Q',DVs K H ds vs∧RelS K H σD σ∧RelG K H G∧t ds σD G Q'∧∀σD' G',Q' σD' G'→Fwd K H G' fun H'=>∀σ',RelS K H' σD' σ'→Q σ' H'
noncomputable def QG(X:Cx)(e:Expr)(g:DTG):Prop:=PG X e (Em X.K g)
noncomputable def QGs(X:Cx)(es:List Expr)(g:Mf):Prop:=PGs X es (Ad3 X.K g)
theorem _root_.L2.PG.imp{X:Cx}{e:Expr}{t t':TG}(h:PG X e t)(f:∀v σ H Q,t' v σ H Q→t v σ H Q):PG X e t':=fun pins s σ H v u Q I r q=>h pins s σ H v u Q I r (f v σ H Q q)
theorem _root_.L2.PGs.imp{X:Cx}{e:List Expr}{t t':TGs}(h:PGs X e t)(f:∀v σ H Q,t' v σ H Q→t v σ H Q):PGs X e t':=fun pins s σ H v u Q I r q=>h pins s σ H v u Q I r (f v σ H Q q)
noncomputable def F2(i:Nat):DTG:=fun d σ G Q=>Q (σ.set i (some d)) G
theorem Qm{i:Nat}{x:Str}(hN:X.N.Nodup)(hi:X.N[i]? = some x:=by rfl)(hx:Loc X.env.scope x:=by first|exact Or.inl rfl|exact Or.inr rfl)(hf:X.fn x=true∨X.env.scope.names.lookup x=some .local:=by first|exact .inl rfl|exact .inr rfl|assumption):QG X (.Name x pos) (F2 i):=
 (Yt hN hi hx hf).imp fun v σ H Q ⟨d,σD,G,Q',dv,rs,rg,h,cl⟩=>cl _ G h H (Ext.refl H) rg _ (rs.set dv i)
noncomputable def mNil:Mf:=fun ds σ G Q=>ds=[]∧Q σ G
noncomputable def Aa5(t:DTG)(u:Mf):Mf:=fun ds σ G Q=>∃v r,ds=v::r∧t v σ G fun σ' G'=>u r σ' G' Q
theorem Yi:QGs X [] mNil:=pgs_nil.imp fun v σ H Q zz=>by
 obtain⟨d,σD,G,Q',dv,rs,rg,⟨e,h⟩,cl⟩:=zz;subst e;cases dv;exact⟨rfl,cl _ G h H (Ext.refl H) rg _ rs⟩
theorem Mn{es:List Expr}{t:DTG}{u:Mf}(h1:QG X e t)(h2:QGs X es u)(hs:(assignEach (e::es) X.env).map (·.2)=assign e X.env::(assignEach es X.env).map (·.2):=by rfl):QGs X (e::es) (Aa5 t u):=(Vw h1 h2 hs).imp fun v σ H Q zz=>by
 obtain⟨d,σD,G,Q',dv,rs,rg,⟨d1,r,e,h⟩,cl⟩:=zz;subst e;cases dv with
 |@cons _ v1 _ vs h1 t1=>
  refine⟨v1,vs,rfl,d1,σD,G,_,h1,rs,rg,h,fun σ1 G1 q1 H1 x1 rg1 σ' rs1=>?_⟩;exact⟨r,σ1,G1,Q',t1.ext x1,rs1,rg1,q1,fun σ2 G2 q=>(cl σ2 G2 q).go x1⟩
noncomputable def mTup(n:Nat)(t:Mf):DTG:=fun d σ G Q=>∃ds,d=.tup ds∧ds.length=n∧t ds σ G Q
theorem Acp{es:List Expr}{k:Nat}{t:Mf}{n:Nat}(hc:X.calm=true)(h:QGs X es t)(hn:(assignEach es X.env).length=n:=by rfl)(hst:(assignEach es X.env).findIdx? (·.1)=none:=by rfl):QG X (.Tuple es k pos) (mTup n t):=(Ac9 hc h hn hst).imp fun v σ H Q zz=>by
 obtain⟨d,σD,G,Q',dv,rs,rg,⟨ds,e,hl,h⟩,cl⟩:=zz;subst e;cases dv with
 |@tup _ a xs e r=>exact⟨a,xs,rfl,.inl (.inl e),by rw[←r.length];exact hl,ds,σD,G,Q',r,rs,rg,h,cl⟩
noncomputable abbrev Gz:=D→D→D→Gp→(Gp→Prop)→Prop
noncomputable def Zl(K:W.Frag)(t:Gz):T3:=fun o i v H Q=>∃d1 d2 d3 G Q',DV K H d1 o∧DV K H d2 i∧DV K H d3 v∧RelG K H G∧t d1 d2 d3 G Q'∧∀G',Q' G'→Fwd K H G' Q
noncomputable def Xm(X:Cx)(t:Gz):Prop:=PSet X (Zl X.K t)
theorem _root_.L2.PSet.imp{X:Cx}{t t':T3}(h:PSet X t)(f:∀o i v H Q,t' o i v H Q→t o i v H Q):PSet X t':=fun pins s σ H o i v ov iv u Q I r1 r2 r3 q=>h pins s σ H o i v ov iv u Q I r1 r2 r3 (f o i v H Q q)
noncomputable def Abh:Gz:=fun o i v G Q=>∃p,o=.ref p∧∃k,i=.int k∧∃ds,G p=some (.lst ds)∧∃j,ixN ds.length k=some j∧Q (Ab G p (.lst (ds.set j v)))
theorem s_list:Xm X Abh:=set_list.imp fun o i v H Q zz=>by
 obtain⟨d1,d2,d3,G,Q',h1,h2,h3,rg,⟨p,e1,k,e2,ds,eg,j,ej,q⟩,cl⟩:=zz;subst e1 e2;cases h1;cases h2;obtain⟨xs,ex,r⟩:=rg p _ eg;exact⟨p,xs,k,j,rfl,rfl,ex,by rw[←r.length];exact ej,cl _ q _ (Dy ex) (rg.lstw ex (r.set h3 j))⟩
noncomputable def mSub(to ti:DTE)(t:Gz):DTG:=fun v σ G Q=>to σ G fun o G1=>ti σ G1 fun i G2=>t o i v G2 fun G3=>Q σ G3
theorem Ul{o i:Expr}{to ti:DTE}{t:Gz}(ho:QE X o to)(hi:QE X i ti)(hs:Xm X t)(ha:∀v,assign (.Subscript o i pos) X.env v=(do
   let ov ←holding [v] (eval o X.env)
   let iv ←holding [v,ov] (eval i X.env)
   standAt pos
   holding [v,ov,iv] (setItem ov iv v)
   release [v,ov,iv] []):=by intro _;rfl):QG X (.Subscript o i pos) (mSub to ti t):=(Ada ho hi hs ha).imp fun v σ H Q zz=>by
 obtain⟨d,σD,G,Q',dv,rs,rg,h,cl⟩:=zz;refine⟨σD,G,_,rs,rg,h,fun x G1 h1 H1 x1 rg1 v1 d1=>?_⟩;refine⟨σD,G1,_,rs.ext x1,rg1,h1,fun y G2 h2 H2 x2 rg2 v2 d2=>?_⟩;exact⟨x,y,d,G2,_,d1.ext x2,d2,dv.ext (x1.trans x2),rg2,h2,fun G3 q H3 x3 rg3=>cl σD G3 q H3 (x1.trans (x2.trans x3)) rg3 σ (rs.ext (x1.trans (x2.trans x3)))⟩
noncomputable def Md(te:DTE)(g:DTG):DTS:=fun D σ G=>te σ G fun x G1=>g x σ G1 D.nx
theorem Wn{K:W.Frag}{g:DTG}{E:Ends}{σ:St}{H:Hp}(h:F3 K (Md te g) E σ H):T1 (Bp K te) (Em K g) E σ H:=by
 obtain⟨σD,G,D,rs,rg,h,cl⟩:=h;refine⟨σD,G,_,rs,rg,h,fun d G1 h1 H1 x1 rg1 v dv=>?_⟩;exact⟨d,σD,G1,_,dv,rs.ext x1,rg1,h1,fun σ2 G2 q=>(cl.go x1).nx σ2 G2 q⟩
theorem Uk{tg:Expr}{g:DTG}(he:QE X e te)(hg:QG X tg g)(hs:swapsWithSole [tg] e pos.line X.env=pure false:=by rfl)(hw:swappedStores [tg] e X.env=pure none:=by rfl)(h1:(assignEach [tg] X.env).map (·.2)=[assign tg X.env]:=by rfl):QS X (.Assign [tg] e pos) (Md te g):=(Ac7 he hg hs hw h1).imp fun _ _ _ h=>Wn h
theorem Km{i:Nat}{x:Str}{pos':Pos}(hN:X.N.Nodup)(he:QE X e te)(hi:X.N[i]? = some x:=by rfl)(hx:Loc X.env.scope x:=by first|exact Or.inl rfl|exact Or.inr rfl)(hs:swapsWith e (some (.Name x pos')) pos.line X.env=pure false:=by rfl)(hf:X.fn x=true∨X.env.scope.names.lookup x=some .local:=by first|exact .inl rfl|exact .inr rfl|assumption) :
  QS X (.Assign [.Name x pos'] e pos) (Md te (F2 i)):=(Ac2 hN hi hx he hs hf).imp fun E σ H ⟨σD,G,D,rs,rg,h,cl⟩=>
 ⟨σD,G,_,rs,rg,h,fun d G1 h1 H1 x1 rg1 v dv=>cl.nx _ G1 h1 H1 x1 rg1 _ ((rs.ext x1).set dv i)⟩
noncomputable def nPar(i j:Nat)(ta:DTA):DTS:=fun D σ G=>ta σ G fun vs G1=>∃v w,vs=[v,w]∧D.nx ((σ.set i (some v)).set j (some w)) G1
theorem Acl{i j:Nat}{x y:Str}{tA:DTA}{px py pt:Pos}{kt k2 pt2}(hc:X.calm=true)(hN:X.N.Nodup)(ha:QA X [a,b] tA)(hi:X.N[i]? = some x:=by rfl)(hj:X.N[j]? = some y:=by rfl)(hij:i≠j:=by decide)(hx:X.env.scope.names.lookup x=some .local:=by rfl)(hy:X.env.scope.names.lookup y=some .local:=by rfl)(hw:swappedStores [.Tuple [.Name x px,.Name y py] kt pt] (.Tuple [a,b] k2 pt2) X.env=pure (some [x,y]):=by rfl)(hs:swapsWithSole [.Tuple [.Name x px,.Name y py] kt pt] (.Tuple [a,b] k2 pt2) pos.line X.env=pure false:=by rfl) :
  QS X (.Assign [.Tuple [.Name x px,.Name y py] kt pt] (.Tuple [a,b] k2 pt2) pos) (nPar i j tA):=(Ac4 hc hN hi hj hij hx hy ha hw hs).imp fun E σ H zz=>by
 obtain⟨σD,G,D,rs,rg,h,cl⟩:=zz;refine⟨σD,G,_,rs,rg,h,fun ds G1 zz H1 x1 rg1 vs dv=>?_⟩;obtain⟨d1,d2,e,h1⟩:=zz;subst e;obtain⟨v,w,rfl,r1,r2⟩:=dv.two;exact⟨v,w,rfl,cl.nx _ G1 h1 H1 x1 rg1 _ (((rs.ext x1).set r1 i).set r2 j)⟩
noncomputable def nAug(i:Nat)(te:DTE)(r:DR2):DTS:=fun D σ G=>∃x,σ[i]? = some (some x)∧te σ G fun y G1=>r x y G1 fun z G2=>D.nx (σ.set i (some z)) G2
noncomputable def QIp(X:Cx)(op:Operator)(r:DR2):Prop:=PIp X op (Jd X.K r)
theorem Aee{op:Operator}{f:Int→Int→Int}(h:PIp X op (ipI f)):QIp X op (dI0 fun i j=>.int (f i j)):=fun pins s σ H x y v u Q I rx ry zz=>by
 obtain⟨dx,dy,G,Q',hx,hy,rg,⟨i,ei,j,ej,q⟩,cl⟩:=zz;subst ei ej;cases hx;cases hy;exact h pins s σ H _ _ v u Q I rx ry ⟨i,j,rfl,rfl,cl _ G q H (Ext.refl H) rg _ (.int _)⟩
theorem Aef:QIp X .Sub (dI0 fun i j=>.int (i-j)):=Aee Aed
theorem Aco{i:Nat}{x:Str}{op:Operator}{r:DR2}{pos':Pos}(hN:X.N.Nodup)(ho:QIp X op r)(he:QE X e te)(hi:X.N[i]? = some x:=by rfl)(hx:Loc X.env.scope x:=by first|exact Or.inl rfl|exact Or.inr rfl)(hf:X.fn x=true∨X.env.scope.names.lookup x=some .local:=by first|exact .inl rfl|exact .inr rfl|assumption) :
  QS X (.AugAssign (.Name x pos') op e pos) (nAug i te r):=(Ac6 hN hi hx he ho hf).imp fun E σ H zz=>by
 obtain⟨σD,G,D,rs,rg,⟨d,ed,h⟩,cl⟩:=zz;obtain⟨v,ev,dv⟩:=rs.2 i d ed;refine⟨v,ev,σD,G,_,rs,rg,h,fun y G1 h1 H1 x1 rg1 v1 d1=>?_⟩;exact⟨d,y,G1,_,dv.ext x1,d1,rg1,h1,fun z G2 q H2 x2 rg2 v2 d2=>cl.nx _ G2 q H2 (x1.trans x2) rg2 _ ((rs.ext (x1.trans x2)).set d2 i)⟩

noncomputable def Sub(G G':Gp):Prop:=∀a o,G a=some o→G' a=some o
theorem Sub.refl(G:Gp):Sub G G:=fun _ _ h=>h
theorem Sub.trans{G G1 G2:Gp}(a:Sub G G1)(b:Sub G1 G2):Sub G G2:=fun c o h=>b c o (a c o h)
theorem Sub.new{G:Gp}{p:Addr}{o:GO}(h:G p=none):Sub G (Ab G p o):=fun a u e=>by rw[Ac (gne e h)];exact e
theorem Sub.upd{G G':Gp}(s:Sub G G')(a:Addr)(o:GO):Sub (Ab G a o) (Ab G' a o):=fun b u e=>by
 by_cases h:b=a
 ·subst h;rw[Aa] at e ⊢;exact e
 ·rw[Ac h] at e ⊢;exact s b u e
theorem Sub.none{G G':Gp}(s:Sub G G'){p:Addr}(h:G' p=Option.none):G p=Option.none:=by
 cases e:G p with
 |none=>rfl
 |some o=>rw[s p o e] at h;cases h
theorem Sub.skip{G G':Gp}(s:Sub G G'){p:Addr}{o:GO}(h:G' p=Option.none):Sub G (Ab G' p o):=s.trans (Sub.new h)
noncomputable def Fs(P:DSt→Gp→Prop)(σ:DSt)(G:Gp):Prop:=∃G',Sub G' G∧P σ G'
theorem Fs.of{P:DSt→Gp→Prop}{σ:DSt}{G:Gp}(h:P σ G):Fs P σ G:=⟨G,Sub.refl G,h⟩
noncomputable def Ad2(c:DTT)(tb:DTS):DTS:=fun D σ G=>∃W:Nat→DSt→Gp→Prop,(∃m,W m σ G)∧∀m σ G,W m σ G→
 c σ G fun b G1=>if b=true then ∃N:DSt→Gp→Prop,(∀σ' G',N σ' G'→∃m',m'<m∧W m' σ' G')∧tb { D with nx:=Fs N,ct:=Fs N,bk:=D.nx } σ G1 else D.nx σ G1
theorem qs_while{tc:DTT}{tb:DTS}(hp:PassesOwn (model X.prog X.w) X.A X.env X.xe)(hc:QT X c tc)(hb:QSs X body tb):QS X (.While c body [] pos) (Ad2 tc tb):=(Vt hp hc hb).imp fun E σ H zz=>by
 obtain⟨σD,G,D,rs,rg,⟨W,⟨m0,w0⟩,turn⟩,cl⟩:=zz;refine⟨fun m σ' H'=>∃σD' G',RelS X.K H' σD' σ'∧RelG X.K H' G'∧Ext H H'∧W m σD' G',⟨m0,σD,G,rs,rg,Ext.refl H,w0⟩,?_⟩;rintro m σ1 H1 ⟨σD1,G1,rs1,rg1,x1,w1⟩;refine⟨σD1,G1,_,rs1,rg1,turn m σD1 G1 w1,fun k G2 h2 H2 x2 rg2=>?_⟩;cases k with
 |true=>
  rw[if_pos rfl] at h2 ⊢;obtain⟨N,hN,h2⟩:=h2;refine⟨fun σ' H'=>∃σD' G',RelS X.K H' σD' σ'∧RelG X.K H' G'∧Ext H H'∧N σD' G',fun σ' H' ⟨σD',G',r1,r2,r3,n⟩=>?_,?_⟩
  ·obtain⟨m',hm,w'⟩:=hN σD' G' n;exact⟨m',hm,σD',G',r1,r2,r3,w'⟩
  ·have xx:=x1.trans x2;exact⟨σD1,G2,_,rs1.ext x2,rg2,h2,⟨fun s3 G3 ⟨G4,sb,n⟩ H3 x3 rg3 σ3 rs3=>⟨s3,G4,rs3,rg3.ext' sb,xx.trans x3,n⟩,(cl.go xx).rt,(cl.go xx).nx,fun s3 G3 ⟨G4,sb,n⟩ H3 x3 rg3 σ3 rs3=>⟨s3,G4,rs3,rg3.ext' sb,xx.trans x3,n⟩⟩⟩
 |false=>
  rw[if_neg Bool.false_ne_true] at h2 ⊢;exact cl.nx _ G2 h2 H2 (x1.trans x2) rg2 _ (rs1.ext x2)

noncomputable def A3(G:Gp):D→Option (List D)
 |.tup ds=>some ds
 |.lint ns=>some (ns.map .int)
 |.ref a=>match G a with
  |some (.lst ds)=>some ds
  |_=>none
 |_=>none
noncomputable def iSeq(K:W.Frag)(tl:TE):TI:=fun σ H R=>tl σ H fun x H1=>∃a,x=.ref a∧(((∃xs,SqL K H1 a xs)∧R (Itl K a) H1)∨((∃xs,SqT K H1 a xs)∧R (Itt K a) H1))
theorem Kp{tg l:Expr}{tl:TE}(hl:PE X l tl):PI X tg l (iSeq X.K tl):=by
 intro pins s σ H R I h;refine thn (hl pins s σ H _ I h) fun v s1 zz=>?_;obtain⟨x,H1,I1,r1,q1⟩:=zz;obtain⟨a,e,q1⟩:=q1;subst e;cases r1;have fin:∀(b:Addr),b∈[s1.heap.objs.size]→Di X pins H1 b:=fun b hb=>by
  have e:b=s1.heap.objs.size:=by simpa using hb
  subst e;exact I1.fpOk (Nat.le_refl _) (I1.hok.fresh (Nat.le_refl _))
 rcases q1 with ⟨⟨xs,hq⟩,q⟩|⟨⟨xs,hq⟩,q⟩
 ·obtain⟨its,rv,p,hz⟩:=I1.list hq;refine wpAny_pyIter_list p.isList ?_;exact⟨s1.heap.objs.size,[s1.heap.objs.size],_,_,H1,rfl,I1.kept (t':=s1.toks) fun b o e=>Heap.get?_push_of_some _ e,Rp a _,⟨_,Heap.get?_push_size _ rfl,rfl,rfl⟩,fin,q⟩
 ·obtain⟨its,rv,p,hz⟩:=I1.tuple hq;refine wpAny_pyIter_tuple (show s1.heap.IsTuple a its.toArray from p) ?_;exact⟨s1.heap.objs.size,[s1.heap.objs.size],_,_,H1,rfl,I1.kept (t':=s1.toks) fun b o e=>Heap.get?_push_of_some _ e,O0 a _,⟨_,Heap.get?_push_size _ rfl,rfl,rfl⟩,fin,q⟩
structure Items(K:W.Frag)(J:It)(G:Gp)(H:Hp)(ds:List D):Prop where
 go:∀i,i<ds.length→J.go i H
 yl:∀i x H',i<ds.length→J.yld i H x H'→H'=H∧∃d,ds[i]? = some d∧DV K H d x
 st:J.stop ds.length H
theorem Jw{K:W.Frag}{H:Hp}{G:Gp}{a:Addr}{ds:List D}{xs:List V}(e:SqL K H a xs)(r:DVs K H ds xs):Items K (Itl K a) G H ds:=by
 refine⟨fun i hi=>?_,fun i x H' hi y=>?_,⟨xs,e,by rw[←r.length];exact Nat.le_refl _⟩⟩
 ·rw[r.length] at hi;exact⟨xs,xs[i],e,by simp[hi]⟩
 ·obtain⟨e1,e2⟩:=y;exact⟨e1,r.get' (e2 xs e)⟩
theorem S5{K:W.Frag}{H:Hp}{G:Gp}{a:Addr}{ds:List D}{xs:List V}(e:H a=some (.tup xs))(r:DVs K H ds xs):Items K (Itt K a) G H ds:=by
 refine⟨fun i hi=>?_,fun i x H' hi y=>?_,⟨xs,.inl (.inl e),by rw[←r.length];exact Nat.le_refl _⟩⟩
 ·rw[r.length] at hi;exact⟨xs,xs[i],.inl (.inl e),by simp[hi]⟩
 ·obtain⟨e1,e2⟩:=y;exact⟨e1,r.get' (e2 xs (.inl (.inl e)))⟩
noncomputable def jOf(K:W.Frag)(d:D)(a:Addr):It:=match d with
 |.tup _=>Itt K a
 |_=>Itl K a
theorem Dq{K:W.Frag}{H:Hp}{G:Gp}{d:D}{ds:List D}{a:Addr}(rg:RelG K H G)(h:A3 G d=some ds)(dv:DV K H d (.ref a)):Items K (jOf K d a) G H ds:=by
 cases dv with
 |tup e r=>cases h;exact S5 e r
 |lint e=>cases h;exact Jw e.sq DVs.ints
 |ref=>
  simp only[A3] at h
  split at h
  ·rename_i ds' q;cases h;obtain⟨xs,e,r⟩:=rg a _ q;exact Jw (.inl (.inl e)) r
  ·cases h
theorem E3{K:W.Frag}{H:Hp}{G:Gp}{d:D}{ds:List D}{v:V}(h:A3 G d=some ds)(dv:DV K H d v):∃a,v=.ref a:=by
 cases dv<;>first|exact⟨_,rfl⟩|cases h
noncomputable def Rn(ds:List D)(same:Gp→Prop)(g:DTG)(tb:DTS)(D:DEnds)(σ:DSt)(G:Gp):Prop:=∃P:Nat→DSt→Gp→Prop,P 0 σ G∧(∀i σ G,i≤ds.length→P i σ G→same G)∧
 (∀i x σ G,ds[i]? = some x→P i σ G→g x σ G fun σ2 G2=>tb { D with nx:=Fs (P (i+1)),ct:=Fs (P (i+1)),bk:=D.nx } σ2 G2)∧∀σ G,P ds.length σ G→D.nx σ G
theorem Jr{K:W.Frag}{J:It}{ds:List D}{same:Gp→Prop}{g:DTG}{tb:DTS}{D:DEnds}{E:Ends}{σD:DSt}{σ:St}{G:Gp}{H:Hp}(rs:RelS K H σD σ)(rg:RelG K H G)(cl:D.Reach K H E)(hJ:∀H' G',Ext H H'→RelG K H' G'→same G'→Items K J G' H' ds)(h:Rn ds same g tb D σD G) :
  ∃W:Nat→Nat→St→Hp→Prop,(∃m,W 0 m σ H)∧∀i m σ H,W i m σ H→
   (J.stop i H∧E.nx σ H)∨(J.go i H∧∃N:St→Hp→Prop,(∀σ' H',N σ' H'→∃m',m'<m∧W (i+1) m' σ' H')∧∀x H',J.yld i H x H'→Em K g x σ H' fun σ2 H2=>F3 K tb { E with nx:=N,ct:=N,bk:=E.nx } σ2 H2):=by
 obtain⟨P,p0,keep,step,fin⟩:=h;refine⟨fun i m σ' H'=>m=ds.length-i∧i≤ds.length∧∃σD' G',RelS K H' σD' σ'∧RelG K H' G'∧Ext H H'∧P i σD' G',⟨ds.length,rfl,Nat.zero_le _,σD,G,rs,rg,Ext.refl H,p0⟩,?_⟩;rintro i m σ1 H1 ⟨rfl,hi,σD1,G1,rs1,rg1,x1,p1⟩;have I:=hJ H1 G1 x1 rg1 (keep i σD1 G1 hi p1)
 by_cases hlt:i<ds.length
 ·refine .inr ⟨I.go i hlt,fun σ' H'=>∃σD' G',RelS K H' σD' σ'∧RelG K H' G'∧Ext H H'∧P (i+1) σD' G',fun σ' H' ⟨s2,G2,r1,r2,r3,p⟩=>⟨ds.length-(i+1),by omega,rfl,hlt,s2,G2,r1,r2,r3,p⟩,fun x H' y=>?_⟩
  obtain⟨e,d,ed,dv⟩:=I.yl i x H' hlt y;subst e;refine⟨d,σD1,G1,_,dv,rs1,rg1,step i d σD1 G1 ed p1,fun σ2 G2 h2 H2 x2 rg2 σ' rs2=>?_⟩;have xx:=x1.trans x2;exact⟨σ2,G2,_,rs2,rg2,h2,⟨fun s3 G3 ⟨G4,sb,n⟩ H3 x3 rg3 σ3 rs3=>⟨s3,G4,rs3,rg3.ext' sb,xx.trans x3,n⟩,(cl.go xx).rt,(cl.go xx).nx,fun s3 G3 ⟨G4,sb,n⟩ H3 x3 rg3 σ3 rs3=>⟨s3,G4,rs3,rg3.ext' sb,xx.trans x3,n⟩⟩⟩
 ·have e:i=ds.length:=by omega
  subst e;exact .inl ⟨I.st,cl.nx _ G1 (fin σD1 G1 p1) H1 x1 rg1 _ rs1⟩
noncomputable def nFor(te:DTE)(g:DTG)(tb:DTS):DTS:=fun D σ G=>te σ G fun d G1=>∃ds,A3 G1 d=some ds∧Rn ds (fun G'=>A3 G' d=some ds) g tb D σ G1
theorem Acn{tg iter:Expr}{g:DTG}{tb:DTS}(hp:PassesOwn (model X.prog X.w) X.A X.env X.xe)(hc:X.calm=true)(hi:QE X iter te)(hg:QG X tg g)(hb:QSs X body tb)(hs:∀x,foldedSetIterable iter X.env x=pure x:=by intro _;rfl):QS X (.For tg iter body [] pos) (nFor te g tb):=(Uq hp hc (Kp hi) hg hb hs).imp fun E σ H zz=>by
 obtain⟨σD,G,D,rs,rg,h,cl⟩:=zz;refine⟨σD,G,_,rs,rg,h,fun d G1 zz H1 x1 rg1 v dv=>?_⟩;obtain⟨ds,ei,L⟩:=zz;obtain⟨a,rfl⟩:=E3 ei dv;refine⟨a,rfl,?_⟩;have lp:=Jr (J:=jOf X.K d a) (rs.ext x1) rg1 (cl.go x1) (fun H' G' x' rg' s'=>Dq rg' s' (dv.ext x')) L;have I0:=Dq rg1 ei dv;cases dv with
 |tup e r=>exact .inr ⟨⟨_,.inl (.inl e)⟩,lp⟩
 |lint e=>exact .inl ⟨⟨_,e.sq⟩,lp⟩
 |ref=>
  simp only[A3] at ei
  split at ei
  ·rename_i ds' q;obtain⟨xs,e,r⟩:=rg1 a _ q;exact .inl ⟨⟨_,.inl (.inl e)⟩,lp⟩
  ·cases ei
noncomputable def Mc(n:Nat):List D:=(List.range n).map fun i=>D.int (i:Nat)
theorem Bq(n:Nat):(Mc n).length=n:=by simp[Mc]
theorem Eu{n i:Nat}(h:i<n):(Mc n)[i]? = some (.int (i:Nat)):=by simp[Mc,h]
noncomputable def Aa0(tA:DTA)(g:DTG)(tb:DTS):DTS:=fun D σ G=>tA σ G fun ds G1=>∃j,ds=[.int j]∧(-(2 ^ 62)≤j∧j<2 ^ 62)∧Rn (Mc j.toNat) (fun _=>True) g tb D σ G1
theorem Qk{tg:Expr}{g:DTG}{tb:DTS}{tA:DTA}{p p2:Pos}(hp:PassesOwn (model X.prog X.w) X.A X.env X.xe)(hc:X.calm=true)(hm:X.mg "range" = none)(ha:QA X [a] tA)(hg:QG X tg g)(hb:QSs X body tb)(hgl:Gl X "range":=by rfl)(hst:starEach [a] X.env=[(false,eval a X.env)]:=by rfl)(hs:∀x,foldedSetIterable (.Call (.Name "range" p) [a] [] p2) X.env x=pure x:=by intro _;rfl) :
  QS X (.For tg (.Call (.Name "range" p) [a] [] p2) body [] pos) (Aa0 tA g tb):=(Uq hp hc (Jl hgl hm ha hst) hg hb hs).imp fun E σ H zz=>by
 obtain⟨σD,G,D,rs,rg,h,cl⟩:=zz;refine⟨σD,G,_,rs,rg,h,fun ds G1 zz H1 x1 rg1 vs dv=>?_⟩;obtain⟨j,ej,⟨j1,j2⟩,L⟩:=zz;subst ej;obtain⟨v,rfl,r⟩:=dv.one;cases r;refine⟨j,rfl,j1,j2,Jr (J:=Itr 0 j.toNat) (rs.ext x1) rg1 (cl.go x1) (fun H' G' x' rg' _=>?_) L⟩;refine⟨fun i hi=>by rw[Bq] at hi;exact hi,fun i x H2 hi y=>?_,by show j.toNat≤_;rw[Bq];exact Nat.le_refl _⟩
 rw[Bq] at hi;obtain⟨e1,e2⟩:=y;refine⟨e1,_,Eu hi,?_⟩;rw[e2,Int.zero_add];exact .int _

noncomputable abbrev DX:=Value→Gp→Prop
noncomputable abbrev DSp:=List D→Gp→DK→DX→Prop
noncomputable def El(K:W.Frag)(E:DX):XK:=fun c _ H'=>∃G',RelG K H' G'∧E c G'
noncomputable def liftSp(K:W.Frag)(sp:DSp):Sp:=fun vs H Q E=>∃ds G Q' E',DVs K H ds vs∧RelG K H G∧sp ds G Q' E'∧(∀d G',Q' d G'→Fwd K H G' fun H'=>∀v,DV K H' d v→Q v H')∧∀c G',E' c G'→Fwd K H G' fun H'=>∀ad,E c ad H'
structure Def(P:Program)(w:World)(K:W.Frag)(mg:Str→Option Value)(base:Heap)(CX:CXT)(k:Nat)(x:Str)(ps:List Str)(sp:DSp):Prop where
 ex:∃f fd,FnOk P w K mg base CX k f fd ps (liftSp K sp)∧mg x=some (.ref f)∧W.keepIn K (.ref f)=true∧Binds K fd ps []
noncomputable def Aa3(sp:DSp)(E:DX)(t:DTA):DTE:=fun σ G Q=>t σ G fun ds G1=>sp ds G1 Q E
noncomputable abbrev noX:DX:=fun _ _=>False
theorem Acx{CX:CXT}{k:Nat}{x:Str}{ps:List Str}{sp:DSp}{E:DX}{es:List Expr}{p:Pos}{tA:DTA}(F:Def X.prog X.w X.K X.mg X.base CX k x ps sp)(hr:Room k X.A)(hx:Ef CX X (El X.K E))(ha:QA X (e::es) tA)(hg:Gl X x:=by rfl)(hdb:(x == ("__debug__" : Str))=false:=by decide)(he:starEach (e::es) X.env=(false,eval e X.env)::starEach es X.env:=by rfl)(hpl:(backTo pos (starEach es X.env)).any (·.1)=false:=by rfl) :
  QE X (.Call (.Name x p) (e::es) [] pos) (Aa3 sp E tA):=by
 obtain⟨f,fd,F,hm,hk,hb⟩:=F.ex;refine(Yw (ds:=[]) (dvs:=[]) F hr hg hm hk hb .nil hx ha hdb he hpl).imp fun σ H Q zz=>?_;obtain⟨σD,G,Q',rs,rg,h,cl⟩:=zz;refine⟨σD,G,_,rs,rg,h,fun ds G1 h1 H1 x1 rg1 vs dv=>?_⟩;show liftSp X.K sp (vs++[]) H1 Q (El X.K E);rw[List.append_nil];exact⟨ds,G1,Q',E,dv,rg1,h1,fun d G' q=>(cl d G' q).go x1,fun c G' q H2 x2 rg2 ad=>⟨G',rg2,q⟩⟩
theorem Aan{E:DX}:Ef CX0 X (El X.K E):=fun _ _ _ _ _ _ _ h=>h.elim

noncomputable def Dk(N:List Str)(ds:List D):DSt:=ds.map some++List.replicate (N.length-ds.length) none
noncomputable def Fq(Q:DK)(d:D)(G:Gp):Prop:=∃G',Sub G' G∧Q d G'
theorem Fq.of{Q:DK}{d:D}{G:Gp}(h:Q d G):Fq Q d G:=⟨G,Sub.refl G,h⟩
theorem Jj{K:W.Frag}{H:Hp}{N:List Str}{ds:List D}{vs:List V}(r:DVs K H ds vs):RelS K H (Dk N ds) (L2.start N vs):=by
 have hl:=r.length;refine⟨by simp[Dk,L2.start,hl],fun i d e=>?_⟩
 unfold Dk at e;unfold L2.start
 by_cases hi:i<ds.length
 ·rw[List.getElem?_append_left (by simpa using hi),List.getElem?_map] at e
  rw[List.getElem?_append_left (by simpa[←hl] using hi),List.getElem?_map]
  cases q:ds[i]? with
  |none=>rw[q] at e;cases e
  |some d'=>
   rw[q] at e;cases e;obtain⟨v,ev,dv⟩:=r.get q;exact⟨v,by rw[ev];rfl,dv⟩
 ·rw[List.getElem?_append_right (by simpa using hi),List.getElem?_replicate] at e
  split at e<;>cases e
section
variable{P:Program}{w:World}{K:W.Frag}{mg:Str→Option Value}{base:Heap}
theorem okD{x qual:Str}{st:Stmt}{f:Addr}{fd:FuncData}{N ps:List Str}{k:Nat}{sp:DSp}(F:Fun K x qual st f fd)(S:FnScope N ps (defScope st))(len:∀ds G Q E,sp ds G Q E→ds.length=ps.length)(hbody:∀(cdv:Value) (A:Around) (outer:List Env) (s:Shared) (H:Hp) (XE:XK) (ds:List D) (G:Gp) (Q:DK) (E:DX),Room k (A.deeper (envOfC qual (defScope st) s.heap.objs.size f cdv))→sp ds G Q E→
   ∃t,QSs (Kh CX0 P w K mg base N qual (defScope st) f cdv A outer s H XE).nox (defBody st) t∧t { nx:=fun _ G'=>Fq Q .non G',rt:=Fq Q } (Dk N ds) G):FnOk P w K mg base CX0 (k+1) f fd ps (liftSp K sp):=by
 refine F.ok S (fun vs H Q E ⟨ds,G,Q',E',dv,rg,h,_⟩=>by rw[←dv.length];exact len ds G Q' E' h) fun cdv A outer s H vs Q E hr ⟨ds,G,Q',E',dv,rg,h,cl,_⟩=>?_
 obtain⟨t,ht,hq⟩:=hbody cdv A outer s H E ds G Q' E' hr h;refine⟨_,ht,Dk N ds,G,_,Jj dv,rg,hq,⟨fun σD G1 ⟨G2,sb,q⟩ H1 x1 rg1 σ rs=>cl _ G2 q H1 x1 (rg1.ext' sb) _ .non,fun d G1 ⟨G2,sb,q⟩ H1 x1 rg1 v dv=>cl _ G2 q H1 x1 (rg1.ext' sb) _ dv,fun _ _ z=>z.elim,fun _ _ z=>z.elim⟩⟩
end
noncomputable abbrev DRC:=List D→Gp→DK→Prop
noncomputable def Aa6(K:W.Frag)(r:DRC):List V→Hp→VK→Prop:=fun xs H Q=>∃ds G Q',DVs K H ds xs∧RelG K H G∧r ds G Q'∧∀d G',Q' d G'→Fwd K H G' fun H'=>∀v,DV K H' d v→Q v H'
noncomputable def QC(X:Cx)(f:Value)(r:DRC):Prop:=CallR X f (Aa6 X.K r)
theorem _root_.L2.CallR.imp{f:Value}{r r':List V→Hp→VK→Prop}(h:CallR X f r)(g:∀xs H Q,r' xs H Q→r xs H Q):CallR X f r':=fun pins s σ H xs us Q I rx q=>h pins s σ H xs us Q I rx (g xs H Q q)
noncomputable def nCB(r:DRC)(t:DTA):DTE:=fun σ G Q=>t σ G fun vs G1=>r vs G1 Q
theorem Q2{K:W.Frag}{r:DRC}{tA:DTA}{σ:St}{H:Hp}{Q:VK}(h:Bp K (nCB r tA) σ H Q):tCB (Aa6 K r) (Aa7 K tA) σ H Q:=by
 obtain⟨σD,G,Q',rs,rg,h,cl⟩:=h;exact⟨σD,G,_,rs,rg,h,fun ds G1 h1 H1 x1 rg1 vs dv=>⟨ds,G1,Q',dv,rg1,h1,fun d G' q=>(cl d G' q).go x1⟩⟩
theorem Ch{x:Str}{id:String}{r:DRC}{es:List Expr}{p:Pos}{tA:DTA}(hc:QC X (.builtin id) r)(hm:X.mg x=none)(hv:bootBuiltins x=some (.builtin id))(ha:QA X (e::es) tA)(hg:Gl X x:=by rfl)(hn:x≠"__name__":=by decide)(hdb:(x == ("__debug__" : Str))=false:=by decide)(he:starEach (e::es) X.env=(false,eval e X.env)::starEach es X.env:=by rfl)(hpl:(backTo pos (starEach es X.env)).any (·.1)=false:=by rfl):QE X (.Call (.Name x p) (e::es) [] pos) (nCB r tA):=(V5 hc hg hm hv ha hn hdb he hpl).imp fun _ _ _ h=>Q2 h
theorem Ez{x:Str}{T:String}{r:DRC}{es:List Expr}{p:Pos}{tA:DTA}(hc:QC X (.type T) r)(hm:X.mg x=none)(hv:bootBuiltins x=some (.type T))(ha:QA X (e::es) tA)(hg:Gl X x:=by rfl)(hn:x≠"__name__":=by decide)(hdb:(x == ("__debug__" : Str))=false:=by decide)(he:starEach (e::es) X.env=(false,eval e X.env)::starEach es X.env:=by rfl)(hpl:(backTo pos (starEach es X.env)).any (·.1)=false:=by rfl):QE X (.Call (.Name x p) (e::es) [] pos) (nCB r tA):=(R8 hc hg hm hv ha hn hdb he hpl).imp fun _ _ _ h=>Q2 h
theorem c_abs:QC X (.builtin "abs") (fun ds G Q=>∃i,ds=[.int i]∧Q (.int (if i<0 then -i else i)) G):=call_abs.imp fun xs H Q zz=>by
 obtain⟨ds,G,Q',dv,rg,⟨i,e,q⟩,cl⟩:=zz;subst e;obtain⟨v,rfl,r⟩:=dv.one;cases r;exact⟨i,rfl,cl _ G q H (Ext.refl H) rg _ (.int _)⟩
theorem Aej(hc:X.calm=true):QC X (.builtin "max") (fun ds G Q=>∃i j,ds=[.int i,.int j]∧Q (.int (if j>i then j else i)) G):=(Tg hc).imp fun xs H Q zz=>by
 obtain⟨ds,G,Q',dv,rg,⟨i,j,e,q⟩,cl⟩:=zz;subst e;obtain⟨v,w,rfl,r,r'⟩:=dv.two;cases r;cases r';exact⟨i,j,rfl,cl _ G q H (Ext.refl H) rg _ (.int _)⟩
theorem Aei(hc:X.calm=true):QC X (.builtin "min") (fun ds G Q=>∃i j,ds=[.int i,.int j]∧Q (.int (if j<i then j else i)) G):=(Tf hc).imp fun xs H Q zz=>by
 obtain⟨ds,G,Q',dv,rg,⟨i,j,e,q⟩,cl⟩:=zz;subst e;obtain⟨v,w,rfl,r,r'⟩:=dv.two;cases r;cases r';exact⟨i,j,rfl,cl _ G q H (Ext.refl H) rg _ (.int _)⟩
theorem W4:QC X (.builtin "divmod") (fun ds G Q=>∃i j,ds=[.int i,.int j]∧T4 i j∧Q (.tup [.int (i / j),.int (i % j)]) G):=call_divmod.imp fun xs H Q zz=>by
 obtain⟨ds,G,Q',dv,rg,⟨i,j,e,hc,q⟩,cl⟩:=zz;subst e;obtain⟨v,w,rfl,r,r'⟩:=dv.two;cases r;cases r';refine⟨i,j,rfl,hc,fun p hp=>?_⟩;exact cl _ G q _ (Ext.fresh hp) (rg.tup hp) _ (.tup Ah (.cons (.int _) (.cons (.int _) .nil)))
noncomputable def Gc(G:Gp):D→Option Nat
 |.tup ds=>some ds.length
 |.lint ns=>some ns.length
 |.str y=>if y.length≤sizeLine then some y.length else none
 |.ref a=>match G a with
  |some (.lst ds)=>some ds.length
  |_=>none
 |_=>none
theorem c_len:QC X (.builtin "len") (fun ds G Q=>∃d,ds=[d]∧∃n,Gc G d=some n∧Q (.int (n:Nat)) G):=call_len.imp fun xs H Q zz=>by
 obtain⟨ds,G,Q',dv,rg,⟨d,e,n,en,q⟩,cl⟩:=zz;subst e;obtain⟨v,rfl,r⟩:=dv.one;refine⟨v,n,rfl,?_,cl _ G q H (Ext.refl H) rg _ (.int _)⟩;cases r with
 |tup e r=>cases en;exact .inr ⟨_,.inl (.inl e),r.length⟩
 |@lint ns a e=>cases en;exact .inl ⟨_,e.sq,by simp⟩
 |str y=>
  simp only[Gc] at en
  split at en
  ·rename_i hy;cases en;exact⟨hy,rfl⟩
  ·cases en
 |ref a=>
  simp only[Gc] at en
  split at en
  ·rename_i ds g;cases en;obtain⟨xs,e,r⟩:=rg a _ g;exact .inl ⟨xs,.inl (.inl e),r.length⟩
  ·cases en
 |_=>cases en
theorem Zz:QC X (.type "tuple") (fun ds G Q=>∃d,ds=[d]∧∃es,A3 G d=some es∧Q (.tup es) G):=call_tuple_of.imp fun xs H Q zz=>by
 obtain⟨ds,G,Q',dv,rg,⟨d,e,es,en,q⟩,cl⟩:=zz;subst e;obtain⟨v,rfl,r⟩:=dv.one;cases r with
 |tup e r=>cases en;exact⟨_,_,rfl,.inr ⟨.inl (.inl e),cl _ G q H (Ext.refl H) rg _ (.tup e r)⟩⟩
 |@lint ns a e=>cases en;exact⟨_,_,rfl,.inl ⟨e.sq,fun p hp=>cl _ G q _ (Ext.fresh hp) (rg.tup hp) _ (.tup Ah DVs.ints)⟩⟩
 |ref a=>
  simp only[A3] at en
  split at en
  ·rename_i ds g;cases en;obtain⟨xs,e,r⟩:=rg a _ g;exact⟨a,xs,rfl,.inl ⟨.inl (.inl e),fun p hp=>cl _ G q _ (Ext.fresh hp) (rg.tup hp) _ (.tup Ah (r.ext (Ext.fresh hp)))⟩⟩
  ·cases en
 |_=>cases en
theorem Aek:QC X (.type "list") (fun ds G Q=>∃d,ds=[d]∧∃es,A3 G d=some es∧∀p,G p=none→Q (.ref p) (Ab G p (.lst es))):=call_list_of.imp fun xs H Q zz=>by
 obtain⟨ds,G,Q',dv,rg,⟨d,e,es,en,q⟩,cl⟩:=zz;subst e;obtain⟨v,rfl,r⟩:=dv.one;cases r with
 |tup e r=>cases en;exact⟨_,_,rfl,.inr (.inl (.inl e)),fun p hp=>cl _ _ (q p (rg.free hp)) _ (Ext.fresh hp) (rg.lst hp r) _ (.ref p)⟩
 |@lint ns a e=>cases en;exact⟨_,_,rfl,.inl e.sq,fun p hp=>cl _ _ (q p (rg.free hp)) _ (Ext.fresh hp) (rg.lst hp DVs.ints) _ (.ref p)⟩
 |ref a=>
  simp only[A3] at en
  split at en
  ·rename_i ds g;cases en;obtain⟨xs,e,r⟩:=rg a _ g;exact⟨a,xs,rfl,.inl (.inl (.inl e)),fun p hp=>cl _ _ (q p (rg.free hp)) _ (Ext.fresh hp) (rg.lst hp r) _ (.ref p)⟩
  ·cases en
 |_=>cases en
noncomputable def nApp(to:DTE)(ta:DTE):DTE:=fun σ G Q=>to σ G fun x G1=>∃p,x=.ref p∧(∃ds,G1 p=some (.lst ds))∧ta σ G1 fun y G2=>∃ds,G2 p=some (.lst ds)∧ds.length<sizeLine∧Q .non (Ab G2 p (.lst (ds++[y])))
theorem q_app{o:Expr}{to:DTE}{apos cpos:Pos}(ho:QE X o to)(ha:QE X e ta)(hbase:attributeBase o "append" X.env (eval o X.env)=eval o X.env:=by rfl)(hfew:((backTo cpos (starEach [e] X.env)).all (fun x=>!x.1)&&(backToKw cpos (keywordEach [] X.env)).all (fun x=>x.1.isSome)
   && decide (([e]:List Expr).length+([]:List Keyword).length+(if ([]:List Keyword).isEmpty then 0 else 1)<30))=true:=by rfl)(hline:(apos.endLine == cpos.line)=true:=by rfl)(hs:starEach [e] X.env=(false,eval e X.env)::starEach [] X.env:=by rfl)(hplain:(backTo cpos (starEach [] X.env)).any (·.1)=false:=by rfl) :
  QE X (.Call (.Attribute o "append" apos) [e] [] cpos) (nApp to ta):=
 (pe_bm PySem.F.plainAttrs_list PySem.F.slot_list_append PySem.F.type_list_append Fo ho (Qn ha qa_nil hs) hbase hfew hline hs hplain).imp fun σ H Q zz=>by
 obtain⟨σD,G,Q',rs,rg,h,cl⟩:=zz;refine⟨σD,G,_,rs,rg,h,fun d G1 zz H1 x1 rg1 v dv=>?_⟩;obtain⟨p,ep,⟨ds,eg⟩,h1⟩:=zz;subst ep;cases dv;obtain⟨xs,ex,r⟩:=rg1 p _ eg;refine⟨.inl ⟨rfl,xs,.inl (.inl ex)⟩,σD,G1,fun ds' G2=>∃y,ds'=[y]∧∃ds,G2 p=some (.lst ds)∧ds.length<sizeLine∧Q' .non (Ab G2 p (.lst (ds++[y]))),rs.ext x1,rg1,?_,?_⟩
 ·show ta σD G1 fun x G1=>Xk σD G1 fun xs G2=>_;exact cast (by congr 1;funext y G2;simp[Xk]) h1
 ·rintro ds' G2 ⟨y,rfl,ds2,eg2,hl,q⟩ H2 x2 rg2 vs dvs;obtain⟨v,rfl,dv⟩:=dvs.one;obtain⟨xs2,ex2,r2⟩:=rg2 p _ eg2;exact⟨p,xs2,v,rfl,rfl,ex2,by rw[←r2.length];exact hl,cl _ _ q _ ((x1.trans x2).trans (Dy ex2)) (rg2.lstw ex2 (r2.append (.cons dv .nil))) _ .non⟩
end
theorem Bl{n:Nat}{g:DTG}{tb:DTS}{D:DEnds}{σ:DSt}{G:Gp}(P:Nat→DSt→Gp→Prop)(h0:P 0 σ G)(hs:∀i σ G,i<n→P i σ G→g (.int (i:Nat)) σ G fun σ2 G2=>tb { D with nx:=Fs (P (i+1)),ct:=Fs (P (i+1)),bk:=D.nx } σ2 G2)(hd:∀σ G,P n σ G→D.nx σ G):Rn (Mc n) (fun _=>True) g tb D σ G:=by
 refine⟨P,h0,fun _ _ _ _ _=>trivial,fun i x σ G hx p=>?_,fun σ G p=>hd σ G (by rw[Bq] at p;exact p)⟩
 have hi:i<n:=by
  have:=(List.getElem?_eq_some_iff.mp hx).1
  rw[Bq] at this;exact this
 rw[Eu hi] at hx;cases hx;exact hs i σ G hi p
theorem Yk{X:Cx}{x:Str}{i:Int}{pos:Pos}(hm:∃t,X.mg x=some (.int i t))(hg:Gl X x:=by rfl)(hd:(x == ("__debug__" : Str))=false:=by decide):QE X (.Name x pos) (nC (.int i)):=
 let ⟨_,h⟩:=hm;Acw h hg hd
theorem it0{P:Prop}[Decidable P]{A B:Prop}(h:P)(a:A):if P then A else B:=by rw[if_pos h];exact a
theorem it1{P:Prop}[Decidable P]{A B:Prop}(h:¬P)(b:B):if P then A else B:=by rw[if_neg h];exact b
theorem exI{p:Int→Prop}{j:Int}:(∃i,D.int j=D.int i∧p i)↔p j:=⟨fun⟨i,e,h⟩=>by cases e;exact h,fun h=>⟨j,rfl,h⟩⟩
theorem exB{p:Bool→Prop}{j:Bool}:(∃i,D.bl j=D.bl i∧p i)↔p j:=⟨fun⟨i,e,h⟩=>by cases e;exact h,fun h=>⟨j,rfl,h⟩⟩
theorem exR{p:Addr→Prop}{j:Addr}:(∃i,D.ref j=D.ref i∧p i)↔p j:=⟨fun⟨i,e,h⟩=>by cases e;exact h,fun h=>⟨j,rfl,h⟩⟩
theorem exT{p:List D→Prop}{j:List D}:(∃i,D.tup j=D.tup i∧p i)↔p j:=⟨fun⟨i,e,h⟩=>by cases e;exact h,fun h=>⟨j,rfl,h⟩⟩
theorem exS{α:Type}{p:α→Prop}{j:α}:(∃i,some j=some i∧p i)↔p j:=⟨fun⟨i,e,h⟩=>by cases e;exact h,fun h=>⟨j,rfl,h⟩⟩
theorem exSS{α:Type}{p:α→Prop}{j:α}:(∃i,some (some j)=some (some i)∧p i)↔p j:=⟨fun⟨i,e,h⟩=>by cases e;exact h,fun h=>⟨j,rfl,h⟩⟩
theorem ex1{p:D→Prop}{j:D}:(∃i,[j]=[i]∧p i)↔p j:=⟨fun⟨i,e,h⟩=>by cases e;exact h,fun h=>⟨j,rfl,h⟩⟩
theorem ex1I{p:Int→Prop}{j:Int}:(∃i,[D.int j]=[D.int i]∧p i)↔p j:=⟨fun⟨i,e,h⟩=>by cases e;exact h,fun h=>⟨j,rfl,h⟩⟩
theorem ex2{p:D→D→Prop}{j k:D}:(∃x y,[j,k]=[x,y]∧p x y)↔p j k:=⟨fun⟨_,_,e,h⟩=>by cases e;exact h,fun h=>⟨j,k,rfl,h⟩⟩
theorem ex2I{p:Int→Int→Prop}{j k:Int}:(∃x y,[D.int j,D.int k]=[D.int x,D.int y]∧p x y)↔p j k:=⟨fun⟨_,_,e,h⟩=>by cases e;exact h,fun h=>⟨j,k,rfl,h⟩⟩
theorem Bn{ds:List D}{same:Gp→Prop}{g:DTG}{tb:DTS}{D:DEnds}{σ:DSt}{G:Gp}(P:Nat→DSt→Gp→Prop)(h0:P 0 σ G)(hk:∀i σ G,i≤ds.length→P i σ G→same G)(hs:∀i x σ G,ds[i]? = some x→P i σ G→g x σ G fun σ2 G2=>tb { D with nx:=Fs (P (i+1)),ct:=Fs (P (i+1)),bk:=D.nx } σ2 G2)(hd:∀σ G,P ds.length σ G→D.nx σ G):Rn ds same g tb D σ G:=⟨P,h0,hk,hs,hd⟩
theorem exCons{p:D→List D→Prop}{j:D}{r:List D}:(∃x y,j::r=x::y∧p x y)↔p j r:=⟨fun⟨_,_,e,h⟩=>by cases e;exact h,fun h=>⟨j,r,rfl,h⟩⟩
theorem T2{α:Type}{x:α}{r:List α}:atI (x::r) 0=some x:=B5 (j:=0) rfl
theorem atI1{α:Type}{x y:α}{r:List α}:atI (x::y::r) 1=some y:=B5 (j:=1) rfl
theorem Ho{G:Gp}{ds:List D}{i:Int}:Bh G (.tup ds) i=atI ds i:=rfl
theorem S6{G:Gp}{ns:List Int}{i:Int}:Bh G (.lint ns) i=atI (ns.map D.int) i:=rfl
theorem Cc{G:Gp}{a:Addr}{ds:List D}{i:Int}(h:G a=some (.lst ds)):Bh G (.ref a) i=atI ds i:=by simp only[Bh,h]
theorem Zm{G:Gp}{ds:List D}:Gc G (.tup ds)=some ds.length:=rfl
theorem Mv{G:Gp}{ns:List Int}:Gc G (.lint ns)=some ns.length:=rfl
theorem Q5{G:Gp}{a:Addr}{ds:List D}(h:G a=some (.lst ds)):Gc G (.ref a)=some ds.length:=by simp only[Gc,h]
theorem Af{G:Gp}{a:Addr}{ds:List D}(h:G a=some (.lst ds)):A3 G (.ref a)=some ds:=by simp only[A3,h]
theorem Ws{G:Gp}{ds:List D}:A3 G (.tup ds)=some ds:=rfl
theorem ix0{n:Nat}:ixN (n+1) 0=some 0:=by unfold ixN;rw[if_pos (by omega),if_pos (by omega)];rfl
theorem ix1{n:Nat}:ixN (n+2) 1=some 1:=by unfold ixN;rw[if_pos (by omega),if_pos (by omega)];rfl
noncomputable def nIfM(c:DTT)(t u:DTS):DTS:=fun D σ G=>∃M:DSt→Gp→Prop,(c σ G fun b G1=>if b=true then t { D with nx:=Fs M } σ G1 else u { D with nx:=Fs M } σ G1)∧∀σ' G',M σ' G'→D.nx σ' G'
theorem Acm{X:Cx}{c:Expr}{body orelse:List Stmt}{pos:Pos}{tc:DTT}{t u:DTS}(hc:QT X c tc)(ha:QSs X body t)(hb:QSs X orelse u):QS X (.If c body orelse pos) (nIfM tc t u):=(Aam hc ha hb).imp fun E σ H zz=>by
 obtain⟨σD,G,D,rs,rg,⟨M,h,hM⟩,cl⟩:=zz;refine⟨σD,G,_,rs,rg,h,fun k G1 h1 H1 x1 rg1=>?_⟩;have cl':DEnds.Reach X.K H1 { D with nx:=Fs M } E:=⟨fun s2 G2 ⟨G3,sb,m⟩ H2 x2 rg2=>(cl.go x1).nx s2 G3 (hM s2 G3 m) H2 x2 (rg2.ext' sb),(cl.go x1).rt,(cl.go x1).bk,(cl.go x1).ct⟩;dsimp only at h1 ⊢;cases k with
 |true=>rw[if_pos rfl] at h1 ⊢;exact⟨σD,G1,_,rs.ext x1,rg1,h1,cl'⟩
 |false=>rw[if_neg Bool.false_ne_true] at h1 ⊢;exact⟨σD,G1,_,rs.ext x1,rg1,h1,cl'⟩
theorem Aeo{α:Type}{xs:List α}{k:Nat}{x:α}(h:xs[k]? = some x):atI xs (k:Int)=some x:=B5 h
theorem szl{n:Nat}(h:n≤1000):n≤sizeLine:=Nat.le_of_lt (Rt h)
theorem sz2:2≤sizeLine:=szl (by decide)
theorem Uy{G:Gp}{a:Addr}{o:GO}(h:G a=some o):∃G0,G=Ab G0 a o:=⟨G,(Ji h).symm⟩
theorem Ep{G:Gp}{a p:Addr}{o:GO}(h:Ab G a o p=none):a≠p∧G p=none:=by
 by_cases e:p=a
 ·subst e;rw[Aa] at h;cases h
 ·exact⟨Ne.symm e,by rw[Ac e] at h;exact h⟩
noncomputable def Ob(T:List Str)(σ:St):St:=List.replicate T.length none++σ

noncomputable def Hc(ifs:List Expr)(env:Env):Sem Bool:=forIn ifs true fun c r=>if r=true then do let ok ←isTrue c env (eval c env);pure (ForInStep.yield ok) else pure (ForInStep.yield r)
noncomputable def PF(X:Cx)(ifs:List Expr)(t:TT):Prop:=
 ∀(pins:List (Addr×Obj)) (s:Shared) (σ:St) (H:Hp) (Q:Bool→Hp→Prop),Inv X pins σ H s→t σ H Q→wpAny (model X.prog X.w) X.A (Hc ifs X.env) (TP X pins σ Q) X.xe s
theorem Adc{X:Cx}:PF X [] (fun _ H Q=>Q true H):=fun pins s σ H Q I h=>by
 unfold Hc;rw[List.forIn_nil];exact wpAny_pure ⟨H,I,h⟩
theorem Adb{X:Cx}{c:Expr}{t:TT}(h:PT X c t):PF X [c] t:=fun pins s σ H Q I q=>by
 unfold Hc;rw[List.forIn_cons];refine wpAny_bind ?_;rw[if_pos rfl];refine wpAny_bind (thn (h pins s σ H Q I q) fun b s1 hb=>wpAny_pure ?_);show wpAny _ _ (forIn [] b _) _ _ s1;rw[List.forIn_nil];exact wpAny_pure hb

noncomputable def Br(cells:List (Str×Addr)):List (Str×NameKind)→List (Str×Addr)→List (Str×Addr)
 |[],cs=>cs
 |(n,k)::r,cs=>if (k == .free)=true then match cells.lookup n with
   |some c=>Br cells r ((n,c)::cs)
   |none=>Br cells r cs
  else Br cells r cs
theorem Zx{env:Env}:∀(names:List (Str×NameKind)) (cs:List (Str×Addr)),(names.all fun y=>!(y.2 == .free)||(env.cells.lookup y.1).isSome)=true→
  (forIn names cs fun(x:Str×NameKind) (r:List (Str×Addr))=>(if (x.2 == NameKind.free)=true then do let __do_lift ←cellOf env x.1;pure (ForInStep.yield ((x.1,__do_lift)::r)) else pure (ForInStep.yield r):Sem (ForInStep (List (Str×Addr)))))=pure (Br env.cells names cs):=by
 intro names
 induction names with
 |nil=>intro cs _;rw[List.forIn_nil];rfl
 |cons y r ih=>
  intro cs h;obtain⟨n,k⟩:=y;rw[List.all_cons,Bool.and_eq_true] at h;rw[List.forIn_cons]
  by_cases hk:(k == NameKind.free)=true
  ·have hs:(env.cells.lookup n).isSome=true:=by
    have h1:=h.1;simp only[hk,Bool.not_true,Bool.false_or] at h1;exact h1
   obtain⟨c,hc⟩:=Option.isSome_iff_exists.mp hs;simp only[hk,if_true,Br,hc,cellOf];exact ih _ h.2
  ·simp only[hk,Br];exact ih _ h.2
theorem D4{cells:List (Str×Addr)}:∀(names:List (Str×NameKind)) (cs:List (Str×Addr)),(∀x c,cs.lookup x=some c→cells.lookup x=some c)→∀x c,(Br cells names cs).lookup x=some c→cells.lookup x=some c
 |[],cs,h,x,c,e=>h x c e
 |(n,k)::r,cs,h,x,c,e=>by
  unfold Br at e
  split at e
  ·split at e
   ·rename_i c' hc;refine D4 r _ (fun y d z=>?_) x c e
    by_cases hy:y=n
    ·subst hy;rw[List.lookup_cons_self] at z;cases z;exact hc
    ·rw[List.lookup_cons,beq_false_of_ne hy] at z;exact h y d z
   ·exact D4 r _ h x c e
  ·exact D4 r _ h x c e
theorem Fv{cells:List (Str×Addr)}:∀(names:List (Str×NameKind)) (cs:List (Str×Addr)) (x:Str),(names.all fun y=>!(y.2 == .free)||(cells.lookup y.1).isSome)=true→((x,NameKind.free)∈names∨∃c,cs.lookup x=some c)→∃c,(Br cells names cs).lookup x=some c
 |[],cs,x,_,h=>h.elim (fun z=>nomatch z) id
 |(n,k)::r,cs,x,ha,h=>by
  rw[List.all_cons,Bool.and_eq_true] at ha;unfold Br
  by_cases hk:(k == NameKind.free)=true
  ·have hs:(cells.lookup n).isSome=true:=by
    have h1:=ha.1;simp only[hk,Bool.not_true,Bool.false_or] at h1;exact h1
   obtain⟨c,hc⟩:=Option.isSome_iff_exists.mp hs;rw[if_pos hk,hc];refine Fv r _ x ha.2 ?_
   by_cases hx:x=n
   ·subst hx;exact .inr ⟨c,List.lookup_cons_self⟩
   ·rcases h with h|⟨d,h⟩
    ·rcases List.mem_cons.mp h with z|z
     ·cases z;exact absurd rfl hx
     ·exact .inl z
    ·exact .inr ⟨d,by rw[List.lookup_cons,beq_false_of_ne hx];exact h⟩
  ·rw[if_neg hk];refine Fv r _ x ha.2 (h.imp (fun z=>?_) id);rcases List.mem_cons.mp z with z|z
   ·cases z;exact absurd rfl hk
   ·exact z
noncomputable def Fg(P:Gp→Prop)(G:Gp):Prop:=∃G',Sub G' G∧P G'
theorem Fg.of{P:Gp→Prop}{G:Gp}(h:P G):Fg P G:=⟨G,Sub.refl G,h⟩
noncomputable def Abk(n:Nat)(σ σ2:DSt):Prop:=∃pre,pre.length=n∧σ2=pre++σ
noncomputable def Qf(n:Nat)(p:Addr)(ds:List D)(same:Gp→Prop)(g:DTG)(tf:DTT)(te:DTE)(σ:DSt)(G:Gp)(Q:DK):Prop:=∃P:Nat→List D→Gp→Prop,P 0 [] G∧(∀i ys G,i≤ds.length→P i ys G→same G∧G p=some (.lst ys))∧
 (∀i x ys G,ds[i]? = some x→P i ys G→g x (List.replicate n none++σ) G fun σ2 G2=>Abk n σ σ2∧tf σ2 G2 fun b G3=>if b=true then te σ2 G3 fun y G4=>G4 p=some (.lst ys)∧ys.length<sizeLine∧Fg (P (i+1) (ys++[y])) (Ab G4 p (.lst (ys++[y]))) else Fg (P (i+1) ys) G3)∧
 ∀ys G,P ds.length ys G→Q (.ref p) G
theorem Qu{K:W.Frag}{H:Hp}{σD:DSt}{σ:St}(n:Nat)(r:RelS K H σD σ):RelS K H (List.replicate n none++σD) (List.replicate n none++σ):=by
 refine⟨by simp[r.1],fun i d e=>?_⟩
 by_cases hi:i<n
 ·rw[List.getElem?_append_left (by simpa using hi),List.getElem?_replicate,if_pos hi] at e
  cases e
 ·rw[List.getElem?_append_right (by simpa using hi)] at e ⊢
  simp only[List.length_replicate] at e ⊢;exact r.2 _ d e
section
variable{X:Cx}{elt iter:Expr}{x:Str}{px:Pos}{ifs:List Expr}{scope:Scope}{pos:Pos}{ti te:DTE}{tf:DTT}{T:List Str}
noncomputable def QF(X:Cx)(ifs:List Expr)(t:DTT):Prop:=PF X ifs (D5 X.K t)
noncomputable def Aaq:DTT:=fun _ G Q=>Q true G
theorem Um:QF X [] Aaq:=fun pins s σ H Q I ⟨σD,G,Q',rs,rg,h,cl⟩=>Adc pins s σ H Q I (cl _ G h H (Ext.refl H) rg)
theorem qf_one{c:Expr}{t:DTT}(h:QT X c t):QF X [c] t:=Adb h
end
noncomputable def Cf(G:Gp):D→Option String
 |.non=>some "NoneType"
 |.bl _=>some "bool"
 |.int _=>some "int"
 |.str _=>some "str"
 |.tup _=>some "tuple"
 |.ref a=>match G a with
  |some (.lst _)=>some "list"
  |some (.dct _)=>some "dict"
  |some (.dkk _)=>some "dict"
  |_=>none
 |_=>none
theorem ty_bl{G:Gp}{i:Bool}:Cf G (.bl i)=some "bool":=rfl
theorem Ab0{G:Gp}{i:Str}:Cf G (.str i)=some "str":=rfl
theorem Abz{G:Gp}{i:List D}:Cf G (.tup i)=some "tuple":=rfl
noncomputable def pyIs(t c:String):Bool:=t == c||(t == "bool" && c == "int")
noncomputable def Aba(t c:String):Option Bool:=if (Value.type t == Value.type c)=true then some true else if W.kitMeta c=true then (fastBuiltinMro t).map (·.contains (.type c)) else none
theorem Ad5(K:W.Frag)(t c:String):W.kitOne K (.type t) (.type c)=Aba t c:=rfl
noncomputable abbrev tNames:List String:=["NoneType", "bool", "int", "str", "tuple", "list", "dict"]
noncomputable abbrev cNames:List String:=["int", "bool", "tuple", "list", "str", "dict"]
theorem Wt:(tNames.all fun t=>cNames.all fun c=>Aba t c == some (pyIs t c))=true:=by decide +kernel
theorem Oz{G:Gp}{d:D}{t:String}(h:Cf G d=some t):t∈tNames:=by
 cases d<;>simp only[Cf] at h<;>first
  |(cases h;decide)
  |(split at h<;>first|(cases h;decide)|cases h)
  |cases h
theorem Xt{K:W.Frag}{H:Hp}{G:Gp}{d:D}{v:V}{t:String}(rg:RelG K H G)(h:Cf G d=some t)(dv:DV K H d v):TyOf K H v (.type t):=by
 cases dv with
 |non=>cases h;exact .non
 |bl b=>cases h;exact .bl b
 |int i=>cases h;exact .int i
 |str x=>cases h;exact .str x
 |tup e r=>cases h;exact .tup e
 |ty n=>cases h
 |lint e=>cases h
 |ref a=>
  simp only[Cf] at h
  split at h
  ·rename_i ds q;cases h;obtain⟨xs,e,_⟩:=rg a _ q;exact .lst e
  ·rename_i ds q;cases h;obtain⟨xs,e,_⟩:=rg a _ q;exact .dT e
  ·rename_i ds q;cases h;obtain⟨xs,e,_⟩:=rg a _ q;exact .dK e
  ·cases h
theorem Aeh:("int"∈cNames)=True:=by decide
theorem Zw:("bool"∈cNames)=True:=by decide
theorem Wz:("tuple"∈cNames)=True:=by decide
theorem Zv:("list"∈cNames)=True:=by decide
noncomputable def Kn(G:Gp)(d:D):Prop:=∃t,Cf G d=some t
section
variable{X:Cx}
theorem W3:QC X (.builtin "isinstance") (fun ds G Q=>∃x c,ds=[x,.ty c]∧c∈cNames∧∃t,Cf G x=some t∧Q (.bl (pyIs t c)) G):=by
 rintro pins s σ H xs us Q I r ⟨ds,G,Q',dv,rg,⟨x,c,e,hc,t,ht,q⟩,cl⟩;subst e;obtain⟨v,w,rfl,d1,d2⟩:=dv.two;cases d2;obtain⟨u1,u2,rfl,r1,r2⟩:=P4 r;cases r2;have hk:W.kitOne X.K (.type t) (.type c)=some (pyIs t c):=by
  rw[Ad5];have h1:=List.all_eq_true.mp Wt t (Oz ht);have h2:=List.all_eq_true.mp h1 c hc;exact beq_iff_eq.mp h2
 refine S7 I r1 (Xt rg ht d1) hk fun tk=>?_;exact⟨.bl (pyIs t c),H,I.tok _,rfl,cl _ G q H (Ext.refl H) rg _ (.bl _)⟩

theorem Th(hc:X.calm=true):CallR X (.builtin "all") (fun xs H Q=>∃(a:Addr) (bs:List Bool),xs=[.ref a]∧SqL X.K H a (bs.map V.bl)∧Q (.bl (bs.all id)) H):=by
 intro pins s σ H xs us Q I r h;obtain⟨a,bs,rfl,hq,q⟩:=h;obtain⟨u,rfl,ru⟩:=Ek r;cases ru;obtain⟨its,rv,p,hz⟩:=I.list hq;refine call_all_walk ?_;refine wpAny_pyIter_list p.isList ?_;have hlt:a<s.heap.objs.size:=by obtain⟨_,_,e,_⟩:=p;exact Heap.lt_size e
 refine⟨s.heap.objs.size,_,_,_,_,_,fun i=>(bs[i]?).getD true,rfl,Walks.list (A:=X.A.in1) (I.ok.hd hc) _ _ (Nat.ne_of_lt hlt) its.toArray,⟨⟨_,Heap.get?_push_size _ rfl,rfl,rfl⟩,p.isList.push _⟩,?_,?_⟩
 ·intro i v s' Q' E' hP hQ;have hv:its[i]? = some v:=by simpa using hP
  have hb:∃b,bs[i]? = some b∧v=Value.bool b:=by
   have key:∀(bs:List Bool) (its:List Value),Vals (bs.map V.bl) its→∀(i:Nat) (v:Value),its[i]? = some v→∃b,bs[i]? = some b∧v=Value.bool b:=by
    intro bs
    induction bs with
    |nil=>intro its r i v e;cases r;simp at e
    |cons b bs ih=>
     intro its r i v e;rw[List.map_cons] at r;cases r with
     |cons r1 r2=>
      cases i with
      |zero=>simp at e;subst e;cases r1;exact⟨b,rfl,rfl⟩
      |succ i=>simpa using ih _ r2 i v (by simpa using e)
   exact key bs its rv i v hv
  obtain⟨b,eb,rfl⟩:=hb;refine wpAny_truthy_bool ?_
  have:(bs[i]?).getD true=b:=by rw[eb];rfl
  dsimp only at hQ;rw[this] at hQ;exact hQ
 ·intro h' tk hk;have hl:=rv.length;rw[List.length_map] at hl;have e:((List.range its.toArray.size).all fun i=>(bs[i]?).getD true)=bs.all id:=by
   rw[List.size_toArray,←hl,Bool.eq_iff_iff,List.all_eq_true,List.all_eq_true];constructor
   ·intro h b hb;obtain⟨i,hi,e⟩:=List.getElem_of_mem hb
    have:=h i (List.mem_range.mpr hi)
    rw[List.getElem?_eq_getElem hi,e] at this;exact this
   ·intro h i hi;have hi:=List.mem_range.mp hi;rw[List.getElem?_eq_getElem hi];exact h _ (List.getElem_mem hi)
  refine⟨.bl (bs.all id),H,I.kept (t':=tk) fun b o eb=>hk b o (fun z=>?_) (Heap.get?_push_of_some _ eb),by rw[e];rfl,q⟩
  have:b=s.heap.objs.size:=by simpa using z
  subst this;exact absurd (Heap.lt_size eb) (Nat.lt_irrefl _)
theorem U2{K:W.Frag}{H:Hp}:∀{bs:List Bool} {vs:List V},DVs K H (bs.map D.bl) vs→vs=bs.map V.bl
 |[],_,r=>by cases r;rfl
 |b::bs,_,r=>by
  cases r with
  |cons h t=>cases h;rw[U2 t];rfl
theorem c_all(hc:X.calm=true):QC X (.builtin "all") (fun ds G Q=>∃a,ds=[.ref a]∧∃bs:List Bool,G a=some (.lst (bs.map D.bl))∧Q (.bl (bs.all id)) G):=(Th hc).imp fun xs H Q zz=>by
 obtain⟨ds,G,Q',dv,rg,⟨a,e,bs,eg,q⟩,cl⟩:=zz;subst e;obtain⟨v,rfl,r⟩:=dv.one;cases r;obtain⟨ys,ey,ry⟩:=rg a _ eg
 have:=U2 ry
 subst this;exact⟨a,bs,rfl,.inl (.inl ey),cl _ G q H (Ext.refl H) rg _ (.bl _)⟩
theorem B2{n i0:Nat}{p:Addr}{ds:List D}{same:Gp→Prop}{tf:DTT}{te:DTE}{σ:DSt}{G:Gp}{Q:DK}(f:D→D)(c:D→Bool)(hz:ds.length<sizeLine)(hsm:∀ys,same (Ab G p (.lst ys)))(h0:i0<n)(hs:∀x ys,x∈ds→ys.length<sizeLine→∀(R1:D→Gp→Prop) (R2:Gp→Prop),(c x=true→R1 (f x) (Ab G p (.lst (ys++[f x]))))→(c x=false→R2 (Ab G p (.lst ys)))→
   tf ((List.replicate n none++σ).set i0 (some x)) (Ab G p (.lst ys)) fun b G3=>if b=true then te ((List.replicate n none++σ).set i0 (some x)) G3 fun y G4=>G4 p=some (.lst ys)∧ys.length<sizeLine∧Fg (R1 y) (Ab G4 p (.lst (ys++[y]))) else Fg R2 G3)(hq:Q (.ref p) (Ab G p (.lst ((ds.filter c).map f)))):Qf n p ds same (F2 i0) tf te σ (Ab G p (.lst [])) Q:=by
 refine⟨fun i ys G'=>ys=((ds.take i).filter c).map f∧Ab G p (.lst ys)=G',⟨rfl,rfl⟩,?_,?_,?_⟩
 ·rintro i ys _ _ ⟨_,rfl⟩;exact⟨hsm ys,Aa⟩
 ·rintro i x ys _ hx ⟨e,rfl⟩;have hi:=(List.getElem?_eq_some_iff.mp hx).1;have hl:ys.length<sizeLine:=by
   rw[e,List.length_map];refine Nat.lt_of_le_of_lt (List.length_filter_le _ _) ?_;rw[List.length_take];omega
  have tk:ds.take (i+1)=ds.take i++[x]:=by rw[List.take_add_one,hx];rfl
  refine⟨⟨(List.replicate n none).set i0 (some x),by simp,by rw[List.set_append_left _ _ (by simpa using h0)]⟩,?_⟩
  refine hs x ys (List.mem_of_getElem? hx) hl (fun y G'=>ys++[y]=((ds.take (i+1)).filter c).map f∧Ab G p (.lst (ys++[y]))=G') (fun G'=>ys=((ds.take (i+1)).filter c).map f∧Ab G p (.lst ys)=G') (fun hc=>⟨?_,rfl⟩) (fun hc=>⟨?_,rfl⟩)
  ·rw[tk,List.filter_append,List.map_append,←e];simp[hc]
  ·rw[tk,List.filter_append,List.map_append,←e];simp[hc]
 ·rintro ys _ ⟨e,rfl⟩;rw[List.take_length] at e;rw[e];exact hq
end
mutual
inductive RepD (G:Gp):D→PyData→Prop where
 |non:RepD G .non .none
 |bl (b:Bool):RepD G (.bl b) (.bool b)
 |int (i:Int):RepD G (.int i) (.int i)
 |str (x:Str):RepD G (.str x) (.str x)
 |tup {ds:List D} {ps:List PyData} (r:RepDs G ds ps):RepD G (.tup ds) (.tuple ps)
 |lst {a:Addr} {ds:List D} {ps:List PyData} (e:G a=some (.lst ds)) (r:RepDs G ds ps):RepD G (.ref a) (.list ps)
 |dct0 {a:Addr} (e:G a=some (.dkk [])):RepD G (.ref a) (.dict [])
inductive RepDs (G:Gp):List D→List PyData→Prop where
 |nil:RepDs G [] []
 |cons {d:D} {p:PyData} {ds:List D} {ps:List PyData} (h:RepD G d p) (t:RepDs G ds ps):RepDs G (d::ds) (p::ps)
end
section
variable{P:Program}{w:World}{K:W.Frag}{H:Hp}{G:Gp}{h:Heap}
mutual
theorem Bj(rg:RelG K H G)(ok:HOk P w H h):∀{d:D} {p:PyData} {v:V} {u:Value},RepD G d p→DV K H d v→RelV v u→∃as,Reads h u p as∧∀b∈as,H b≠none
 |_,_,_,_,.non,dv,r=>by cases dv;cases r;exact⟨_,.none,by simp⟩
 |_,_,_,_,.bl b,dv,r=>by cases dv;cases r;exact⟨_,.bool b,by simp⟩
 |_,_,_,_,.int i,dv,r=>by cases dv;obtain⟨t,rfl⟩:=r;exact⟨_,.int i t,by simp⟩
 |_,_,_,_,.str x,dv,r=>by cases dv;obtain⟨t,rfl⟩:=r;exact⟨_,.str x t,by simp⟩
 |_,_,_,_,.tup rs,dv,r=>by
  cases dv with
  |@tup _ a xs e ds=>
   cases r;obtain⟨_,its,rv,o,h1,h2,n,h3⟩:=(show ObjOk P w H h a (.tup xs) from ok a _ e);obtain⟨as,ra,hb⟩:=Dr rg ok rs ds rv;exact⟨_,.tuple h1 h2 h3 (by simpa using ra),hb⟩
 |_,_,_,_,@RepD.lst _ a _ _ e rs,dv,r=>by
  cases dv with
  |ref=>
   cases r;obtain⟨xs,ex,ds⟩:=rg _ _ e;obtain⟨_,its,n,rv,h1⟩:=(show ObjOk P w H h a (.lst xs) from ok a _ ex);obtain⟨as,ra,hb⟩:=Dr rg ok rs ds rv;refine⟨_,.list h1 rfl rfl (by simpa using ra),fun b hm=>?_⟩
   rcases List.mem_cons.mp hm with z|z
   ·subst z;rw[ex];simp
   ·exact hb b z
 |_,_,_,_,@RepD.dct0 _ a e,dv,r=>by
  cases dv with
  |ref=>
   cases r;obtain⟨ks,ex,ds⟩:=rg _ _ e;cases ds;obtain⟨_,_,vs,rv,o,es,ep,h1,h2,h3,_,h4,_⟩:=(show ObjOk P w H h a (.dK []) from ok a _ ex);cases rv;have he:es.toList=[]:=by
    revert h4
    cases es.toList with
    |nil=>intro _;rfl
    |cons x r=>intro h4;exact absurd h4 (by intro z;cases z)
   refine⟨_,.dict (kvs:=[]) h1 h2.1 h3 (by rw[he];exact .nil) (by rw[he];exact .nil),fun b hm=>?_⟩
   have:b=a:=by simpa using hm
   subst this;rw[ex];simp
theorem Dr(rg:RelG K H G)(ok:HOk P w H h):∀{ds:List D} {ps:List PyData} {vs:List V} {us:List Value},RepDs G ds ps→DVs K H ds vs→Vals vs us→∃as,ReadsAll h us ps as∧∀b∈as,H b≠none
 |_,_,_,_,.nil,dv,r=>by cases dv;cases r;exact⟨_,.nil,by simp⟩
 |_,_,_,_,.cons hd tl,dv,r=>by
  cases dv with
  |cons d1 d2=>
   cases r with
   |cons r1 r2=>
    obtain⟨as,a,ha⟩:=Bj rg ok hd d1 r1;obtain⟨bs,b,hb⟩:=Dr rg ok tl d2 r2;exact⟨_,.cons a b,fun x hx=>(List.mem_append.mp hx).elim (ha x) (hb x)⟩
end
end
section
variable{X:Cx}{k:Nat}
noncomputable def dEqD:DR2:=fun x y G Q=>∃p q,RepD G x p∧RepD G y q∧p.canLay0=true∧q.canLay0=true∧min p.depth q.depth≤100∧Q (.bl (PyData.eqv p q)) G
noncomputable def Oe:DR2:=fun x y G Q=>∃p q,RepD G x p∧RepD G y q∧p.canLay0=true∧q.canLay0=true∧min p.depth q.depth≤100∧Q (.bl (!PyData.eqv p q)) G
theorem Cq{A:Around}(hr:Room k A){n:Nat}(h:n≤100):A.units+n<cLine:=by have:=hr.un;omega
theorem o_eqD(hr:Room k X.A):QOp X (compareOp .Eq) dEqD:=by
 rintro pins s σ H x y v u Q I rx ry ⟨dx,dy,G,Q',hx,hy,rg,⟨p,q,rp,rq,c1,c2,hd,h⟩,cl⟩;obtain⟨as,ra,hfa⟩:=Bj rg I.hok rp hx rx;obtain⟨bs,rb,hfb⟩:=Bj rg I.hok rq hy ry;exact SeqAt.compareEq_reads ra rb c1 c2 (Cq hr hd) ⟨.bl _,H,I,rfl,cl _ G h H (Ext.refl H) rg _ (.bl _)⟩
theorem o_neD(hr:Room k X.A):QOp X (compareOp .NotEq) Oe:=by
 rintro pins s σ H x y v u Q I rx ry ⟨dx,dy,G,Q',hx,hy,rg,⟨p,q,rp,rq,c1,c2,hd,h⟩,cl⟩;obtain⟨as,ra,hfa⟩:=Bj rg I.hok rp hx rx;obtain⟨bs,rb,hfb⟩:=Bj rg I.hok rq hy ry;exact SeqAt.compareNe_reads ra rb c1 c2 (Cq hr hd) ⟨.bl _,H,I,rfl,cl _ G h H (Ext.refl H) rg _ (.bl _)⟩
noncomputable def Xl(neg:Bool):DR2:=fun x y G Q=>∃p ps,RepD G x p∧(RepD G y (.list ps)∨RepD G y (.tuple ps))∧p.canLay0=true∧PyData.canLayAll0 ps=true∧1+min (PyData.depthAll ps) p.depth≤100∧Q (.bl (if neg then !(ps.any fun y=>PyData.eqv y p) else ps.any fun y=>PyData.eqv y p)) G
theorem o_inD(hr:Room k X.A):QOp X (compareOp .In) (Xl false):=by
 rintro pins s σ H x y v u Q I rx ry ⟨dx,dy,G,Q',hx,hy,rg,⟨p,ps,rp,rq,c1,c2,hd,h⟩,cl⟩;obtain⟨as,ra,hfa⟩:=Bj rg I.hok rp hx rx;have fin:EP X pins σ Q (.bool (ps.any fun y=>PyData.eqv y p)) s:=⟨.bl _,H,I,rfl,cl _ G h H (Ext.refl H) rg _ (.bl _)⟩;rcases rq with rq|rq
 ·obtain⟨bs,rb,hfb⟩:=Bj rg I.hok rq hy ry;exact SeqAt.in_list_reads rb ra c2 c1 (by have:=Cq hr hd;omega) fin
 ·obtain⟨bs,rb,hfb⟩:=Bj rg I.hok rq hy ry;exact SeqAt.in_tuple_reads rb ra c2 c1 (by have:=Cq hr hd;omega) fin
theorem o_notinD(hr:Room k X.A):QOp X (compareOp .NotIn) (Xl true):=by
 rintro pins s σ H x y v u Q I rx ry ⟨dx,dy,G,Q',hx,hy,rg,⟨p,ps,rp,rq,c1,c2,hd,h⟩,cl⟩;obtain⟨as,ra,hfa⟩:=Bj rg I.hok rp hx rx;have fin:EP X pins σ Q (.bool (!ps.any fun y=>PyData.eqv y p)) s:=⟨.bl _,H,I,rfl,cl _ G h H (Ext.refl H) rg _ (.bl _)⟩;rcases rq with rq|rq
 ·obtain⟨bs,rb,hfb⟩:=Bj rg I.hok rq hy ry;exact SeqAt.notIn_list_reads rb ra c2 c1 (by have:=Cq hr hd;omega) fin
 ·obtain⟨bs,rb,hfb⟩:=Bj rg I.hok rq hy ry;exact SeqAt.notIn_tuple_reads rb ra c2 c1 (by have:=Cq hr hd;omega) fin
end
section
variable{prog:Program}{w:World}{A:Around}{E:Value→Shared→Prop}{s:Shared}
theorem E9{t sl:Addr}{items:Array Value}{vl vu:Value}{lo hi:Option Int}{Q:Value→Shared→Prop}(ht:IsTup s.heap t items)(hs:s.heap.IsSliceOf sl vl vu .none)(pl:IsPart vl lo)(pu:IsPart vu hi)(hw:HT.sIx items.size 0 lo=0∧HT.sIx items.size items.size hi=items.size)(h:Q (.ref t) s):wpAny (model prog w) A (getItem (.ref t) (.ref sl)) Q E s:=by
 obtain⟨os,hos,hcs,hds⟩:=id hs;have hTs:s.TypeIs (.ref sl) "slice":=⟨os,hos,hcs⟩;unfold getItem
 try with_reducible refine wpAny_holding ?_
 first|refine wpAny_bind (wpAny_pure ?_)|skip
 refine wpAny_bind (wpAny_sequenceKey ht.typeIs (by decide) ?_)
 refine wpAny_bind (wpAny_callSpecial?_slot (name:=Str.ofString "__getitem__") ht.typeIs PyProof.Rows.slot_tuple_getitem
  (wpAny_call_entry PyProof.Rows.slot_tuple_getitem ht.typeIs entry_tuple_getitem ?_ (args_tuple_getitem _ _)))
 show wpAny _ _ (Builtin.Tuple.tupleItemsOf (.ref t) >>= _) _ _ s;refine wpAny_bind (tupleItemsOf_ ht ?_);refine wpAny_bind (wpAny_typeOf hTs ?_);rw[if_pos (by decide)]
 refine wpAny_bind (HT.sliceApplied_gen hs pl pu ?_);show wpAny _ _ (if (((HT.sIx items.size 0 lo:Nat):Int) == 0&&(1:Int) == 1&&(HT.sIx items.size items.size hi-HT.sIx items.size 0 lo) == items.size)=true then _ else _) _ _ s;rw[if_pos (by rw[hw.1,hw.2];simp)]
 refine wpAny_bind ?_;unfold Builtin.Tuple.tupleIsExact;refine wpAny_bind (wpAny_typeOf ht.typeIs (wpAny_pure ?_));rw[if_pos (by decide)]
 refine wpAny_bind (wpAny_rule ?_);exact wpAny_pure ⟨_,rfl,wpAny_pure h⟩
end
section
variable{X:Cx}{a b c e:Expr}{ta tb tc te:DTE}{pos p2:Pos}{lo hi:Option Expr}
noncomputable def Ct(xs:List D)(lo hi:Option Int):List D:=(xs.drop (HT.sIx xs.length 0 lo)).take (HT.sIx xs.length xs.length hi-HT.sIx xs.length 0 lo)
theorem U1{K:W.Frag}{H:Hp}{ds:List D}{vs:List V}(r:DVs K H ds vs)(lo hi:Option Int):DVs K H (Ct ds lo hi) (Me vs lo hi):=by
 unfold Ct Me;rw[r.length];exact(r.drop _).take _
theorem Td{ds:List D}{lo hi:Option Int}(h:HT.sIx ds.length 0 lo=0∧HT.sIx ds.length ds.length hi=ds.length):Ct ds lo hi=ds:=by
 unfold Ct;rw[h.1,h.2];simp
noncomputable abbrev DTO:=DSt→Gp→(Option Int→Gp→Prop)→Prop
noncomputable def liftO(K:W.Frag)(t:DTO):TO:=fun σ H Q=>∃σD G Q',RelS K H σD σ∧RelG K H G∧t σD G Q'∧∀o G',Q' o G'→Fwd K H G' fun H'=>Q o H'
noncomputable def QO(X:Cx)(e:Option Expr)(t:DTO):Prop:=PO X e (liftO X.K t)
noncomputable def Q0:DTO:=fun _ G Q=>Q none G
noncomputable def Aau(t:DTE):DTO:=fun σ G Q=>t σ G fun x G1=>∃i,x=.int i∧Q (some i) G1
theorem _root_.L2.PO.imp{X:Cx}{e:Option Expr}{t t':TO}(h:PO X e t)(f:∀σ H Q,t' σ H Q→t σ H Q):PO X e t':=fun pins s σ H Q I q=>h pins s σ H Q I (f σ H Q q)
theorem K1:QO X none Q0:=po_none.imp fun σ H Q ⟨σD,G,Q',rs,rg,h,cl⟩=>cl _ G h H (Ext.refl H) rg
theorem Ql(h:QE X e te):QO X (some e) (Aau te):=(Yr h).imp fun σ H Q zz=>by
 obtain⟨σD,G,Q',rs,rg,h,cl⟩:=zz;refine⟨σD,G,_,rs,rg,h,fun d G1 zz H1 x1 rg1 v dv=>?_⟩;obtain⟨i,ei,h1⟩:=zz;subst ei;cases dv;exact⟨i,rfl,cl _ G1 h1 H1 x1 rg1⟩
noncomputable def Dl(G:Gp)(x:D)(lo hi:Option Int)(Q:DK):Prop:=match x with
 |.tup ds=>Q (.tup (Ct ds lo hi)) G
 |.ref a=>match G a with
  |some (.lst ds)=>∀p,G p=none→Q (.ref p) (Ab G p (.lst (Ct ds lo hi)))
  |_=>False
 |_=>False
noncomputable def rSl(K:W.Frag):V→Option Int→Option Int→Hp→VK→Prop:=fun x lo hi H Q=>∃d G Q',DV K H d x∧RelG K H G∧Dl G d lo hi Q'∧∀d G',Q' d G'→Fwd K H G' fun H'=>∀v,DV K H' d v→Q v H'
theorem Acd:SlR X (rSl X.K):=by
 rintro pins s σ H x v vl vu lo hi sl Q I rx hs pl pu ⟨d,G,Q',dv,rg,h,cl⟩;cases dv with
 |@tup ds a xs e r=>
  have h:Q' (.tup (Ct ds lo hi)) G:=h
  by_cases hw:HT.sIx xs.length 0 lo=0∧HT.sIx xs.length xs.length hi=xs.length
  ·cases rx;obtain⟨its,rv,ht,hz⟩:=I.tuple (.inl (.inl e));have hlen:its.toArray.size=xs.length:=by rw[List.size_toArray];exact rv.length.symm
   refine⟨"tuple",_,PyProof.Rows.slot_tuple_getitem.lookup,ht.typeIs,E9 ht hs pl pu (by rw[hlen];exact hw) ⟨.ref a,H,I,rfl,?_⟩⟩
   rw[Td (by rw[r.length];exact hw)] at h
   exact cl _ G h H (Ext.refl H) rg _ (.tup e r)
  ·exact Acb pins s σ H _ v vl vu lo hi sl Q I rx hs pl pu ⟨a,xs,rfl,.inl (.inl e),hw,fun p hp=>cl _ G h _ (Ext.fresh hp) (rg.tup hp) _ (.tup Ah ((U1 r lo hi).ext (Ext.fresh hp)))⟩
 |ref a=>
  simp only[Dl] at h
  split at h
  ·rename_i ds g;obtain⟨xs,e,r⟩:=rg a _ g;exact X5 pins s σ H _ v vl vu lo hi sl Q I rx hs pl pu ⟨a,xs,rfl,.inl (.inl e),fun p hp=>cl _ _ (h p (rg.free hp)) _ (Ext.fresh hp) (rg.lst hp (U1 r lo hi)) _ (.ref p)⟩
  ·exact h.elim
 |_=>exact h.elim
noncomputable def nSl(te:DTE)(tl th:DTO):DTE:=fun σ G Q=>te σ G fun x G1=>tl σ G1 fun l G2=>th σ G2 fun u G3=>Dl G3 x l u Q
theorem K3{tl th:DTO}(he:QE X e te)(hl:QO X lo tl)(hu:QO X hi th):QE X (.Subscript e (.Slice lo hi none p2) pos) (nSl te tl th):=(Vx Acd he hl hu).imp fun σ H Q zz=>by
 obtain⟨σD,G,Q',rs,rg,h,cl⟩:=zz;refine⟨σD,G,_,rs,rg,h,fun x G1 h1 H1 x1 rg1 v1 d1=>?_⟩;refine⟨σD,G1,_,rs.ext x1,rg1,h1,fun l G2 h2 H2 x2 rg2=>?_⟩;refine⟨σD,G2,_,rs.ext (x1.trans x2),rg2,h2,fun u G3 h3 H3 x3 rg3=>?_⟩;exact⟨x,G3,Q',d1.ext (x2.trans x3),rg3,h3,fun d G' q=>(cl d G' q).go (x1.trans (x2.trans x3))⟩

theorem W1{prog:Program}{w:World}{A:Around}{E:Value→Shared→Prop}{s:Shared}{t b:Addr}{ws:List Value}{Q:Value→Shared→Prop}(ht:IsTup s.heap t #[])(hb:IsTup s.heap b ws.toArray)(h1:Q (.ref b) s) :
  wpAny (model prog w) A (binaryOp .Add (.ref t) (.ref b)) Q E s:=by
 obtain⟨⟨cls,dd,data,sl⟩,ho,hc,n,hd⟩:=id ht;obtain⟨⟨cls2,dd2,data2,sl2⟩,ho2,hc2,n2,hd2⟩:=id hb;simp only at hc hd hc2 hd2;subst hc hd hc2 hd2;exact concat_meets ⟨_,ho,rfl⟩ ⟨_,ho2,rfl⟩ noFill_tuple_add seq_tuple_add PySem.F.slot_tuple_add PySem.F.entry_tuple_add (PySem.F.args_tuple_add_2 _ _)
   (tuple_addW0 t b #[] ws.toArray n n2 dd dd2 sl sl2 rfl) ⟨ho,ho2,h1⟩
noncomputable def Rm:DR2:=fun x y G Q=>match x,y with
 |.int i,.int j=>Q (.int (i+j)) G
 |.tup xs,.tup ys=>xs.length+ys.length≤sizeLine∧Q (.tup (xs++ys)) G
 |.ref a,.ref b=>match G a,G b with
  |some (.lst xs),some (.lst ys)=>xs.length+ys.length≤sizeLine∧∀p,G p=none→Q (.ref p) (Ab G p (.lst (xs++ys)))
  |_,_=>False
 |_,_=>False
theorem Ot:QOp X (binaryOp .Add) Rm:=by
 rintro pins s σ H x y v u Q I rx ry ⟨dx,dy,G,Q',hx,hy,rg,h,cl⟩;cases hx with
 |int i=>
  cases hy with
  |int j=>exact Adt pins s σ H _ _ v u Q I rx ry ⟨i,j,rfl,rfl,cl _ G h H (Ext.refl H) rg _ (.int _)⟩
  |_=>exact h.elim
 |@tup xs a vs ea ra=>
  cases hy with
  |@tup ys b ws eb rb=>
   obtain⟨hl,h⟩:=h
   by_cases hne:vs=[]
   ·subst hne;cases ra;cases rx;cases ry;obtain⟨its,r1,p1,_⟩:=I.tuple (.inl (.inl ea));obtain⟨its2,r2,p2,_⟩:=I.tuple (.inl (.inl eb));cases r1;exact W1 p1 p2 ⟨.ref b,H,I,rfl,cl _ G h H (Ext.refl H) rg _ (.tup eb rb)⟩
   ·refine Y0 pins s σ H _ _ v u Q I rx ry ⟨a,b,vs,ws,rfl,rfl,.inl (.inl ea),.inl (.inl eb),hne,by rw[←ra.length,←rb.length];exact hl,?_,fun _ p hp=>cl _ G h _ (Ext.fresh hp) (rg.tup hp) _ (.tup Ah ((ra.append rb).ext (Ext.fresh hp)))⟩
    intro z;subst z;cases rb;rw[List.append_nil] at h;exact cl _ G h H (Ext.refl H) rg _ (.tup ea ra)
  |_=>exact h.elim
 |ref a=>
  cases hy with
  |ref b=>
   simp only[Rm] at h
   split at h
   ·rename_i xs ys ga gb;obtain⟨hl,h⟩:=h;obtain⟨vs,ea,ra⟩:=rg a _ ga;obtain⟨ws,eb,rb⟩:=rg b _ gb;exact Ads pins s σ H _ _ v u Q I rx ry ⟨a,b,vs,ws,rfl,rfl,ea,eb,by rw[←ra.length,←rb.length];exact hl,fun p hp=>cl _ _ (h p (rg.free hp)) _ (Ext.fresh hp) (rg.lst hp (ra.append rb)) _ (.ref p)⟩
   ·exact h.elim
  |_=>exact h.elim
 |_=>exact h.elim
theorem Fi{i j:Int}{G:Gp}{Q:DK}:Rm (.int i) (.int j) G Q=Q (.int (i+j)) G:=rfl
theorem Aeq{i j:List D}{G:Gp}{Q:DK}:Rm (.tup i) (.tup j) G Q=(i.length+j.length≤sizeLine∧Q (.tup (i++j)) G):=rfl
theorem Eo{G:Gp}{ds:List D}{lo hi:Option Int}{Q:DK}:Dl G (.tup ds) lo hi Q=Q (.tup (Ct ds lo hi)) G:=rfl
noncomputable def Aa2:DTE:=fun _ G Q=>∀p,G p=none→Q (.ref p) (Ab G p (.dkk []))
theorem RelG.new{K:W.Frag}{H:Hp}{G:Gp}(r:RelG K H G){p:Addr}{u:HO}{o:GO}(h:H p=none)(n:GOk K (upd H p u) p o):RelG K (upd H p u) (Ab G p o):=fun a q e=>by
 by_cases z:a=p
 ·subst z;rw[Aa] at e;cases e;exact n
 ·rw[Ac z] at e;exact(r a q e).upd (Ext.fresh h) (.inr z)
theorem Uo:QE X (.Dict [] [] pos) Aa2:=pe_dnewK.imp fun σ H Q ⟨σD,G,Q',rs,rg,h,cl⟩=>fun p hp=>
 cl _ _ (h p (rg.free hp)) _ (Ext.fresh hp) (rg.new hp ⟨[],Ah,.nil⟩) _ (.ref p)
end
structure Src where
 it:Addr
 l:Addr
 tp:Bool
noncomputable def Src.At(h:Heap)(c:Src)(i:Nat):Prop:=if c.tp=true then h.IsTupleIter c.it c.l i else h.IsListIter c.it c.l i
noncomputable def Src.Sq(h:Heap)(c:Src)(xs:Array Value):Prop:=if c.tp=true then h.IsTuple c.l xs else h.IsList c.l xs
theorem Src.At.keep{h h':Heap}{c:Src}{i:Nat}(x:c.At h i)(k:∀o,h.get? c.it=some o→h'.get? c.it=some o):c.At h' i:=by
 unfold Src.At at x ⊢
 split at x
 ·rename_i e;rw[if_pos e];exact x.at k
 ·rename_i e;rw[if_neg e];exact x.at k
theorem Src.Sq.keep{h h':Heap}{c:Src}{xs:Array Value}(x:c.Sq h xs)(k:∀o,h.get? c.l=some o→h'.get? c.l=some o):c.Sq h' xs:=by
 unfold Src.Sq at x ⊢
 split at x
 ·rename_i e;rw[if_pos e];exact x.at k
 ·rename_i e;rw[if_neg e];exact x.at k
section
variable{prog:Program}{w:World}{A:Around}{E:Value→Shared→Prop}{s:Shared}
end
section
variable{X:Cx}{pins:List (Addr×Obj)}{σ:St}{H:Hp}{s:Shared}
end
section
variable{X:Cx}{pins:List (Addr×Obj)}{σ:St}{H:Hp}{s:Shared}{E:Value→Shared→Prop}
end
structure ItemsX(K:W.Frag)(J:It)(H:Hp)(ds:List D):Prop where
 go:∀i,i<ds.length→J.go i H
 yl:∀i x H',i<ds.length→J.yld i H x H'→Ext H H'∧(∀G,RelG K H G→RelG K H' G)∧∃d,ds[i]? = some d∧DV K H' d x
 st:J.stop ds.length H
section
variable{X:Cx}{a b c e:Expr}{elts:List Expr}{kk:Nat}{tp p pos:Pos}{body:List Stmt}
end
noncomputable def Ax(scope:Scope)(cl:List (Str×Addr))(C:Addr):List (Str×Addr):=cellsFrom (C+1) scope.names cl
noncomputable def Aj(X:Cx)(scope:Scope)(cl:List (Str×Addr))(T M:List Str)(s:Shared)(H:Hp)(fp:List Addr):Cx where
 prog:=X.prog
 w:=X.w
 K:=X.K
 mg:=X.mg
 base:=X.base
 A:=X.A
 N:=T++M
 s₀:=s
 H₀:=H
 env:=compEnvC scope (Ax scope cl s.heap.objs.size) s.heap.objs.size X.env
 outer:=X.stack
 stack:=X.stack
 ex:=fp
 fn:=fun x=>scope.names.lookup x == some .cell
 calm:=X.calm
 pn:=[]
 xe:=fun _ _=>False
structure CompOz(X:Cx)(scope:Scope)(cl:List (Str×Addr))(T M:List Str):Prop where
 clos:closureFor scope X.env=pure cl
 kind:scope.kind=.function
 names:∀y∈scope.names,y.2=.local→scope.names.lookup y.1=some .local
 nocl:∀y∈scope.names,y.2=.cell→scope.names.lookup y.1=some .cell
 sub:∀x c,cl.lookup x=some c→X.env.cells.lookup x=some c∧scope.names.lookup x=some .free
 has:∀x,scope.names.lookup x=some .free→∃c,cl.lookup x=some c
 len:M.length=X.N.length
 vis:∀(i:Nat) (x:Str),M[i]? = some x→∀k,scope.names.lookup x=some k→k≠.local∧k≠.cell∧(k=.free→X.N[i]? = some x∧(X.env.kindOf x=some .cell∨X.env.kindOf x=some .free))
theorem By{scope:Scope}{env:Env}{x:Str}:(relabel scope env).names.lookup x=(scope.names.lookup x).map fun k=>if (k == NameKind.free&&env.scope.kind == .function&&env.kindOf x == some .cell)=true then NameKind.cell else k:=by
 show(scope.names.map fun(n,k)=>if (k == NameKind.free&&env.scope.kind == .function&&env.kindOf n == some .cell) then (n,NameKind.cell) else (n,k)).lookup x=_;generalize scope.names=names
 induction names with
 |nil=>rfl
 |cons y r ih=>
  obtain⟨n,k⟩:=y;rw[List.map_cons]
  by_cases hx:x=n
  ·subst hx
   by_cases hc:(k == NameKind.free&&env.scope.kind == .function&&env.kindOf x == some .cell)=true
   ·simp only[hc,if_true,List.lookup_cons_self,Option.map_some]
   ·simp only[hc,Bool.false_eq_true,if_false,List.lookup_cons_self,Option.map_some]
  ·have e:∀k',List.lookup x ((n,k')::r)=List.lookup x r:=fun k'=>by rw[List.lookup_cons,beq_false_of_ne hx]
   rw[e,←ih]
   by_cases hc:(k == NameKind.free&&env.scope.kind == .function&&env.kindOf n == some .cell)=true
   ·simp only[hc,if_true];rw[List.lookup_cons,beq_false_of_ne hx]
   ·simp only[hc];rw[show(if false=true then (n,NameKind.cell) else (n,k))=(n,k) from rfl,List.lookup_cons,beq_false_of_ne hx]
theorem Bd:∀(names:List (Str×NameKind)) (n:Nat) (acc:List (Str×Addr)),∃own,cellsFrom n names acc=own++acc∧(∀p∈own,(p.1,NameKind.cell)∈names∧n≤p.2)∧∀x,(x,NameKind.cell)∈names→∃c,own.lookup x=some c
 |[],n,acc=>⟨[],rfl,by simp,by simp⟩
 |(y,k)::r,n,acc=>by
  unfold cellsFrom
  by_cases hk:(k == NameKind.cell)=true
  ·rw[if_pos hk];obtain⟨own,e,h1,h2⟩:=Bd r (n+1) ((y,n)::acc);have hk':k=.cell:=by simpa using hk
   subst hk';refine⟨own++[(y,n)],by rw[e];simp,fun p hp=>?_,fun x hx=>?_⟩
   ·rcases List.mem_append.mp hp with hp|hp
    ·exact⟨List.mem_cons_of_mem _ (h1 p hp).1,by have:=(h1 p hp).2;omega⟩
    ·have:p=(y,n):=by simpa using hp
     subst this;exact⟨by simp,Nat.le_refl _⟩
   ·rcases List.mem_cons.mp hx with z|z
    ·cases z;rw[List.lookup_append];cases q:own.lookup y with
     |some c=>exact⟨c,rfl⟩
     |none=>exact⟨n,by simp⟩
    ·obtain⟨c,hc⟩:=h2 x z;exact⟨c,by rw[List.lookup_append,hc];rfl⟩
  ·rw[if_neg hk];obtain⟨own,e,h1,h2⟩:=Bd r n acc;refine⟨own,e,fun p hp=>⟨List.mem_cons_of_mem _ (h1 p hp).1,(h1 p hp).2⟩,fun x hx=>?_⟩;rcases List.mem_cons.mp hx with z|z
   ·cases z;exact absurd rfl hk
   ·exact h2 x z
theorem B3{X:Cx}{scope:Scope}{cl:List (Str×Addr)}{T M:List Str}(ok:CompOz X scope cl T M)(C:Addr):∀x c,(Ax scope cl C).lookup x=some c→(scope.names.lookup x=some .cell∧C+1≤c)∨(cl.lookup x=some c∧scope.names.lookup x=some .free):=by
 intro x c h;obtain⟨own,e,h1,h2⟩:=Bd scope.names (C+1) cl;unfold Ax at h;rw[e,List.lookup_append] at h;cases q:own.lookup x with
 |some c'=>
  rw[q] at h;have h:some c'=some c:=h;cases h
  have:=h1 _ (PySem.mem_of_lookup q)
  exact .inl ⟨ok.nocl _ this.1 rfl,this.2⟩
 |none=>
  rw[q] at h;have h:cl.lookup x=some c:=h;exact .inr ⟨h,(ok.sub x c h).2⟩
theorem D9{X:Cx}{scope:Scope}{cl:List (Str×Addr)}{T M:List Str}(ok:CompOz X scope cl T M)(C:Addr){x:Str}(hx:scope.names.lookup x=some .free):(Ax scope cl C).lookup x=cl.lookup x:=by
 obtain⟨own,e,h1,h2⟩:=Bd scope.names (C+1) cl;unfold Ax;rw[e,List.lookup_append];cases q:own.lookup x with
 |some c'=>
  have:=ok.nocl _ (h1 _ (PySem.mem_of_lookup q)).1 rfl
  rw[hx] at this;cases this
 |none=>rfl
theorem Fu{X:Cx}{scope:Scope}{cl:List (Str×Addr)}{T M:List Str}{pins:List (Addr×Obj)}{σ:St}{H:Hp}{s s4:Shared}{fp:List Addr}{m:Str→Option Value}(ok:CompOz X scope cl T M)(I:Inv X pins σ H s)(hfp:∀b∈fp,Di X pins H b∧b<s.heap.objs.size)(hn:s4.heap.Ns s.heap.objs.size m)(hk:∀b o,s.heap.get? b=some o→s4.heap.get? b=some o)(hos:s4.os=s.os)(hg:s4.gens=s.gens)(hc1:∀x c,(Ax scope cl s.heap.objs.size).lookup x=some c→scope.names.lookup x=some .cell→∃v,s4.heap.IsCell c v)(hc2:∀x y c,(Ax scope cl s.heap.objs.size).lookup x=some c→(Ax scope cl s.heap.objs.size).lookup y=some c→scope.names.lookup x=some .cell→x=y) :
  Inv (Aj X scope cl T M s H fp) [] (Ob T σ) H s4:=by
 have fr:∀{b:Addr},s.heap.objs.size≤b→H b=none:=fun h=>I.hok.fresh h;have old:∀x c,cl.lookup x=some c→c<s.heap.objs.size:=fun x c e=>by
  obtain⟨v,o,ho,_⟩:=I.cell x c (ok.sub x c e).1;exact Heap.lt_size ho
 have lk:=B3 ok s.heap.objs.size;have inj:∀x y c,(Ax scope cl s.heap.objs.size).lookup x=some c→(Ax scope cl s.heap.objs.size).lookup y=some c→x=y:=fun x y c h1 h2=>by
  rcases lk x c h1 with ⟨a1,a2⟩|⟨a1,a2⟩
  ·exact hc2 x y c h1 h2 a1
  ·rcases lk y c h2 with ⟨b1,b2⟩|⟨b1,b2⟩
   ·exact absurd (Nat.lt_of_lt_of_le (old x c a1) (Nat.le_of_succ_le b2)) (Nat.lt_irrefl _)
   ·exact I.ok.inj x y c (ok.sub x c a1).1 (ok.sub y c b1).1
 have has:∀x,((relabel scope X.env).names.lookup x=some .cell∨(relabel scope X.env).names.lookup x=some .free)→∃c,(Ax scope cl s.heap.objs.size).lookup x=some c:=fun x hx=>by
  rw[By] at hx;cases q:scope.names.lookup x with
  |none=>rw[q] at hx;simp at hx
  |some k=>
   rw[q] at hx;simp only[Option.map_some] at hx
   by_cases hkf:k=.free
   ·subst hkf;obtain⟨c,hc⟩:=ok.has x q;exact⟨c,by rw[D9 ok _ q];exact hc⟩
   ·have:k=.cell:=by
     have hb:(k == NameKind.free)=false:=by simpa using hkf
     simp only[hb,Bool.false_and,Bool.false_eq_true,if_false,Option.some.injEq] at hx;exact hx.elim id fun z=>absurd z hkf
    subst this;obtain⟨own,e,h1,h2⟩:=Bd scope.names (s.heap.objs.size+1) cl;obtain⟨c,hc⟩:=h2 x (PySem.mem_of_lookup q);exact⟨c,by unfold Ax;rw[e,List.lookup_append,hc];rfl⟩
 refine⟨⟨I.ok.mod,ok.kind,I.ok.glob,I.ok.blt,Nat.le_refl _,inj,has,fun x c h h1=>?_,I.ok.hd,I.ok.frames,.inl rfl,fun b hb=>⟨Nat.ne_of_lt (hfp b hb).2,fun x c e=>?_⟩,I.bs,Nat.le_trans I.ok.bsz I.sz,fun b o e hb=>?_,fun b hb z=>?_,I.stack,I.stkFree⟩,
  hos,by rw[hg];exact I.bare,Un.kept hk,⟨m,hn,fun i x v e1 e2 e3=>?_⟩,fun x c e=>?_,fr (Nat.le_refl _),fun x c e=>?_,fun p hp=>absurd (show p∈([]:List (Addr×Obj)) from hp) (by simp),I.hok.kept hk,?_⟩
 ·have h:(scope.names.lookup x == some .cell)=true:=h;have h:scope.names.lookup x=some .cell:=by simpa using h
  rcases lk x c h1 with ⟨_,a2⟩|⟨_,a2⟩
  ·exact Nat.le_of_succ_le a2
  ·rw[h] at a2;cases a2
 ·rcases lk x c e with ⟨_,a2⟩|⟨a1,a2⟩
  ·exact Nat.ne_of_gt (Nat.lt_of_lt_of_le (hfp b hb).2 (Nat.le_of_succ_le a2))
  ·exact(hfp b hb).1.2.2.2.2.1 x c (ok.sub x c a1).1
 ·rcases(hfp b hb).1.2.2.2.1 with z|z
  ·exact I.ok.noex b o e z
  ·exact absurd (Nat.lt_of_lt_of_le (Heap.lt_size e) (Nat.le_trans I.ok.bsz z)) (Nat.lt_irrefl _)
 ·rcases List.mem_cons.mp (I.stkSub b z) with e|e
  ·exact(hfp b hb).1.2.1 e
  ·exact(hfp b hb).1.2.2.1 e
 ·have e1:(T++M)[i]? = some x:=e1;have e2:(List.replicate T.length none++σ)[i]? = some (some v):=e2
  by_cases hi:i<T.length
  ·rw[List.getElem?_append_left (by simpa using hi),List.getElem?_replicate,if_pos hi] at e2
   cases e2
  ·rw[List.getElem?_append_right (by omega)] at e1
   rw[List.getElem?_append_right (by simpa using hi),List.length_replicate] at e2
   have e3:Vis (relabel scope X.env) x:=e3;have hq:∃k,scope.names.lookup x=some k∧k=.free:=by
    cases q:scope.names.lookup x with
    |none=>unfold Vis at e3;rw[By,q] at e3;simp at e3
    |some k=>
     obtain⟨v1,v2,_⟩:=ok.vis _ x e1 k q;refine⟨k,rfl,?_⟩;unfold Vis at e3;rw[By,q] at e3
     by_cases hkf:k=.free
     ·exact hkf
     ·have hb:(k == NameKind.free)=false:=by simpa using hkf
      simp only[Option.map_some,hb,Bool.false_and,Bool.false_eq_true,if_false,Option.some.injEq] at e3;rcases e3 with z|z|z
      ·exact absurd z v1
      ·exact absurd z v2
      ·exact z
   obtain⟨k,hq,rfl⟩:=hq;obtain⟨e1,k2⟩:=(ok.vis _ x e1 _ hq).2.2 rfl;obtain⟨m0,hn0,hl0⟩:=I.loc;have v0:Vis X.env.scope x:=k2.elim (fun z=>.inr (.inl z)) fun z=>.inr (.inr z);obtain⟨u,r,l⟩:=hl0 _ x v e1 e2 v0;have k1:(relabel scope X.env).names.lookup x=some .cell∨(relabel scope X.env).names.lookup x=some .free:=by
    rw[By,hq];simp only[Option.map_some]
    split
    ·exact .inl rfl
    ·exact .inr rfl
   refine⟨u,r,.inr ⟨k1,?_⟩⟩;obtain⟨c,hc⟩:=ok.has x hq;refine⟨c,(D9 ok _ hq).trans hc,?_⟩;rcases l with ⟨l,_⟩|⟨_,c',hc',hv'⟩
   ·rcases k2 with z|z
    ·rw[l] at z;cases z
    ·rw[l] at z;cases z
   ·rw[(ok.sub x c hc).1] at hc';cases hc';obtain⟨o,ho,hd⟩:=hv';exact⟨o,hk _ _ ho,hd⟩
 ·rcases lk x c e with ⟨a1,a2⟩|⟨a1,a2⟩
  ·exact hc1 x c e a1
  ·obtain⟨v,o,ho,hd⟩:=I.cell x c (ok.sub x c a1).1;exact⟨v,o,hk _ _ ho,hd⟩
 ·rcases lk x c e with ⟨a1,a2⟩|⟨a1,a2⟩
  ·exact fr (Nat.le_of_succ_le a2)
  ·exact I.freeC x c (ok.sub x c a1).1
 ·show(List.replicate T.length none++σ).length=(T++M).length;rw[List.length_append,List.length_append,List.length_replicate,I.len,ok.len]

noncomputable def Mi(P:Program)(w:World)(A:Around)(env:Env)(tg elt:Expr)(ifs:List Expr)(it acc:Value)(X:Value→Shared→Prop)(nxt:Shared→Prop)(v:Value)(t:Shared):Prop:=
 wpAny (model P w) A (letOwnedTupleGo tg it v) (fun _ a=>wpAny (model P w) A (assign tg env v) (fun _ b=>wpAny (model P w) A (Hc ifs env) (fun y c=>
  if y=true then wpAny (model P w) A (eval elt env) (fun e d=>wpAny (model P w) A (call (.builtin "list.append") [acc,e]) (fun _ f=>nxt f) X d) X c else nxt c) X b) X a) X t
theorem Ga{P:Program}{w:World}{A:Around}{R:Result→Shared→Prop}{s:Shared}{elt tg src:Expr}{ifs:List Expr}{sc:Scope}{pl:Pos}{it acc:Value}{env:Env}(V:Nat→Shared→Prop)(go:∀k t,V k t→wpAny (model P w) A (pyNext it) (fun r u=>match r with
   |none=>R (.ok .next) u
   |some v=>Mi P w A env tg elt ifs it acc (notedBy (model P w) A env fun e z=>R (.error e) z) (fun z=>∃m,m<k∧V m z) v u) (notedBy (model P w) A env fun e z=>R (.error e) z) t)(k:Nat)(h0:V k s):codeAny (model P w) A (.compLoop (.ListComp elt [⟨tg,src,ifs,0⟩] sc pl) 0 it acc env) R s:=by
 refine codeAny_loop rfl V (fun k t hv=>(show wpAny _ A ((compTurn (.ListComp elt [⟨tg,src,ifs,0⟩] sc pl) 0 it acc env).onRaise (fun x=>do noteFrame x env;theTreesLotGoes x)) _ _ t from wpAny_noted ?_)) k h0
 rw[compTurn_list];refine wpAny_bind (wpAny_standAt (wpAny_bind (wpAny_mono (go k t hv) (fun r u hr=>?_) fun _ _ z=>z)));cases r with
 |none=>exact wpAny_pure hr
 |some v=>
  refine wpAny_bind (wpAny_mono hr (fun _ a ha=>wpAny_bind (wpAny_mono ha (fun _ b hb=>wpAny_bind (wpAny_mono hb (fun y c hc=>?_) fun _ _ z=>z)) fun _ _ z=>z)) fun _ _ z=>z);cases y with
  |true=>exact wpAny_bind (wpAny_bind (wpAny_mono hc (fun e d hd=>wpAny_bind (wpAny_mono hd (fun _ f hf=>wpAny_pure (wpAny_pure ⟨rfl,hf⟩)) fun _ _ z=>z)) fun _ _ z=>z))
  |false=>refine wpAny_pure ⟨rfl,?_⟩;exact hc
theorem Hm{M:Model}{A:Around}{E:Value→Shared→Prop}{s:Shared}{scope:Scope}{env:Env}{cl:List (Str×Addr)}{Q:Env→Shared→Prop}(hk:scope.kind=.function)(h:∀h':Heap,h'.Ns s.heap.objs.size (fun _=>none)→(∀b o,s.heap.get? b=some o→h'.get? b=some o)→CellsOk h' (s.heap.objs.size+1) (cellsFrom (s.heap.objs.size+1) scope.names [])→
   Q (newEnv scope s.heap.objs.size env.globals (Ax scope cl s.heap.objs.size) env.qual none .none (some env) builtinsNs) { s with heap:=h' }) :
  wpAny M A (newFunctionEnv scope env.globals cl [] env.qual none .none (some env)) Q E s:=by
 simp only[newFunctionEnv,Option.isSome_some,if_true];refine wpAny_bind (wpAny_alloc ?_);refine wpAny_bind (wpAny_layCells _ (fun name kind cells=>by cases hkc:kind == NameKind.cell<;>simp) _ _ _ _ ?_)
 have okc:=cellsFrom_ok scope.names (s.heap.push { cls:=.type "dict",data:=.dict #[] }) (s.heap.objs.size+1) [] ⟨fun _ _ hm=>(nomatch hm),List.Pairwise.nil⟩ (by rw[Heap.size_push];exact Nat.le_refl _)
 rw[Heap.size_push] at okc;rw[show({ s with heap:=s.heap.push { cls:=.type "dict",data:=.dict #[] } }:Shared).heap.objs.size=s.heap.objs.size+1 from Heap.size_push ..];refine wpAny_bind ?_;rw[List.forIn_nil];refine wpAny_pure (wpAny_pure ?_);exact h _ ((Heap.Ns.new s.heap (.type "dict")).keeps (pushCells_keeps _ _)) (fun b o e=>pushCells_keeps _ _ b o (Heap.get?_push_of_some _ e)) okc

theorem B7:∀(names:List (Str×NameKind)) (n:Nat) (acc:List (Str×Addr)),cellsFrom n names acc=cellsFrom n names []++acc
 |[],n,acc=>rfl
 |(y,k)::r,n,acc=>by
  unfold cellsFrom
  split
  ·rw[B7 r (n+1) ((y,n)::acc),B7 r (n+1) [(y,n)]];simp
  ·exact B7 r n acc
theorem Os{scope:Scope}{cl:List (Str×Addr)}{C:Addr}{x:Str}{c:Addr}(h:(Ax scope cl C).lookup x=some c)(hn:cl.lookup x=none∨C+1≤c)(old:∀x c,cl.lookup x=some c→c<C):(x,c)∈cellsFrom (C+1) scope.names []:=by
 unfold Ax at h;rw[B7,List.lookup_append] at h;cases q:(cellsFrom (C+1) scope.names []).lookup x with
 |some c'=>
  rw[q] at h;have h:some c'=some c:=h;cases h;exact PySem.mem_of_lookup q
 |none=>
  rw[q] at h;have h:cl.lookup x=some c:=h;rcases hn with z|z
  ·rw[z] at h;cases h
  ·exact absurd (Nat.lt_of_lt_of_le (old x c h) (Nat.le_of_succ_le z)) (Nat.lt_irrefl _)
theorem Lc{X:Cx}{scope:Scope}{cl:List (Str×Addr)}{T M:List Str}{C:Addr}{h':Heap}(ok:CompOz X scope cl T M)(okc:CellsOk h' (C+1) (cellsFrom (C+1) scope.names []))(old:∀x c,cl.lookup x=some c→c<C) :
  ∀x c,(Ax scope cl C).lookup x=some c→scope.names.lookup x=some .cell→∃v,h'.IsCell c v:=fun x c h hx=>by
 rcases B3 ok C x c h with ⟨_,a2⟩|⟨_,a2⟩
 ·exact⟨_,(okc.empty x c (Os h (.inr a2) old)).1⟩
 ·rw[hx] at a2;cases a2
theorem Lb{X:Cx}{scope:Scope}{cl:List (Str×Addr)}{T M:List Str}{C:Addr}{h':Heap}(ok:CompOz X scope cl T M)(okc:CellsOk h' (C+1) (cellsFrom (C+1) scope.names []))(old:∀x c,cl.lookup x=some c→c<C) :
  ∀x y c,(Ax scope cl C).lookup x=some c→(Ax scope cl C).lookup y=some c→scope.names.lookup x=some .cell→x=y:=fun x y c h1 h2 hx=>by
 rcases B3 ok C x c h1 with ⟨_,a2⟩|⟨_,a2⟩
 ·exact name_of_addr okc.apart (Os h1 (.inr a2) old) (Os h2 (.inr a2) old)
 ·rw[hx] at a2;cases a2
noncomputable def Of(n:Nat)(wi:TI)(g:TG)(tf:TT)(te:TE):TE:=fun σ H Q=>wi σ H fun J H1=>∀p,H1 p=none→∃W:Nat→Nat→St→Hp→Prop,(∃m,W 0 m (List.replicate n none++σ) (upd H1 p (.lst [])))∧∀i m σ1 H,W i m σ1 H→
 ((J.stop i H∧Q (.ref p) H)∨(J.go i H∧∃N:St→Hp→Prop,(∀σ' H',N σ' H'→∃m',m'<m∧W (i+1) m' σ' H')∧
  ∀x H',J.yld i H x H'→g x σ1 H' fun σ2 H2=>tf σ2 H2 fun b H3=>if b=true then te σ2 H3 fun y H4=>∃ys,H4 p=some (.lst ys)∧ys.length<sizeLine∧N σ2 (upd H4 p (.lst (ys++[y]))) else N σ2 H3))
theorem V3{X:Cx}{elt iter tg:Expr}{ifs:List Expr}{scope:Scope}{cl:List (Str×Addr)}{pos:Pos}{wi:TI}{g:TG}{tf:TT}{te:TE}{T M:List Str}(hc:X.calm=true)(ok:CompOz X scope cl T M)(hi:PI X tg iter wi)(hg:∀s H fp,PG (Aj X scope cl T M s H fp) tg g)(hf:∀s H fp,PF (Aj X scope cl T M s H fp) ifs tf)(he:∀s H fp,PE (Aj X scope cl T M s H fp) elt te)(hs:∀x,foldedSetIterable iter X.env x=pure x:=by intro _;rfl):PE X (.ListComp elt [⟨tg,iter,ifs,0⟩] scope pos) (Of T.length wi g tf te):=by
 intro pins s σ H Q I h;rw[eval_ListComp];refine wpAny_comprehension_free (use:=none) (cl:=cl) rfl hs ok.clos ok.kind ok.names (thn (hi pins s σ H _ I h) fun v s1 h1=>thn h1 fun itv s2 h2=>?_);obtain⟨it,fp,tn,J,H2,e,I2,Tn,st2,f2,q⟩:=h2;subst e;have q:=q s2.heap.objs.size (I2.hok.fresh (Nat.le_refl _));refine wpAny_newObj_type ?_
 -- the new list,tracked
 have I3:Inv X pins σ (upd H2 s2.heap.objs.size (.lst [])) { s2 with heap:=s2.heap.push { cls:=.type "list",dict:=none,data:=.seq ([]:List Value).toArray } }:=
  I2.laid (t':=s2.toks) (fun b u e=>Heap.get?_push_of_some _ e) (Nat.le_refl _) ⟨Nat.zero_le _,[],0,.nil,Heap.get?_push_size _ rfl⟩
 generalize hH3:upd H2 s2.heap.objs.size (.lst [])=H3 at I3 q;generalize hs3:({ s2 with heap:=s2.heap.push { cls:=.type "list",dict:=none,data:=.seq ([]:List Value).toArray } }:Shared)=s3 at I3;have fpl:∀b∈fp,b<s2.heap.objs.size:=fun b hb=>let ⟨o,e,_⟩:=Tn.obj 0 _ st2 b hb;Heap.lt_size e;have sz3:s2.heap.objs.size≤s3.heap.objs.size:=by rw[←hs3];show _≤(s2.heap.push _).objs.size;rw[Heap.size_push];exact Nat.le_succ _
 have fok:∀b∈fp,Di X pins H3 b:=fun b hb=>⟨by rw[←hH3,Ad (Nat.ne_of_lt (fpl b hb))];exact(f2 b hb).1,(f2 b hb).2⟩
 have k23:∀b o,s2.heap.get? b=some o→s3.heap.get? b=some o:=fun b o e=>by rw[←hs3];exact Heap.get?_push_of_some _ e
 have st3:tn 0 s3.heap:=Tn.keep _ _ _ st2 fun b _ o e=>k23 b o e;refine Hm ok.kind (fun h4 hns4 k34 okc=>?_);have oldc:∀x c,cl.lookup x=some c→c<s3.heap.objs.size:=fun x c e=>by
  obtain⟨v,o,ho,_⟩:=I3.cell x c (ok.sub x c e).1;exact Heap.lt_size ho
 have hc1:=Lc (h':=h4) ok okc oldc;have hc2:=Lb (h':=h4) ok okc oldc;have I4:Inv (Aj X scope cl T M s3 H3 fp) [] (Ob T σ) H3 { s3 with heap:=h4 }:=
  Fu ok I3 (fun b hb=>⟨fok b hb,Nat.lt_of_lt_of_le (fpl b hb) sz3⟩) hns4 k34 rfl rfl hc1 hc2
 have st4:tn 0 h4:=Tn.keep _ _ _ st3 fun b _ o e=>k34 b o e;obtain⟨W,⟨m0,w0⟩,turn⟩:=q;have cfpc:∀b∈fp,∀x c,(Ax scope cl s3.heap.objs.size).lookup x=some c→c≠b:=fun b hb x c e=>by
  rcases B3 ok s3.heap.objs.size x c e with ⟨_,a2⟩|⟨a1,_⟩
  ·exact Nat.ne_of_gt (Nat.lt_of_lt_of_le (Nat.lt_of_lt_of_le (fpl b hb) sz3) (Nat.le_of_succ_le a2))
  ·exact(fok b hb).2.2.2.2.1 x c (ok.sub x c a1).1
 have cfp:∀{H':Hp},(∀b∈fp,H' b=none)→∀b∈fp,Di (Aj X scope cl T M s3 H3 fp) [] H' b:=fun hn b hb=>by
  refine⟨hn b hb,Nat.ne_of_lt (Nat.lt_of_lt_of_le (fpl b hb) sz3),fun z=>?_,.inl hb,fun x c e=>cfpc b hb x c e,fun p hp=>absurd (show p∈([]:List (Addr×Obj)) from hp) (by simp)⟩
  rcases List.mem_cons.mp (I3.stkSub b z) with e|e
  ·exact(fok b hb).2.1 e
  ·exact(fok b hb).2.2.1 e
 have fin:∀(σ':St) (H':Hp) (s':Shared),Inv (Aj X scope cl T M s3 H3 fp) [] σ' H' s'→Q (.ref s2.heap.objs.size) H'→compPost (model X.prog X.w) X.A X.xe none (EP X pins σ Q) (.ref s2.heap.objs.size) s3.heap.objs.size (.ok .next) s':=fun σ' H' s' J q=>by
  obtain⟨m',hm',_⟩:=J.loc;refine⟨m',hm',fun h' hs'=>?_⟩;have J0:Inv X pins σ H' s':=I3.call' (ch:=fp) J.os J.base J.hok J.bare fun b hb=>⟨(fok b hb).2.2.2.1,(fok b hb).2.1,(fok b hb).2.2.2.2.1,(fok b hb).2.2.2.2.2⟩;have nC:=I3.fpOk (H':=H') (Nat.le_refl s3.heap.objs.size) J.free;exact⟨.ref s2.heap.objs.size,H',J0.turned (t':=s'.toks) (fun b o hb e=>(hs'.2 b hb).trans e) nC.1 nC.2.1 nC.2.2.2.1 nC.2.2.2.2.1 nC.2.2.2.2.2,rfl,q⟩
 have loop:∀s5:Shared,s5={ s3 with heap:=h4 }→
   codeAny (model X.prog X.w) X.A (.compLoop (.ListComp elt [⟨tg,iter,ifs,0⟩] scope pos) 0 (.ref it) (.ref s2.heap.objs.size) (compEnvC scope (Ax scope cl s3.heap.objs.size) s3.heap.objs.size X.env))
    (compPost (model X.prog X.w) X.A X.xe none (EP X pins σ Q) (.ref s2.heap.objs.size) s3.heap.objs.size) s5:=by
  rintro s5 rfl;refine Ga (fun k s'=>∃i σ' H',Inv (Aj X scope cl T M s3 H3 fp) [] σ' H' s'∧tn i s'.heap∧(∀b∈fp,H' b=none)∧W i k σ' H') ?_ m0 ⟨0,Ob T σ,H3,I4,st4,fun b hb=>(fok b hb).1,w0⟩;rintro k s6 ⟨i,σ6,H6,I6,st6,fr6,w6⟩;rcases turn i k σ6 H6 w6 with ⟨stop,qn⟩|⟨go,N,hN,step⟩
  ·refine wpAny_mono (Tn.done (Aj X scope cl T M s3 H3 fp) rfl rfl rfl hc i [] s6 _ H6 (fun _ _=>False) I6 (cfp fr6) st6 stop) (fun r s7 ⟨hr,I7⟩=>?_) fun _ _ z=>z.elim;subst hr;exact fin _ H6 s7 I7 qn
  ·refine wpAny_mono (Tn.item (Aj X scope cl T M s3 H3 fp) rfl rfl rfl hc i [] s6 _ H6 (fun _ _=>False) I6 (cfp fr6) st6 go) (fun r s7 ⟨u,hr,h7⟩=>?_) fun _ _ z=>z.elim;subst hr;show Mi _ _ _ _ _ _ _ _ _ _ _ _ _;unfold Mi;refine wpAny_mono h7 (fun _ s8 h8=>?_) fun _ _ z=>z.elim;obtain⟨x7,H7,I7,r7,y7,st7,fr7⟩:=h8;have I7':=I7.pinned (cfp fr7) (Tn.obj _ _ st7);have back:∀{σ8:St} {H8:Hp} {s9:Shared},Inv (Aj X scope cl T M s3 H3 fp) ([]++Cu fp s8.heap) σ8 H8 s9→tn (i+1) s9.heap∧∀b∈fp,H8 b=none:=fun {σ8 H8 s9} I8=>by
    refine⟨Tn.keep _ _ _ st7 fun b hb o e=>(I8.pin (b,o) (List.mem_append_right _ (List.mem_append_right _ (Bk hb e)))).1,fun b hb=>?_⟩;obtain⟨o,e,d⟩:=Tn.obj _ _ st7 b hb;exact(I8.pin (b,o) (List.mem_append_right _ (List.mem_append_right _ (Bk hb e)))).2.1
   have again:∀{σ9:St} {H9:Hp} {s9:Shared},Inv (Aj X scope cl T M s3 H3 fp) ([]++Cu fp s8.heap) σ9 H9 s9→N σ9 H9→
     ∃m,m<k∧∃i σ' H',Inv (Aj X scope cl T M s3 H3 fp) [] σ' H' s9∧tn i s9.heap∧(∀b∈fp,H' b=none)∧W i m σ' H':=fun {σ9 H9 s9} I9 n9=>by
    obtain⟨m',hm,w9⟩:=hN σ9 H9 n9;obtain⟨b1,b2⟩:=back I9;exact⟨m',hm,i+1,σ9,H9,I9.unpinned,b1,b2,w9⟩
   refine wpAny_mono (hg s3 H3 fp _ s8 σ6 H7 x7 u _ I7' r7 (step x7 H7 y7)) (fun _ s9 ⟨σ9,H9,I9,q9⟩=>?_) fun _ _ z=>z.elim;refine wpAny_mono (hf s3 H3 fp _ s9 σ9 H9 _ I9 q9) (fun okb s10 ⟨H10,I10,q10⟩=>?_) fun _ _ z=>z.elim;cases okb with
   |false=>
    rw[if_neg Bool.false_ne_true] at q10 ⊢;exact again I10 q10
   |true=>
    rw[if_pos rfl] at q10 ⊢;refine wpAny_mono (he s3 H3 fp _ s10 σ9 H10 _ I10 q10) (fun y s11 ⟨yv,H11,I11,ry,ys,e11,l11,n11⟩=>?_) fun _ _ z=>z.elim;refine wpAny_mono (Fo (X:=Aj X scope cl T M s3 H3 fp) _ s11 σ9 H11 (.ref s2.heap.objs.size) [yv] (.ref s2.heap.objs.size) [y] (fun _ H12=>N σ9 H12) I11 rfl (.cons ry .nil) ⟨_,ys,yv,rfl,rfl,e11,l11,n11⟩) (fun _ s12 ⟨_,H12,I12,_,n12⟩=>?_) fun _ _ z=>z.elim;exact again I12 n12
 exact codeAny_compStart_list (loop _ rfl) (Tn.self _ 0 _ _ _ st4 (loop _ rfl))


theorem Hf{X:Cx}{scope:Scope}{T M:List Str}(h1:(scope.names.all fun y=>!(y.2 == .free)||(X.env.cells.lookup y.1).isSome)=true:=by rfl)(h3:scope.kind=.function:=by rfl)(h4:(scope.names.all fun y=>scope.names.lookup y.1 == some y.2)=true:=by rfl)(h6:M.length=X.N.length:=by rfl)(h5:((M.zip X.N).all fun z=>match scope.names.lookup z.1 with|some .local=>false|some .cell=>false|some .free=>z.1 == z.2&&(X.env.kindOf z.1 == some .cell||X.env.kindOf z.1 == some .free)|_=>true)=true:=by rfl) :
  CompOz X scope (Br X.env.cells scope.names []) T M:=by
 have hl:∀y∈scope.names,scope.names.lookup y.1=some y.2:=fun y hy=>by simpa using List.all_eq_true.mp h4 y hy
 have only:∀(names:List (Str×NameKind)) (cs:List (Str×Addr)) (x:Str) (c:Addr),(Br X.env.cells names cs).lookup x=some c→(x,NameKind.free)∈names∨cs.lookup x=some c:=by
  intro names
  induction names with
  |nil=>intro cs x c h;exact .inr h
  |cons y r ih=>
   intro cs x c h;obtain⟨n,k⟩:=y;unfold Br at h
   split at h
   ·rename_i hk
    split at h
    ·rename_i c' hc;rcases ih _ x c h with z|z
     ·exact .inl (List.mem_cons_of_mem _ z)
     ·by_cases hx:x=n
      ·subst hx
       have:k=.free:=by simpa using hk
       subst this;exact .inl (by simp)
      ·rw[List.lookup_cons,beq_false_of_ne hx] at z;exact .inr z
    ·rcases ih _ x c h with z|z
     ·exact .inl (List.mem_cons_of_mem _ z)
     ·exact .inr z
   ·rcases ih _ x c h with z|z
    ·exact .inl (List.mem_cons_of_mem _ z)
    ·exact .inr z
 refine⟨?_,h3,fun y hy z=>by rw[hl y hy,z],fun y hy z=>by rw[hl y hy,z],fun x c e=>⟨D4 _ _ (fun _ _ z=>by simp at z) x c e,?_⟩,fun x hx=>Fv _ _ x h1 (.inl (PySem.mem_of_lookup hx)),h6,fun i x hx k q=>?_⟩
 ·unfold closureFor
  have:=Zx (env:=X.env) scope.names [] h1
  simp only[bind_pure];exact this
 ·rcases only _ _ x c e with z|z
  ·exact hl _ z
  ·simp at z
 ·have hi:i<X.N.length:=by rw[←h6];exact(List.getElem?_eq_some_iff.mp hx).1
  have hz:(M.zip X.N)[i]? = some (x,X.N[i]):=by rw[List.getElem?_zip_eq_some];exact⟨hx,List.getElem?_eq_getElem hi⟩
  have this:=List.all_eq_true.mp h5 _ (List.mem_of_getElem? hz);dsimp only at this;rw[q] at this;refine⟨fun z=>?_,fun z=>?_,fun z=>?_⟩
  ·subst z;exact absurd this (by simp)
  ·subst z;exact absurd this (by simp)
  ·subst z;simp only[Bool.and_eq_true,beq_iff_eq,Bool.or_eq_true] at this;exact⟨by rw[List.getElem?_eq_getElem hi,←this.1],this.2⟩
theorem Dt{K:W.Frag}{J:It}{n:Nat}{p:Addr}{ds:List D}{same:Gp→Prop}{g:DTG}{tf:DTT}{te:DTE}{Q:DK}{QV:VK}{σD:DSt}{σ:St}{G:Gp}{H:Hp}(rs:RelS K H σD σ)(rg:RelG K H G)(hp:H p=none)(cl:∀d G',Q d G'→Fwd K H G' fun H'=>∀v,DV K H' d v→QV v H')(hJ:∀H' G',Ext H H'→RelG K H' G'→same G'→ItemsX K J H' ds)(h:Qf n p ds same g tf te σD (Ab G p (.lst [])) Q) :
  ∃W:Nat→Nat→St→Hp→Prop,(∃m,W 0 m (List.replicate n none++σ) (upd H p (.lst [])))∧∀i m σ1 H,W i m σ1 H→
   ((J.stop i H∧QV (.ref p) H)∨(J.go i H∧∃N:St→Hp→Prop,(∀σ' H',N σ' H'→∃m',m'<m∧W (i+1) m' σ' H')∧
    ∀x H',J.yld i H x H'→Em K g x σ1 H' fun σ2 H2=>D5 K tf σ2 H2 fun b H3=>if b=true then Bp K te σ2 H3 fun y H4=>∃ys,H4 p=some (.lst ys)∧ys.length<sizeLine∧N σ2 (upd H4 p (.lst (ys++[y]))) else N σ2 H3)):=by
 obtain⟨P,p0,keep,step,fin⟩:=h;refine⟨fun i m σ' H'=>m=ds.length-i∧i≤ds.length∧RelS K H' (List.replicate n none++σD) σ'∧∃yd G',RelG K H' G'∧Ext H H'∧P i yd G',
  ⟨ds.length,rfl,Nat.zero_le _,(Qu n rs).ext (Ext.fresh hp),[],_,rg.lst hp .nil,Ext.fresh hp,p0⟩,?_⟩
 rintro i m σ1 H1 ⟨rfl,hi,rs1,yd,G1,rg1,x1,p1⟩;obtain⟨sm,gp⟩:=keep i yd G1 hi p1;have I:=hJ H1 G1 x1 rg1 sm
 by_cases hlt:i<ds.length
 ·refine .inr ⟨I.go i hlt,fun σ' H'=>RelS K H' (List.replicate n none++σD) σ'∧∃yd' G',RelG K H' G'∧Ext H H'∧P (i+1) yd' G',fun σ' H' ⟨a2,yd',G',a3,a4,a5⟩=>⟨ds.length-(i+1),by omega,rfl,hlt,a2,yd',G',a3,a4,a5⟩,fun x H' y=>?_⟩
  obtain⟨xe,rge,d,ed,dv⟩:=I.yl i x H' hlt y;refine⟨d,_,G1,_,dv,rs1.ext xe,rge _ rg1,step i d yd G1 ed p1,fun σ2 G2 zz H2 x2 rg2 σ' rs2=>?_⟩;obtain⟨⟨pre,hpre,e2⟩,st2⟩:=zz;have back:∀{H5:Hp} {σ5:St},RelS K H5 σ2 σ5→RelS K H5 (List.replicate n none++σD) σ5:=fun {H5 σ5} r=>by
   refine⟨by rw[←r.1,e2,List.length_append,List.length_append,List.length_replicate,hpre],fun j d e=>?_⟩
   refine r.2 j d ?_
   by_cases hj:j<n
   ·rw[List.getElem?_append_left (by simpa using hj),List.getElem?_replicate,if_pos hj] at e
    cases e
   ·rw[List.getElem?_append_right (by simpa using hj),List.length_replicate] at e
    rw[e2,List.getElem?_append_right (by omega),hpre];exact e
  refine⟨σ2,G2,_,rs2,rg2,st2,fun b G3 h3 H3 x3 rg3=>?_⟩;have x13:=x1.trans (xe.trans (x2.trans x3));dsimp only at h3 ⊢;cases b with
  |false=>
   rw[if_neg Bool.false_ne_true] at h3 ⊢;obtain⟨G4,sb,p4⟩:=h3;exact⟨back (rs2.ext x3),yd,G4,rg3.ext' sb,x13,p4⟩
  |true=>
   rw[if_pos rfl] at h3 ⊢;refine⟨_,G3,_,rs2.ext x3,rg3,h3,fun z G4 zz H4 x4 rg4 v4 d4=>?_⟩;obtain⟨e4,l4,G5,sb,p5⟩:=zz;obtain⟨xs,ex,r⟩:=rg4 p _ e4;exact⟨xs,ex,by rw[←r.length];exact l4,back ((rs2.ext (x3.trans x4)).ext (Dy ex)),_,G5,(rg4.lstw ex (r.append (.cons d4 .nil))).ext' sb,(x13.trans x4).trans (Dy ex),p5⟩
 ·have e:i=ds.length:=by omega
  subst e;exact .inl ⟨I.st,cl _ G1 (fin yd G1 p1) H1 x1 rg1 _ (.ref p)⟩
theorem D0{K:W.Frag}{J:It}{G:Gp}{H:Hp}{ds:List D}(h:Items K J G H ds):ItemsX K J H ds:=⟨h.go,fun i x H' hi y=>by
 obtain⟨e,d,ed,dv⟩:=h.yl i x H' hi y;subst e;exact⟨Ext.refl _,fun _ r=>r,d,ed,dv⟩,h.st⟩
section
variable{X:Cx}{elt iter tg:Expr}{ifs:List Expr}{scope:Scope}{pos:Pos}{ti te:DTE}{tf:DTT}{g:DTG}{T M:List Str}
noncomputable abbrev QGz(X:Cx)(scope:Scope)(T M:List Str)(tg:Expr)(g:DTG):Prop:=∀s H fp,QG (Aj X scope (Br X.env.cells scope.names []) T M s H fp) tg g
noncomputable abbrev QFz(X:Cx)(scope:Scope)(T M:List Str)(ifs:List Expr)(t:DTT):Prop:=∀s H fp,QF (Aj X scope (Br X.env.cells scope.names []) T M s H fp) ifs t
noncomputable abbrev QEz(X:Cx)(scope:Scope)(T M:List Str)(e:Expr)(t:DTE):Prop:=∀s H fp,QE (Aj X scope (Br X.env.cells scope.names []) T M s H fp) e t
noncomputable def Ov(n:Nat)(ti:DTE)(g:DTG)(tf:DTT)(te:DTE):DTE:=fun σ G Q=>ti σ G fun d G1=>∃ds,A3 G1 d=some ds∧∀p,G1 p=none→Qf n p ds (fun G'=>A3 G' d=some ds) g tf te σ (Ab G1 p (.lst [])) Q
theorem Qo(hc:X.calm=true)(ok:CompOz X scope (Br X.env.cells scope.names []) T M)(hi:QE X iter ti)(hg:QGz X scope T M tg g)(hf:QFz X scope T M ifs tf)(he:QEz X scope T M elt te)(hs:∀x,foldedSetIterable iter X.env x=pure x:=by intro _;rfl):QE X (.ListComp elt [⟨tg,iter,ifs,0⟩] scope pos) (Ov T.length ti g tf te):=
 (V3 (g:=Em X.K g) (tf:=D5 X.K tf) (te:=Bp X.K te) hc ok (Kp hi) hg hf he hs).imp fun σ H Q zz=>by
 obtain⟨σD,G,Q',rs,rg,h,cl⟩:=zz;refine⟨σD,G,_,rs,rg,h,fun d G1 zz H1 x1 rg1 v dv=>?_⟩;obtain⟨ds,ei,L⟩:=zz;obtain⟨a,rfl⟩:=E3 ei dv;refine⟨a,rfl,?_⟩;have lp:=fun p hp=>Dt (J:=jOf X.K d a) (rs.ext x1) rg1 hp (fun d' G' q=>(cl d' G' q).go x1) (fun H' G' x' rg' s'=>D0 (Dq rg' s' (dv.ext x'))) (L p (rg1.free hp));cases dv with
 |tup e r=>exact .inr ⟨⟨_,.inl (.inl e)⟩,lp⟩
 |lint e=>exact .inl ⟨⟨_,e.sq⟩,lp⟩
 |ref=>
  simp only[A3] at ei
  split at ei
  ·rename_i ds' q;obtain⟨xs,e,r⟩:=rg1 a _ q;exact .inl ⟨⟨_,.inl (.inl e)⟩,lp⟩
  ·cases ei
noncomputable def Q1(n:Nat)(tA:DTA)(g:DTG)(tf:DTT)(te:DTE):DTE:=fun σ G Q=>tA σ G fun ds G1=>∃j,ds=[.int j]∧(-(2 ^ 62)≤j∧j<2 ^ 62)∧∀p,G1 p=none→Qf n p (Mc j.toNat) (fun _=>True) g tf te σ (Ab G1 p (.lst [])) Q
end
section
variable{X:Cx}
end
noncomputable def Oq:Expr→Bool
 |.Starred ..=>false
 |_=>true
theorem Rr{e:Expr}{es:List Expr}{env:Env}(h:Oq e=true):starEach (e::es) env=(false,eval e env)::starEach es env:=by
 cases e<;>first|rfl|exact absurd h (by simp[Oq])
theorem An{X:Cx}{e:Expr}{es:List Expr}{te:DTE}{tA:DTA}(ha:QE X e te)(hr:QA X es tA)(h:Oq e=true:=by rfl):QA X (e::es) (Ua te tA):=Qn ha hr (Rr h)
theorem ex3{p:D→D→D→Prop}{j k l:D}:(∃x y z,[j,k,l]=[x,y,z]∧p x y z)↔p j k l:=⟨fun⟨_,_,_,e,h⟩=>by cases e;exact h,fun h=>⟨j,k,l,rfl,h⟩⟩
noncomputable def Ris(xs:Array Nat):Prop:=∀i j,i<j→j<xs.size→∀d,xs.getD i d<xs.getD j d
theorem ins_get{α:Type}{xs:Array α}{p:Nat}{x:α}(hp:p≤xs.size)(i:Nat):(SetTable.insertAt xs p x)[i]? = if i<p then xs[i]? else if i=p then some x else xs[i-1]?:=by
 unfold SetTable.insertAt;have e1:((xs.extract 0 p).push x).size=p+1:=by simp;omega
 rw[Array.getElem?_append,e1]
 by_cases h1:i<p
 ·rw[if_pos (by omega),if_pos h1,Array.getElem?_push,if_neg (by simp;omega),Array.getElem?_extract,if_pos (by omega),Nat.zero_add]
 ·rw[if_neg h1]
  by_cases h2:i=p
  ·subst h2;rw[if_pos (by omega),if_pos rfl,Array.getElem?_push,if_pos (by simp;omega)]
  ·rw[if_neg (by omega),if_neg h2,Array.getElem?_extract]
   by_cases h3:i-1<xs.size
   ·rw[if_pos (by omega)];congr 1;omega
   ·rw[if_neg (by omega),Array.getElem?_eq_none (by omega)]
structure TOk(w:World)(t:SetTable):Prop where
 ris:Ris t.place
 dum:t.dummies=#[]
 led:w.params.followText "set-order" = true∨t.led=true
noncomputable def eI(e:Int×Value):Int:=match e.2 with|.int i _=>i|_=>0
structure SOk(P:Program)(w:World)(es:Array (Int×Value))(t:SetTable)(ks:List Int):Prop where
 tok:TOk w t
 fit:t.fits es.size=true
 el:∀e∈es.toList,∃i u,e=((intKind P w).hash i,Value.int i u)
 nd:(es.toList.map eI).Nodup
 mem:∀k,k∈es.toList.map eI↔k∈ks
 sz:es.size<scanBound
section
variable{P:Program}{w:World}{A:Around}{E:Value→Shared→Prop}{s:Shared}
end
section
variable{P:Program}{w:World}{A:Around}{R:Result→Shared→Prop}{E:Value→Shared→Prop}{s:Shared}
end
section
variable{P:Program}{w:World}{A:Around}{E:Value→Shared→Prop}{s:Shared}
end
structure SBase(w:World)(es:Array (Int×Value))(t:SetTable):Prop where
 tok:TOk w t
 fit:t.fits es.size=true
 sz:es.size<scanBound
theorem SOk.base{P:Program}{w:World}{es:Array (Int×Value)}{t:SetTable}{ks:List Int}(h:SOk P w es t ks):SBase w es t:=⟨h.tok,h.fit,h.sz⟩
section
variable{P:Program}{w:World}{A:Around}{E:Value→Shared→Prop}{s:Shared}
end
section
variable{X:Cx}{e:Expr}{te:DTE}{pos:Pos}
theorem Jy:∀{ns:List Int} {its:List Value},Vals (ns.map V.int) its→IntsAre its ns
 |[],_,.nil=>.nil
 |n::r,_,.cons ⟨t,rfl⟩ h=>.cons n t (Jy h)
theorem vals_ints:∀{ns:List Int} {its:List Value},IntsAre its ns→Vals (ns.map V.int) its
 |_,_,.nil=>.nil
 |_,_,.cons n t h=>.cons ⟨t,rfl⟩ (vals_ints h)
theorem Na{K:W.Frag}{H:Hp}:∀{ns:List Int} {xs:List V},DVs K H (ns.map D.int) xs→xs=ns.map V.int
 |[],_,.nil=>rfl
 |_::_,_,.cons (.int _) t=>by rw[Na t];rfl
end
section
variable{P:Program}{w:World}{A:Around}{R:Result→Shared→Prop}
end
section
variable{X:Cx}
end
section
variable{X:Cx}{a:Expr}{ta:DTE}{pos:Pos}
end
structure FnIs(K:W.Frag)(x:Str)(st:Stmt):Prop where
 ex:∃f fd,Fun K x x st f fd∧W.nsIn K mainGlobals x=some (some (.ref f))∧W.keepIn K (.ref f)=true
theorem Ag{K:W.Frag}{x:Str}{st:Stmt}{f:Addr}{od an:Option Addr}{sl:Array (Option Value)}{oc kV dc pm cd ct:Value}(a:W.nsIn K mainGlobals x=some (some (.ref f)))(l:K.lookup f=some ⟨oc,od,.func (W.fnOf x x (defArgs st) (defBody st) (defScope st) .none kV dc pm an cd ct),sl⟩)(c:W.codeIn K cd x=true)(k:W.keepIn K (.ref f)=true):FnIs K x st:=
 ⟨f,_,Kv l c k,a,k⟩
theorem Ai{P:Program}{w:World}{K:W.Frag}{h:Heap}{mg:Str→Option Value}{base:Heap}{x:Str}{st:Stmt}{k:Nat}{ps:List Str}{sp:DSp}(I:FnIs K x st)(X:K.In h)(G:h.Ns mainGlobals mg)(hb:∀f fd,Fun K x x st f fd→Binds K fd ps [])(ok:∀f fd,Fun K x x st f fd→FnOk P w K mg base CX0 k f fd ps (liftSp K sp)):Def P w K mg base CX0 k x ps sp:=by
 obtain⟨f,fd,F,a,kp⟩:=I.ex;exact⟨f,fd,ok f fd F,W.mg_of X G a,kp,hb f fd F⟩
noncomputable def Df(f:Str)(d:D):List (Str×D)→List (Str×D)
 |[]=>[(f,d)]
 |(g,e)::r=>if g=f then (g,d)::r else (g,e)::Df f d r
section
variable{X:Cx}{o e:Expr}{to te:DTE}{pos pos':Pos}{f:Str}{C:Addr}
theorem Js{K:W.Frag}{H:Hp}{f:Str}{d:D}:∀{fs:List (Str×D)} {ks:List (Str×V)},Paired (fun(p:Str×D) (q:Str×V)=>p.1=q.1∧DV K H p.2 q.2) fs ks→fs.lookup f=some d→∃v,ks.lookup f=some v∧DV K H d v
 |[],_,.nil,h=>by cases h
 |(g,x)::r,_,.cons (b:=(g',v)) hd tl,h=>by
  obtain⟨e,hv⟩:=hd;cases e;rw[List.lookup_cons] at h ⊢;cases hb:f == g with
  |true=>rw[hb] at h;cases h;exact⟨v,rfl,hv⟩
  |false=>rw[hb] at h;exact Js tl h
theorem Mo{K:W.Frag}{H:Hp}{f:Str}{d:D}{v:V}(hd:DV K H d v):∀{fs:List (Str×D)} {ks:List (Str×V)},Paired (fun(p:Str×D) (q:Str×V)=>p.1=q.1∧DV K H p.2 q.2) fs ks→Paired (fun(p:Str×D) (q:Str×V)=>p.1=q.1∧DV K H p.2 q.2) (Df f d fs) (Dh f v ks)
 |[],_,.nil=>.cons ⟨rfl,hd⟩ .nil
 |(g,x)::r,_,.cons (b:=(g',u)) h tl=>by
  obtain⟨e,hv⟩:=h;cases e;show Paired _ (if g=f then (g,d)::r else (g,x)::Df f d r) (if g=f then _ else _)
  by_cases hg:g=f
  ·rw[if_pos hg,if_pos hg];exact .cons ⟨by first|rfl|exact hg,hd⟩ tl
  ·rw[if_neg hg,if_neg hg];exact .cons ⟨rfl,hv⟩ (Mo hd tl)
theorem Mq{α β:Type}{R:α→β→Prop}{xs:List α}{ys:List β}(h:Paired R xs ys):xs.length=ys.length:=by
 induction h with
 |nil=>rfl
 |cons _ _ ih=>exact congrArg (· + 1) ih
noncomputable def nFld(C:Addr)(to:DTE)(f:Str):DTE:=fun σ G Q=>to σ G fun x G1=>∃p,x=.ref p∧∃fs,G1 p=some (.ins C fs)∧∃d,fs.lookup f=some d∧Q d G1
theorem q_fld(hc:Cls X.K C)(hn:NoAttr X.K C f)(ho:QE X o to)(hb:attributeBase o f X.env (eval o X.env)=eval o X.env:=by rfl):QE X (.Attribute o f pos) (nFld C to f):=(Adm ho hb).imp fun σ H Q zz=>by
 obtain⟨σD,G,Q',rs,rg,h,cl⟩:=zz;refine⟨σD,G,_,rs,rg,h,fun d G1 zz H1 x1 rg1 v dv=>?_⟩;obtain⟨p,ep,fs,eg,d',el,q⟩:=zz;subst ep;cases dv;obtain⟨dx,ks,eh,pr⟩:=rg1 p _ eg;obtain⟨v,ev,dv⟩:=Js pr el;exact⟨p,C,dx,ks,v,rfl,eh,hc,hn,ev,cl _ _ q _ x1 rg1 _ dv⟩
noncomputable def Aar(C:Addr)(to te:DTE)(f:Str):DTS:=fun D σ G=>te σ G fun y G1=>to σ G1 fun x G2=>∃p,x=.ref p∧∃fs,G2 p=some (.ins C fs)∧fs.length<1000∧D.nx σ (Ab G2 p (.ins C (Df f y fs)))
theorem RelG.insW{K:W.Frag}{H:Hp}{G:Gp}(r:RelG K H G){p dx:Addr}{C:Addr}{ks ks':List (Str×V)}{fs':List (Str×D)}(e:H p=some (.ins C dx ks))(pr:Paired (fun(p:Str×D) (q:Str×V)=>p.1=q.1∧DV K H p.2 q.2) fs' ks'):RelG K (upd H p (.ins C dx ks')) (Ab G p (.ins C fs')):=by
 have x:Ext H (upd H p (.ins C dx ks')):=Ext.write e (fun xs z=>by cases z) (fun ob w z=>by cases z)
 intro a o ea
 by_cases ha:a=p
 ·subst ha;rw[Aa] at ea;cases ea;exact⟨dx,ks',Ah,L2.Paired.mapP pr fun _ _ z=>⟨z.1,z.2.ext x⟩⟩
 ·rw[Ac ha] at ea;exact(r a o ea).upd x (.inr ha)
theorem Uj(hc:Cls X.K C)(hn:NoAttr X.K C f)(ho:QE X o to)(he:QE X e te)(hs:swapsWith e (some (.Attribute o f pos')) pos.line X.env=pure false:=by rfl):QS X (.Assign [.Attribute o f pos'] e pos) (Aar C to te f):=(Ac5 ho he hs).imp fun E σ H zz=>by
 obtain⟨σD,G,D,rs,rg,h,cl⟩:=zz;refine⟨σD,G,_,rs,rg,h,fun y G1 h1 H1 x1 rg1 yv dy=>?_⟩;refine⟨σD,G1,_,rs.ext x1,rg1,h1,fun x G2 zz H2 x2 rg2 v dv=>?_⟩;obtain⟨p,ep,fs,eg,hl,q⟩:=zz;subst ep;cases dv;obtain⟨dx,ks,eh,pr⟩:=rg2 p _ eg;have pr2:=Mo (f:=f) (dy.ext x2) pr;have x3:Ext H2 (upd H2 p (.ins C dx (Dh f yv ks))):=Ext.write eh (fun xs z=>by cases z) (fun ob w z=>by cases z)
 exact⟨p,C,dx,ks,rfl,eh,hc,hn,by rw[←Mq pr];exact hl,cl.nx _ _ q _ (x1.trans (x2.trans x3)) (rg2.insW eh pr2) _ (rs.ext (x1.trans (x2.trans x3)))⟩
noncomputable def Aax(C:Addr)(sp:DSp)(t:DTA):DTE:=fun σ G Q=>t σ G fun ds G1=>∀p,G1 p=none→sp (.ref p::ds) (Ab G1 p (.ins C [])) (fun d G2=>d=.non∧Q (.ref p) G2) noX
theorem RelG.insN{K:W.Frag}{H:Hp}{G:Gp}(r:RelG K H G){p dx:Addr}{C:Addr}(hp:H p=none)(hd:H dx=none)(hne:dx≠p):RelG K (upd (upd H dx (.own p)) p (.ins C dx [])) (Ab G p (.ins C [])):=by
 have h1:(upd H dx (.own p)) p=none:=by rw[Ad hne.symm];exact hp
 have r1:RelG K (upd H dx (.own p)) G:=r.tup hd;intro a o ea
 by_cases ha:a=p
 ·subst ha;rw[Aa] at ea;cases ea;exact⟨dx,[],Ah,.nil⟩
 ·rw[Ac ha] at ea;exact(r1 a o ea).upd (Ext.fresh h1) (.inl h1)
theorem Acu{k:Nat}{fi:Addr}{fd:FuncData}{x:Str}{ps:List Str}{sp:DSp}{es:List Expr}{p:Pos}{tA:DTA}(M:Mk X.K C fi)(F:FnOk X.prog X.w X.K X.mg X.base CX0 k fi fd ps (liftSp X.K sp))(hr:Room (k+1) X.A)(hm:X.mg x=some (.ref C))(hb:Binds X.K fd ps [])(ha:QA X (e::es) tA)(hg:Gl X x:=by rfl)(hdb:(x == ("__debug__" : Str))=false:=by decide)(he:starEach (e::es) X.env=(false,eval e X.env)::starEach es X.env:=by rfl)(hpl:(backTo pos (starEach es X.env)).any (·.1)=false:=by rfl) :
  QE X (.Call (.Name x p) (e::es) [] pos) (Aax C sp tA):=by
 refine(Yu (ds:=[]) (dvs:=[]) (E:=fun _ _ _=>False) M F hr hg hm hb .nil (fun _ _ _ _ _ _ _ z=>z.elim) ha hdb he hpl).imp fun σ H Q zz=>?_;obtain⟨σD,G,Q',rs,rg,h,cl⟩:=zz;refine⟨σD,G,_,rs,rg,h,fun ds G1 h1 H1 x1 rg1 vs dv=>fun a dx ha hdx hne=>?_⟩;rw[List.append_nil];have h1':(upd H1 dx (.own a)) a=none:=by rw[Ad hne.symm];exact ha
 have x2:Ext H1 (upd (upd H1 dx (.own a)) a (.ins C dx [])):=(Ext.fresh hdx).trans (Ext.fresh h1');refine⟨.ref a::ds,_,_,noX,.cons (.ref a) (dv.ext x2),rg1.insN ha hdx hne,h1 a (rg1.free ha),fun d G' ⟨ed,q⟩ H2 x3 rg2 v dv2=>?_,fun c G' z=>z.elim⟩;subst ed;cases dv2;exact⟨rfl,cl _ _ q _ (x1.trans (x2.trans x3)) rg2 _ (.ref a)⟩
end
section
variable{X:Cx}{pins:List (Addr×Obj)}{σ:St}{H:Hp}{s:Shared}{A:Around}{E:Value→Shared→Prop}
theorem Tc{a:Addr}{kvs:List (Key×V)}{k:Key}{v:V}{u r:Value}{Q:Unit→Shared→Prop}(I:Inv X pins σ H s)(e:H a=some (.dK kvs))(l:kvs.length<sizeLine)(ry:RelV (kV k) u)(rv:RelV v r)(h:∀s',Inv X pins σ (upd H a (.dK (Bz kvs k v))) s'→Q () s'):wpAny (model X.prog X.w) A (dictSet a u r) Q E s:=by
 obtain⟨z,hd,vs,rel,dd⟩:=D6 I.hok e;have hz:vs.length≤sizeLine:=by rw[←rel.length];exact z
 have hl:(Bz kvs k v).length≤sizeLine:=by have:=Bw kvs k v;omega
 unfold dictSet;refine wpAny_holding (wpAny_bind ((Al X.prog X.w).pyHash (Cy ry) ?_));refine wpAny_dictSetHashed_pairs (hsz:=hz) (Cy ry) dd fun h' dd' hs=>h _ ?_;have he:∃q,h'.get? a=some q:=let ⟨q,_,_,hq,_⟩:=dd';⟨q,hq⟩;exact Da (I.tok _) (by rw[e];exact True.intro) hs he (Hd hl hd (rel.put k rv) dd')
end
noncomputable def Uf(P:Program)(w:World)(A:Around)(env:Env)(tg kx vx:Expr)(ifs:List Expr)(it:Value)(acc:Addr)(X:Value→Shared→Prop)(nxt:Shared→Prop)(v:Value)(t:Shared):Prop:=
 wpAny (model P w) A (letOwnedTupleGo tg it v) (fun _ a=>wpAny (model P w) A (assign tg env v) (fun _ b=>wpAny (model P w) A (Hc ifs env) (fun y c=>
  if y=true then wpAny (model P w) A (eval kx env) (fun e d=>wpAny (model P w) A (eval vx env) (fun e2 d2=>wpAny (model P w) A (dictSet acc e e2) (fun _ f=>nxt f) X d2) X d) X c else nxt c) X b) X a) X t
theorem Nt{P:Program}{w:World}{A:Around}{R:Result→Shared→Prop}{s:Shared}{kx vx tg src:Expr}{ifs:List Expr}{sc:Scope}{pl:Pos}{it:Value}{acc:Addr}{env:Env}(V:Nat→Shared→Prop)(go:∀k t,V k t→wpAny (model P w) A (pyNext it) (fun r u=>match r with
   |none=>R (.ok .next) u
   |some v=>Uf P w A env tg kx vx ifs it acc (notedBy (model P w) A env fun e z=>R (.error e) z) (fun z=>∃m,m<k∧V m z) v u) (notedBy (model P w) A env fun e z=>R (.error e) z) t)(k:Nat)(h0:V k s):codeAny (model P w) A (.compLoop (.DictComp kx vx [⟨tg,src,ifs,0⟩] sc pl) 0 it (.ref acc) env) R s:=by
 refine codeAny_loop rfl V (fun k t hv=>(show wpAny _ A ((compTurn (.DictComp kx vx [⟨tg,src,ifs,0⟩] sc pl) 0 it (.ref acc) env).onRaise (fun x=>do noteFrame x env;theTreesLotGoes x)) _ _ t from wpAny_noted ?_)) k h0
 rw[compTurn_dict];refine wpAny_bind (wpAny_standAt (wpAny_bind (wpAny_mono (go k t hv) (fun r u hr=>?_) fun _ _ z=>z)));cases r with
 |none=>exact wpAny_pure hr
 |some v=>
  refine wpAny_bind (wpAny_mono hr (fun _ a ha=>wpAny_bind (wpAny_mono ha (fun _ b hb=>wpAny_bind (wpAny_mono hb (fun y c hc=>?_) fun _ _ z=>z)) fun _ _ z=>z)) fun _ _ z=>z);cases y with
  |true=>exact wpAny_bind (wpAny_bind (wpAny_mono hc (fun e d hd=>wpAny_bind (wpAny_holding (wpAny_mono hd (fun e2 d2 hd2=>wpAny_bind (wpAny_standAt (wpAny_holding (wpAny_mono hd2 (fun _ f hf=>wpAny_pure ⟨rfl,hf⟩) fun _ _ z=>z)))) fun _ _ z=>z))) fun _ _ z=>z))
  |false=>refine wpAny_pure ⟨rfl,?_⟩;exact hc
noncomputable def Qh(n:Nat)(wi:TI)(g:TG)(tf:TT)(tk tv:TE):TE:=fun σ H Q=>wi σ H fun J H1=>∀p,H1 p=none→∃W:Nat→Nat→St→Hp→Prop,(∃m,W 0 m (List.replicate n none++σ) (upd H1 p (.dK [])))∧∀i m σ1 H,W i m σ1 H→
 ((J.stop i H∧Q (.ref p) H)∨(J.go i H∧∃N:St→Hp→Prop,(∀σ' H',N σ' H'→∃m',m'<m∧W (i+1) m' σ' H')∧
  ∀x H',J.yld i H x H'→g x σ1 H' fun σ2 H2=>tf σ2 H2 fun b H3=>if b=true then tk σ2 H3 fun y H4=>tv σ2 H4 fun z H5=>∃kvs k,y=kV k∧H5 p=some (.dK kvs)∧kvs.length<sizeLine∧N σ2 (upd H5 p (.dK (Bz kvs k z))) else N σ2 H3))
section
variable{κ:Type}[DecidableEq κ]
noncomputable def A1(kvs:List (κ×D))(k:κ):Option D:=(kvs.find? fun kv=>decide (kv.1=k)).map (·.2)
noncomputable def Cg(kvs:List (κ×D))(k:κ)(d:D):List (κ×D):=if (kvs.any fun kv=>decide (kv.1=k))=true then kvs.map (fun kv=>if kv.1=k then (kv.1,d) else kv) else kvs++[(k,d)]
noncomputable abbrev Ent(κ:Type)(K:W.Frag)(H:Hp):κ×D→κ×V→Prop:=fun p q=>p.1=q.1∧DV K H p.2 q.2
variable{K:W.Frag}{H:Hp}
theorem Ci{k:κ}:∀{kvs:List (κ×D)} {ks:List (κ×V)},Paired (Ent κ K H) kvs ks→(A1 kvs k=none∧A8 ks k=none)∨∃d v,A1 kvs k=some d∧A8 ks k=some v∧DV K H d v
 |_,_,.nil=>.inl ⟨rfl,rfl⟩
 |(a,x)::r,_,.cons (b:=(b,y)) h t=>by
  obtain⟨e,hv⟩:=h;cases(show a=b from e)
  by_cases ha:a=k
  ·exact .inr ⟨x,y,by simp[A1,ha],by simp[A8,ha],hv⟩
  ·have e1:A1 ((a,x)::r) k=A1 r k:=by simp[A1,List.find?_cons,ha]
   have e2:∀z,A8 ((a,y)::z) k=A8 z k:=fun z=>by simp[A8,List.find?_cons,ha]
   rw[e1,e2];exact Ci t
theorem Rc{k:κ}:∀{kvs:List (κ×D)} {ks:List (κ×V)},Paired (Ent κ K H) kvs ks→(kvs.any fun kv=>decide (kv.1=k))=(ks.any fun kv=>decide (kv.1=k))
 |_,_,.nil=>rfl
 |(a,x)::r,_,.cons (b:=(b,y)) h t=>by
  cases(show a=b from h.1);rw[List.any_cons,List.any_cons,Rc t]
theorem Rb{k:κ}{d:D}{v:V}(hd:DV K H d v):∀{kvs:List (κ×D)} {ks:List (κ×V)},Paired (Ent κ K H) kvs ks→Paired (Ent κ K H) (kvs.map (fun kv=>if kv.1=k then (kv.1,d) else kv)) (ks.map (fun kv=>if kv.1=k then (kv.1,v) else kv))
 |_,_,.nil=>.nil
 |(a,x)::r,_,.cons (b:=(b,y)) h t=>by
  obtain⟨e,hv⟩:=h;cases(show a=b from e);rw[List.map_cons,List.map_cons];refine .cons ?_ (Rb hd t);show Ent κ K H (if a=k then (a,d) else (a,x)) (if a=k then (a,v) else (a,y))
  by_cases ha:a=k
  ·rw[if_pos ha,if_pos ha];exact⟨rfl,hd⟩
  ·rw[if_neg ha,if_neg ha];exact⟨rfl,hv⟩
theorem M6{p:κ×D}{q:κ×V}(h:Ent κ K H p q):∀{kvs:List (κ×D)} {ks:List (κ×V)},Paired (Ent κ K H) kvs ks→Paired (Ent κ K H) (kvs++[p]) (ks++[q])
 |_,_,.nil=>.cons h .nil
 |_::_,_,.cons h' t=>.cons h' (M6 h t)
theorem Er{k:κ}{d:D}{v:V}(hd:DV K H d v){kvs:List (κ×D)}{ks:List (κ×V)}(r:Paired (Ent κ K H) kvs ks):Paired (Ent κ K H) (Cg kvs k d) (Bz ks k v):=by
 unfold Cg Bz;rw[Rc r]
 split
 ·exact Rb hd r
 ·exact M6 ⟨rfl,hd⟩ r
theorem Es{kvs:List (κ×D)}{ks:List (κ×V)}(r:Paired (Ent κ K H) kvs ks):kvs.length=ks.length:=Mq r
end
theorem RelG.dkN{K:W.Frag}{H:Hp}{G:Gp}(r:RelG K H G){p:Addr}(hp:H p=none):RelG K (upd H p (.dK [])) (Ab G p (.dkk [])):=by
 intro a o ea
 by_cases ha:a=p
 ·subst ha;rw[Aa] at ea;cases ea;exact⟨[],Ah,.nil⟩
 ·rw[Ac ha] at ea;exact(r a o ea).upd (Ext.fresh hp) (.inl hp)
theorem Cw{H:Hp}{p:Addr}{ks:List (Key×V)}{u:HO}(e:H p=some (.dK ks)):Ext H (upd H p u):=Ext.write e (fun xs z=>by cases z) (fun ob w z=>by cases z)
theorem RelG.dkW{K:W.Frag}{H:Hp}{G:Gp}(r:RelG K H G){p:Addr}{ks ks':List (Key×V)}{kvs':List (Key×D)}(e:H p=some (.dK ks))(pr:Paired (Ent Key K H) kvs' ks'):RelG K (upd H p (.dK ks')) (Ab G p (.dkk kvs')):=by
 have x:Ext H (upd H p (.dK ks')):=Cw e;intro a o ea
 by_cases ha:a=p
 ·subst ha;rw[Aa] at ea;cases ea;exact⟨ks',Ah,L2.Paired.mapP pr fun _ _ z=>⟨z.1,z.2.ext x⟩⟩
 ·rw[Ac ha] at ea;exact(r a o ea).upd x (.inr ha)
noncomputable def Fb:D→Option Key
 |.int i=>some (.inl i)
 |.str x=>some (.inr x)
 |_=>none
theorem Bx{K:W.Frag}{H:Hp}{d:D}{v:V}{k:Key}(e:Fb d=some k)(dv:DV K H d v):v=kV k:=by
 cases d<;>simp only[Fb,Option.some.injEq,reduceCtorEq] at e
 ·subst e;cases dv;rfl
 ·subst e;cases dv;rfl

noncomputable def Abm(n:Nat)(p:Addr)(ds:List D)(same:Gp→Prop)(g:DTG)(tf:DTT)(tk tv:DTE)(σ:DSt)(G:Gp)(Q:DK):Prop:=∃P:Nat→List (Key×D)→Gp→Prop,P 0 [] G∧(∀i kvs G,i≤ds.length→P i kvs G→same G∧G p=some (.dkk kvs))∧
 (∀i x kvs G,ds[i]? = some x→P i kvs G→g x (List.replicate n none++σ) G fun σ2 G2=>Abk n σ σ2∧tf σ2 G2 fun b G3=>if b=true then tk σ2 G3 fun y G4=>tv σ2 G4 fun z G5=>∃k,Fb y=some k∧G5 p=some (.dkk kvs)∧kvs.length<sizeLine∧Fg (P (i+1) (Cg kvs k z)) (Ab G5 p (.dkk (Cg kvs k z))) else Fg (P (i+1) kvs) G3)∧
 ∀kvs G,P ds.length kvs G→Q (.ref p) G
theorem Pm{K:W.Frag}{J:It}{n:Nat}{p:Addr}{ds:List D}{same:Gp→Prop}{g:DTG}{tf:DTT}{tk tv:DTE}{Q:DK}{QV:VK}{σD:DSt}{σ:St}{G:Gp}{H:Hp}(rs:RelS K H σD σ)(rg:RelG K H G)(hp:H p=none)(cl:∀d G',Q d G'→Fwd K H G' fun H'=>∀v,DV K H' d v→QV v H')(hJ:∀H' G',Ext H H'→RelG K H' G'→same G'→ItemsX K J H' ds)(h:Abm n p ds same g tf tk tv σD (Ab G p (.dkk [])) Q) :
  ∃W:Nat→Nat→St→Hp→Prop,(∃m,W 0 m (List.replicate n none++σ) (upd H p (.dK [])))∧∀i m σ1 H,W i m σ1 H→
   ((J.stop i H∧QV (.ref p) H)∨(J.go i H∧∃N:St→Hp→Prop,(∀σ' H',N σ' H'→∃m',m'<m∧W (i+1) m' σ' H')∧
    ∀x H',J.yld i H x H'→Em K g x σ1 H' fun σ2 H2=>D5 K tf σ2 H2 fun b H3=>if b=true then Bp K tk σ2 H3 fun y H4=>Bp K tv σ2 H4 fun z H5=>∃kvs k,y=kV k∧H5 p=some (.dK kvs)∧kvs.length<sizeLine∧N σ2 (upd H5 p (.dK (Bz kvs k z))) else N σ2 H3)):=by
 obtain⟨P,p0,keep,step,fin⟩:=h;refine⟨fun i m σ' H'=>m=ds.length-i∧i≤ds.length∧RelS K H' (List.replicate n none++σD) σ'∧∃yd G',RelG K H' G'∧Ext H H'∧P i yd G',
  ⟨ds.length,rfl,Nat.zero_le _,(Qu n rs).ext (Ext.fresh hp),[],_,rg.dkN hp,Ext.fresh hp,p0⟩,?_⟩
 rintro i m σ1 H1 ⟨rfl,hi,rs1,yd,G1,rg1,x1,p1⟩;obtain⟨sm,gp⟩:=keep i yd G1 hi p1;have I:=hJ H1 G1 x1 rg1 sm
 by_cases hlt:i<ds.length
 ·refine .inr ⟨I.go i hlt,fun σ' H'=>RelS K H' (List.replicate n none++σD) σ'∧∃yd' G',RelG K H' G'∧Ext H H'∧P (i+1) yd' G',fun σ' H' ⟨a2,yd',G',a3,a4,a5⟩=>⟨ds.length-(i+1),by omega,rfl,hlt,a2,yd',G',a3,a4,a5⟩,fun x H' y=>?_⟩
  obtain⟨xe,rge,d,ed,dv⟩:=I.yl i x H' hlt y;refine⟨d,_,G1,_,dv,rs1.ext xe,rge _ rg1,step i d yd G1 ed p1,fun σ2 G2 zz H2 x2 rg2 σ' rs2=>?_⟩;obtain⟨⟨pre,hpre,e2⟩,st2⟩:=zz;have back:∀{H5:Hp} {σ5:St},RelS K H5 σ2 σ5→RelS K H5 (List.replicate n none++σD) σ5:=fun {H5 σ5} r=>by
   refine⟨by rw[←r.1,e2,List.length_append,List.length_append,List.length_replicate,hpre],fun j d e=>?_⟩
   refine r.2 j d ?_
   by_cases hj:j<n
   ·rw[List.getElem?_append_left (by simpa using hj),List.getElem?_replicate,if_pos hj] at e
    cases e
   ·rw[List.getElem?_append_right (by simpa using hj),List.length_replicate] at e
    rw[e2,List.getElem?_append_right (by omega),hpre];exact e
  refine⟨σ2,G2,_,rs2,rg2,st2,fun b G3 h3 H3 x3 rg3=>?_⟩;have x13:=x1.trans (xe.trans (x2.trans x3));dsimp only at h3 ⊢;cases b with
  |false=>
   rw[if_neg Bool.false_ne_true] at h3 ⊢;obtain⟨G4,sb,p4⟩:=h3;exact⟨back (rs2.ext x3),yd,G4,rg3.ext' sb,x13,p4⟩
  |true=>
   rw[if_pos rfl] at h3 ⊢;refine⟨_,G3,_,rs2.ext x3,rg3,h3,fun y4 G4 h4 H4 x4 rg4 v4 d4=>?_⟩;refine⟨_,G4,_,rs2.ext (x3.trans x4),rg4,h4,fun z G5 zz H5 x5 rg5 v5 d5=>?_⟩;obtain⟨k,ek,e5,l5,G6,sb,p6⟩:=zz;obtain⟨xs,ex,r⟩:=rg5 p _ e5;exact⟨xs,k,Bx ek d4,ex,by rw[←Es r];exact l5,back ((rs2.ext (x3.trans (x4.trans x5))).ext (Cw ex)),_,G6,(rg5.dkW ex (Er d5 r)).ext' sb,(x13.trans (x4.trans x5)).trans (Cw ex),p6⟩
 ·have e:i=ds.length:=by omega
  subst e;exact .inl ⟨I.st,cl _ G1 (fin yd G1 p1) H1 x1 rg1 _ (.ref p)⟩
section
variable{X:Cx}{kx vx iter tg:Expr}{ifs:List Expr}{scope:Scope}{pos:Pos}{ti tk tv:DTE}{tf:DTT}{g:DTG}{T M:List Str}
noncomputable def Uw(n:Nat)(ti:DTE)(g:DTG)(tf:DTT)(tk tv:DTE):DTE:=fun σ G Q=>ti σ G fun d G1=>∃ds,A3 G1 d=some ds∧∀p,G1 p=none→Abm n p ds (fun G'=>A3 G' d=some ds) g tf tk tv σ (Ab G1 p (.dkk [])) Q
end
noncomputable def Abl(P:Program)(w:World)(K:W.Frag)(a:Addr)(kvs:List (Key×V)):Prop:=(a == sysModules)=false∧∃o vs,K.lookup a=some o∧KV kvs vs∧o.IsDictOf (Al P w) vs
noncomputable def DRd(P:Program)(w:World)(h:Heap)(a:Addr)(kvs:List (Key×V)):Prop:=(a == sysModules)=false∧∃vs,KV kvs vs∧h.DictOf (Al P w) a vs
noncomputable def RdK(P:Program)(w:World)(K:W.Frag)(H:Hp)(a:Addr)(kvs:List (Key×V)):Prop:=H a=some (.dK kvs)∨Abl P w K a kvs
section
variable{X:Cx}{pins:List (Addr×Obj)}{σ:St}{H:Hp}{s:Shared}{a:Addr}{k:Key}{v:V}{kvs:List (Key×V)}{u:Value}{A:Around}{E:Value→Shared→Prop}
theorem RdK.rd(h:RdK X.prog X.w X.K H a kvs)(I:Inv X pins σ H s):DRd X.prog X.w s.heap a kvs:=by
 rcases h with h|⟨h1,o,vs,h2,h3,h4⟩
 ·obtain⟨_,hd,vs,rel,dd⟩:=D6 I.hok h;exact⟨hd,vs,rel,dd⟩
 ·exact⟨h1,vs,h3,Heap.dictOf_iff.mpr ⟨o,I.kIn _ _ h2,h4⟩⟩
theorem Aea{Q:Value→Shared→Prop}(g:DRd X.prog X.w s.heap a kvs)(I:Inv X pins σ H s)(l:A8 kvs k=some v)(ry:RelV (kV k) u)(h:∀w' s',Inv X pins σ H s'→RelV v w'→Q w' s'):wpAny (model X.prog X.w) A (getItem (.ref a) u) Q E s:=by
 obtain⟨hd,vs,rel,dd⟩:=g;obtain⟨w',hw,rw'⟩:=RelO.some_of (v:=v) (o:=valueAt vs k) (by rw[←l];exact rel.val k)
 exact wpAny_getItem_of (Cy ry) dd.mapOf hw (h w' _ (I.tok _) rw')
theorem kd_in{Q:Value→Shared→Prop}(g:DRd X.prog X.w s.heap a kvs)(I:Inv X pins σ H s)(ry:RelV (kV k) u)(h:∀s',Inv X pins σ H s'→Q (.bool (A8 kvs k).isSome) s'):wpAny (model X.prog X.w) A (compareOp .In u (.ref a)) Q E s:=by
 obtain⟨hd,vs,rel,dd⟩:=g;refine wpAny_in_of (Cy ry) hd dd.mapOf ?_;rw[←(rel.val k).isSome_eq];exact h _ (I.tok _)
theorem Wr{Q:Value→Shared→Prop}(g:DRd X.prog X.w s.heap a kvs)(I:Inv X pins σ H s)(ry:RelV (kV k) u)(h:∀s',Inv X pins σ H s'→Q (.bool (!(A8 kvs k).isSome)) s'):wpAny (model X.prog X.w) A (compareOp .NotIn u (.ref a)) Q E s:=by
 obtain⟨hd,vs,rel,dd⟩:=g;refine wpAny_notIn_of (Cy ry) hd dd.mapOf ?_;rw[←(rel.val k).isSome_eq];exact h _ (I.tok _)
end
section
variable{X:Cx}
noncomputable def tKGet(P:Program)(w:World)(K:W.Frag)(td ty:TE):TE:=fun σ H Q=>td σ H fun x H1=>ty σ H1 fun y H2=>∃a kvs k v,x=.ref a∧RdK P w K H2 a kvs∧y=kV k∧A8 kvs k=some v∧Q v H2
theorem Qr{o i:Expr}{td ty:TE}{pos:Pos}(ho:PE X o td)(hi:PE X i ty)(hs:Xn i):PE X (.Subscript o i pos) (tKGet X.prog X.w X.K td ty):=by
 intro pins s σ H Q I h;refine Xy PySem.F.slot_dict_getitem.lookup hs (thn (ho pins s σ H _ I h) fun u s1 ⟨x,H1,I1,rx,q1⟩=>thn (hi pins s1 σ H1 _ I1 q1) fun iv s2 ⟨y,H2,I2,ry,a,kvs,k,v,ex,g,ek,ev,q2⟩=>?_);subst ex ek;obtain rfl:u=Value.ref a:=rx;have g:=g.rd I2;exact⟨let ⟨_,_,_,dd⟩:=g;dd.typeIs,Aea g I2 ev ry fun w' s3 I3 rw'=>⟨v,H2,I3,rw',q2⟩⟩
theorem Adr:OpR X (compareOp .In) (fun x y H Q=>∃a kvs k,y=.ref a∧RdK X.prog X.w X.K H a kvs∧x=kV k∧Q (.bl (A8 kvs k).isSome) H):=by
 intro pins s σ H x y v u Q I rx ry h;obtain⟨a,kvs,k,rfl,g,rfl,q⟩:=h;obtain rfl:u=Value.ref a:=ry;exact kd_in (g.rd I) I rx fun s' I'=>⟨.bl _,H,I',rfl,q⟩
theorem Jo:OpR X (compareOp .NotIn) (fun x y H Q=>∃a kvs k,y=.ref a∧RdK X.prog X.w X.K H a kvs∧x=kV k∧Q (.bl (!(A8 kvs k).isSome)) H):=by
 intro pins s σ H x y v u Q I rx ry h;obtain⟨a,kvs,k,rfl,g,rfl,q⟩:=h;obtain rfl:u=Value.ref a:=ry;exact Wr (g.rd I) I rx fun s' I'=>⟨.bl _,H,I',rfl,q⟩
end
noncomputable def KD(P:Program)(w:World)(K:W.Frag)(a:Addr)(kvs:List (Key×D)):Prop:=∃ks,Abl P w K a ks∧∀H,Paired (Ent Key K H) kvs ks
section
variable{X:Cx}{e i o:Expr}{te ti td:DTE}{pos pos':Pos}{a:Addr}{kvs:List (Key×D)}
noncomputable def dKIn(neg:Bool):DR2:=fun x y G Q=>∃p,y=.ref p∧∃kvs,G p=some (.dkk kvs)∧∃k,Fb x=some k∧Q (.bl (if neg=true then !(A1 kvs k).isSome else (A1 kvs k).isSome)) G
noncomputable def dMIn(a:Addr)(kvs:List (Key×D))(neg:Bool):DR2:=fun x y G Q=>y=.ref a∧∃k,Fb x=some k∧Q (.bl (if neg=true then !(A1 kvs k).isSome else (A1 kvs k).isSome)) G
theorem isSome_eq{κ:Type}[DecidableEq κ]{K:W.Frag}{H:Hp}{k:κ}{kvs:List (κ×D)}{ks:List (κ×V)}(r:Paired (Ent κ K H) kvs ks):(A8 ks k).isSome=(A1 kvs k).isSome:=by
 rcases Ci (k:=k) r with ⟨e1,e2⟩|⟨d,v,e1,e2,_⟩
 ·rw[e1,e2];rfl
 ·rw[e1,e2];rfl
theorem o_kin:QOp X (compareOp .In) (dKIn false):=L2.OpR.imp Adr fun x y H Q zz=>by
 obtain⟨dx,dy,G,Q',hx,hy,rg,⟨p,ep,kvs,eg,k,ek,q⟩,cl⟩:=zz;subst ep;cases hy;obtain⟨ks,eh,r⟩:=rg p _ eg;exact⟨p,ks,k,rfl,.inl eh,Bx ek hx,by rw[isSome_eq r];exact cl _ _ q H (Ext.refl H) rg _ (.bl _)⟩
theorem o_knotin:QOp X (compareOp .NotIn) (dKIn true):=L2.OpR.imp Jo fun x y H Q zz=>by
 obtain⟨dx,dy,G,Q',hx,hy,rg,⟨p,ep,kvs,eg,k,ek,q⟩,cl⟩:=zz;subst ep;cases hy;obtain⟨ks,eh,r⟩:=rg p _ eg;exact⟨p,ks,k,rfl,.inl eh,Bx ek hx,by rw[isSome_eq r];exact cl _ _ q H (Ext.refl H) rg _ (.bl _)⟩
theorem o_mnotin(m:KD X.prog X.w X.K a kvs):QOp X (compareOp .NotIn) (dMIn a kvs true):=L2.OpR.imp Jo fun x y H Q zz=>by
 obtain⟨dx,dy,G,Q',hx,hy,rg,⟨ep,k,ek,q⟩,cl⟩:=zz;subst ep;cases hy;obtain⟨ks,kd,r⟩:=m;exact⟨a,ks,k,rfl,.inr kd,Bx ek hx,by rw[isSome_eq (r H)];exact cl _ _ q H (Ext.refl H) rg _ (.bl _)⟩
noncomputable def Aaz(td ty:DTE):DTE:=fun σ G Q=>td σ G fun x G1=>ty σ G1 fun y G2=>∃p,x=.ref p∧∃kvs,G2 p=some (.dkk kvs)∧∃k,Fb y=some k∧∃d,A1 kvs k=some d∧Q d G2
noncomputable def Aay(a:Addr)(kvs:List (Key×D))(td ty:DTE):DTE:=fun σ G Q=>td σ G fun x G1=>ty σ G1 fun y G2=>x=.ref a∧∃k,Fb y=some k∧∃d,A1 kvs k=some d∧Q d G2
theorem Acv(ho:QE X o td)(hi:QE X i ti)(hs:Xn i:=by intro _ _;rfl):QE X (.Subscript o i pos) (Aaz td ti):=(Qr ho hi hs).imp fun σ H Q zz=>by
 obtain⟨σD,G,Q',rs,rg,h,cl⟩:=zz;refine⟨σD,G,_,rs,rg,h,fun x G1 h1 H1 x1 rg1 v dv=>?_⟩;refine⟨σD,G1,_,rs.ext x1,rg1,h1,fun y G2 zz H2 x2 rg2 v2 dv2=>?_⟩;obtain⟨p,ep,kvs,eg,k,ek,d,ed,q⟩:=zz;subst ep;cases dv;obtain⟨ks,eh,r⟩:=rg2 p _ eg;rcases Ci (k:=k) r with ⟨e1,e2⟩|⟨d',w,e1,e2,dw⟩
 ·rw[ed] at e1;cases e1
 ·rw[ed] at e1;cases e1;exact⟨p,ks,k,w,rfl,.inl eh,Bx ek dv2,e2,cl _ _ q H2 (x1.trans x2) rg2 _ dw⟩
theorem Acs(m:KD X.prog X.w X.K a kvs)(ho:QE X o td)(hi:QE X i ti)(hs:Xn i:=by intro _ _;rfl):QE X (.Subscript o i pos) (Aay a kvs td ti):=(Qr ho hi hs).imp fun σ H Q zz=>by
 obtain⟨σD,G,Q',rs,rg,h,cl⟩:=zz;refine⟨σD,G,_,rs,rg,h,fun x G1 h1 H1 x1 rg1 v dv=>?_⟩;refine⟨σD,G1,_,rs.ext x1,rg1,h1,fun y G2 zz H2 x2 rg2 v2 dv2=>?_⟩;obtain⟨ep,k,ek,d,ed,q⟩:=zz;subst ep;cases dv;obtain⟨ks,kd,r⟩:=m;rcases Ci (k:=k) (r H2) with ⟨e1,e2⟩|⟨d',w,e1,e2,dw⟩
 ·rw[ed] at e1;cases e1
 ·rw[ed] at e1;cases e1;exact⟨a,ks,k,w,rfl,.inr kd,Bx ek dv2,e2,cl _ _ q H2 (x1.trans x2) rg2 _ dw⟩
end
noncomputable abbrev Cs:HO:=.ext fun _=>True
theorem P5{P:Program}{w:World}{H:Hp}{h:Heap}{a:Addr}{o:Obj}(e:h.get? a=some o):ObjOk P w H h a (.frz o Cs):=⟨e,True.intro,⟨o,e⟩,fun _ _ _ _=>True.intro⟩
section
variable{X:Cx}{pins:List (Addr×Obj)}{σ:List (Option V)}{H:Hp}{s:Shared}{h':Heap}
theorem Inv.grown{T:Addr}{t':Nat}{ps more:Array Value}(I:Inv X pins σ H s)(e:H T=some (.tbl ps))(k:∀b u,b≠T→s.heap.get? b=some u→h'.get? b=some u)(hT:h'.get? T=some (W.tabObj (ps++more))) :
  Inv X pins σ (upd H T (.tbl (ps++more))) { s with heap:=h',toks:=t' }:=by
 have nT:∀b,H b=none→b≠T:=fun b n z=>by rw[z,e] at n;cases n
 refine I.un ⟨fun b o q n _ _=>k b o (nT b n) q,fun b o q n _ _=>⟨o.slots,k b o (nT b n) q⟩,fun b o q n _=>by rw[Ad (nT b n)];exact n,fun b o q _=>?_,fun b xs q=>?_,fun b o u q=>?_,fun b qs q=>?_⟩ fun b u q=>?_
 ·by_cases hb:b=T
  ·subst hb;exact⟨_,hT⟩
  ·exact⟨o,k b o hb q⟩
 ·rw[Ad (F1 q e (fun z=>by cases z))];exact q
 ·rw[Ad (F1 q e (fun z=>by cases z))];exact q
 ·by_cases hb:b=T
  ·subst hb;rw[e] at q;cases q;exact⟨more,Ah⟩
  ·exact⟨#[],by rw[Ad hb,q];simp⟩
 ·by_cases hb:b=T
  ·subst hb;rw[Ah] at q;cases q;exact hT
  ·rw[Ad hb] at q;refine(I.hok b u q).stay (fun c v hc r=>k c v (fun z=>?_) r) (fun c r=>?_) fun c xs r=>?_
   ·subst z;rcases hc with z|z
    ·exact hb z.symm
    ·rw[e] at z;cases z
   ·rw[Ad (F1 r e (fun z=>by cases z))];exact r
   ·rw[Ad (F1 r e (fun z=>by cases z))];exact r
theorem Inv.seen{a:Addr}{o:Obj}(I:Inv X pins σ H s)(ha:X.s₀.heap.objs.size≤a)(hL:a≠X.env.locals)(hc:∀x c,X.env.cells.lookup x=some c→c≠a)(hp:∀p∈X.pn++pins,p.1≠a)(hn:H a=none)(e:s.heap.get? a=some o) :
  Inv X pins σ (upd H a (.frz o Cs)) s:=by
 have nb:∀b o',X.s₀.heap.get? b=some o'→b≠a:=fun b o' q=>Nat.ne_of_lt (Nat.lt_of_lt_of_le (Heap.lt_size q) ha);refine⟨I.ok,I.os,I.bare,⟨I.base.keep,I.base.slot,fun b o' q n hx=>by rw[Ad (nb b o' q)];exact I.base.free b o' q n hx,I.base.there,fun b xs q=>?_,fun b o' u q=>?_,fun b ps q=>?_⟩,I.loc,I.cell,by rw[Ad hL.symm];exact I.free,fun x c q=>by rw[Ad (hc x c q)];exact I.freeC x c q,fun p hq=>?_,fun b u q=>?_,I.len⟩
 ·have q:=I.base.tups b xs q;rw[Ad (Ao q hn)];exact q
 ·have q:=I.base.frzs b o' u q;rw[Ad (Ao q hn)];exact q
 ·obtain⟨m,q⟩:=I.base.tbls b ps q;exact⟨m,by rw[Ad (Ao q hn)];exact q⟩
 ·obtain⟨p1,p2,p3⟩:=I.pin p hq;exact⟨p1,by rw[Ad (hp p hq)];exact p2,p3⟩
 ·by_cases hb:b=a
  ·subst hb;rw[Ah] at q;cases q;exact P5 e
  ·rw[Ad hb] at q;exact(I.hok b u q).stay (fun c v _ r=>r) (fun c r=>by rw[Ad (Ao r hn)];exact r) fun c xs r=>by rw[Ad (Ao r hn)];exact r
end
noncomputable abbrev lamO(q:Str)(params:Arguments)(body:Expr)(scope:Scope)(clos:List (Str×Addr))(pm cv ctv:Value):Obj:={ cls:=.type "function",data:=.func (W.kla_fn "<lambda>" q params body scope clos pm cv ctv) }
noncomputable def tLam(T:Addr)(q:Str)(params:Arguments)(body:Expr)(scope:Scope)(clos:List (Str×Addr))(pm:Value)(pos:Pos):TE:=fun σ H Q=>∃ps,H T=some (.tbl ps)∧TriplesOk ps.toList∧
 (∀cv ctv f,codeAmong pos ps.toList=some cv→H f=none→Q (.ref f) (upd H f (.frz (lamO q params body scope clos pm cv ctv) Cs)))∧
 ∀c o ctv f,codeAmong pos ps.toList=none→H c=none→H f=none→c≠f→Kx o q→
  Q (.ref f) (upd (upd (upd H T (.tbl (ps ++ #[rawInt pos.line,rawInt pos.col,.ref c]))) c (.frz o Cs)) f (.frz (lamO q params body scope clos pm (.ref c) ctv) Cs))
theorem Adk{X:Cx}{T c0:Addr}{params:Arguments}{body:Expr}{scope:Scope}{clos:List (Str×Addr)}{pos:Pos}(hdef:defaultsOf params X.env=([],[]))(hcl:closureFor scope X.env=pure clos)(hcode:X.env.code=.ref c0)(hC:W.codeHdIn X.K c0 T=true) :
  PE X (.Lambda params body scope pos) (tLam T (X.env.qual ++ "<lambda>") params body scope clos ((X.mg "__name__").getD .none) pos):=by
 intro pins s σ H Q I h;obtain⟨ps,eT,ht,hit,mis⟩:=h;have hP:s.heap.get? T=some (W.tabObj ps):=I.hok T _ eT;have hC:=W.codeHd_of_K I.kIn hC;have hg:s.heap.Ns mainGlobals X.mg:=I.mod.glob.keeps I.bk;obtain⟨bm,ob,b1,b2,b3,b4,b5,b6⟩:=I.mod.bm;have b3':=I.bk _ _ b3;have hgT:mainGlobals≠T:=fun z=>by
  obtain⟨o,es,ep,e,hd,_⟩:=hg;rw[z,hP] at e;cases e;cases hd
 have hbT:bm≠T:=fun z=>by rw[z,hP] at b3';cases b3';cases b4
 have hbG:bm≠mainGlobals:=fun z=>by
  obtain⟨o,es,ep,e,hd,_⟩:=hg;rw[z,e] at b3';cases b3';rw[hd] at b6;cases b6
 have hB:s.heap.BuiltinsAt X.mg T:=⟨bm,ob,b1,b2,hbG,hbT,b3',b4,b5,b6⟩;refine W.kla_eval hdef ?_;cases hf:codeAmong pos ps.toList with
 |some cv=>
  refine W.kla_makeFunctionHit (mg:=X.mg) hcl I.ok.glob hg hcode hC hP ht hf hB fun ctv h' tk hk hsz=>?_;have I1:Inv X pins σ H { s with heap:=h',toks:=tk }:=I.kept hk;have I2:=I1.laid (t':=tk) (h':=h'.push (lamO (X.env.qual ++ "<lambda>") params body scope clos ((X.mg "__name__").getD .none) cv ctv)) (o:=.frz (lamO (X.env.qual ++ "<lambda>") params body scope clos ((X.mg "__name__").getD .none) cv ctv) Cs)
   (fun b u e=>Heap.get?_push_of_some _ e) (Nat.le_refl _) (P5 (Heap.get?_push_size _ rfl))
  exact⟨.ref h'.objs.size,_,I2,rfl,hit cv ctv _ hf (I1.hok.fresh (Nat.le_refl _))⟩
 |none=>
  refine W.kla_makeFunction (mg:=X.mg) hcl I.ok.glob hg hcode hC hP ht hf hgT hB fun c' ctv h' tk hx hge hlt hrec htb=>?_;obtain⟨c₂,oc,vs,t,e2,hoc,hd,hv⟩:=hrec;cases e2;have nc:H c'=none:=I.hok.fresh hge;have neT:c'≠T:=fun z=>by rw[z,eT] at nc;cases nc
  have I1:=Inv.grown (t':=tk) I eT (fun b u hb e=>hx b u hb e) htb;have fo:=I.fpOk (H':=H) hge nc;have I2:=Inv.seen I1 (Nat.le_trans I.sz hge) fo.2.1 fo.2.2.2.2.1 (fun p hp=>fo.2.2.2.2.2 p hp) (by rw[Ad neT];exact nc) hoc
  have I3:=I2.laid (t':=tk) (h':=h'.push (lamO (X.env.qual ++ "<lambda>") params body scope clos ((X.mg "__name__").getD .none) (.ref c') ctv)) (o:=.frz (lamO (X.env.qual ++ "<lambda>") params body scope clos ((X.mg "__name__").getD .none) (.ref c') ctv) Cs)
   (fun b u e=>Heap.get?_push_of_some _ e) (Nat.le_refl _) (P5 (Heap.get?_push_size _ rfl))
  have ff:H h'.objs.size=none:=by
   cases q:H h'.objs.size with
   |none=>rfl
   |some u=>exact absurd (Nat.lt_of_lt_of_le (I.hok.lt q) (Nat.le_trans hge (Nat.le_of_lt hlt))) (Nat.lt_irrefl _)
  exact⟨.ref h'.objs.size,_,I3,rfl,mis c' oc ctv _ hf nc ff (Nat.ne_of_lt hlt) ⟨vs,t,hd,hv⟩⟩
theorem Tq{p:Pos}{a b:Int}{c cv:Value}(l:List Value)(h:TriplesOk l)(e:codeAmong p (l++[rawInt a,rawInt b,c])=some cv):codeAmong p l=some cv∨cv=c:=by
 fun_induction TriplesOk l with
 |case1=>
  simp only[List.nil_append,rawInt,codeAmong] at e
  split at e
  ·cases e;exact .inr rfl
  ·cases e
 |case2 a' t b' u x rest ih=>
  simp only[List.cons_append,codeAmong] at e ⊢
  split at e
  ·rename_i hc;rw[if_pos hc];exact .inl e
  ·rename_i hc;rw[if_neg hc];exact ih h e
 |case3 l h1 h2=>exact h.elim
section
variable{X:Cx}
theorem Ext.tbl{H:Hp}{p:Addr}{ps:Array Value}{u:HO}(e:H p=some (.tbl ps)):Ext H (upd H p u):=Ext.write e (fun xs z=>by cases z) (fun ob w z=>by cases z)
end
noncomputable def Cn(H:Hp)(ts:List Addr):Hp:=fun b=>if b∈ts then some (.tbl #[]) else H b
theorem Hg{H:Hp}{ts:List Addr}{b:Addr}(h:b∈ts):Cn H ts b=some (.tbl #[]):=if_pos h
theorem Cj{H:Hp}{ts:List Addr}{b:Addr}(h:b ∉ ts):Cn H ts b=H b:=if_neg h
structure Given(K:W.Frag)(ts:List Addr)(a:Addr)(ns:List Int)(H:Hp):Prop where
 tab:∀T∈ts,H T=some (.tbl #[])
 rest:∀b,b ∉ ts→H b=none∨∃o xs,H b=some (.frz o (.lst xs))
 arg:SqL K H a (ns.map V.int)
theorem S2{P:Program}{w:World}{K:W.Frag}{mg:Str→Option Value}{CX:CXT}{k:Nat}{fa a:Addr}{fd:FuncData}{x:Str}{sp:Sp}{s₁:Shared}{vs:List Value}{ns:List Int}{ts:List Addr}(KX:K.In s₁.heap)(hT:∀T∈ts,isCodeTable s₁.heap T∧s₁.heap.get? T=some (W.tabObj #[])∧K.lookup T=none)(hM:Mod K mg s₁.heap)(hg:s₁.gens=#[])(ha:s₁.heap.get? a=some { cls:=.type "list",data:=.seq vs.toArray })(hi:IntsAre vs ns)(hl:ns.length≤sizeLine)(hr:Room k callerA)(F:∀base:Heap,K.In base→base.Ns mainGlobals mg→FnOk P w K mg base CX k fa fd [x] sp)(hbind:∀(s:Shared) (u:Value),BindsTo s fd ⟨[u],[]⟩ [(x,u)])(hsp:∀H:Hp,Given K ts a ns H→sp [.ref a] H (fun v _=>v=.bl true) fun _ _ _=>False)(hCX:∀H e s',CX [] H s₁ (fun _ _ _=>False) e s'→False) :
  codeAny (model P w) callerA (.call (.ref fa) ⟨[.ref a],[]⟩) (fun r s'=>r=.ok (.ret (.bool true))∧OldK s₁.heap s'.heap∧s'.os=s₁.os∧AllBare s'.gens) s₁:=by
 have hat:a ∉ ts:=fun z=>by
  have e:=(hT a z).2.1;rw[ha] at e;cases e
 have main:∀H0:Hp,(∀b,b≠a→H0 b=none)→(H0 a=none∨∃o xs,H0 a=some (.frz o (.lst xs)))→(H0 a≠none→K.lookup a=none)→SqL K H0 a (ns.map V.int)→HOk P w H0 s₁.heap→
   codeAny (model P w) callerA (.call (.ref fa) ⟨[.ref a],[]⟩) (fun r s'=>r=.ok (.ret (.bool true))∧OldK s₁.heap s'.heap∧s'.os=s₁.os∧AllBare s'.gens) s₁:=by
  intro H0 off at0 hK0 hS hok0;have eA:Cn H0 ts a=H0 a:=Cj hat;have gv:Given K ts a ns (Cn H0 ts):=⟨fun T h=>Hg h,fun b hb=>by
   rw[Cj hb]
   by_cases z:b=a
   ·rw[z];exact at0
   ·exact .inl (off b z),hS.elim (fun h=>.inl (h.elim (fun h=>.inl (by rw[eA];exact h)) fun⟨o,h⟩=>.inr ⟨o,by rw[eA];exact h⟩)) .inr⟩
  have hok:HOk P w (Cn H0 ts) s₁.heap:=fun b u q=>by
   by_cases hb:b∈ts
   ·rw[Hg hb] at q;cases q;exact(hT b hb).2.1
   ·rw[Cj hb] at q;have z:b=a:=Classical.byContradiction fun z=>by rw[off b z] at q;cases q
    subst z;refine(hok0 b u q).stay (fun _ _ _ r=>r) (fun c r=>?_) fun c xs r=>?_
    ·have hc:c=b:=Classical.byContradiction fun z=>by rw[off c z] at r;cases r
     subst hc;rw[eA];exact r
    ·have hc:c=b:=Classical.byContradiction fun z=>by rw[off c z] at r;cases r
     subst hc;rw[eA];exact r
  have un:∀b o,s₁.heap.get? b=some o→(o.cls≠.none)→(o.cls≠.type "list")→Cn H0 ts b=none:=fun b o e n1 n2=>by
   by_cases hb:b∈ts
   ·rw[(hT b hb).2.1] at e;cases e;exact absurd rfl n1
   ·rw[Cj hb];refine off b fun z=>?_;rw[z,ha] at e;cases e;exact absurd rfl n2
  have unD:∀b o es ep,s₁.heap.get? b=some o→o.data=.dict es ep→Cn H0 ts b=none:=fun b o es ep e d=>by
   by_cases hb:b∈ts
   ·rw[(hT b hb).2.1] at e;cases e;cases d
   ·rw[Cj hb];refine off b fun z=>?_;rw[z,ha] at e;cases e;cases d
  have bo:∀{b:Addr} {o:Obj},s₁.heap.get? b=some o→Cn H0 ts b=none→(Kg s₁.heap (Cn H0 ts)).get? b=some o:=fun e n=>Wv e n;have nsB:∀{b:Addr} {m:Str→Option Value},s₁.heap.Ns b m→(Kg s₁.heap (Cn H0 ts)).Ns b m:=fun {b m} ⟨o,es,ep,e,d,r⟩=>⟨o,es,ep,bo e (unD b o es ep e d),d,r⟩;have kB:K.In (Kg s₁.heap (Cn H0 ts)):=fun b o e=>bo (KX b o e) (by
   by_cases hb:b∈ts
   ·rw[(hT b hb).2.2] at e;cases e
   ·rw[Cj hb]
    by_cases z:b=a
    ·subst z;cases q:H0 b with
     |none=>rfl
     |some u=>rw[hK0 (by rw[q];simp)] at e;cases e
    ·exact off b z)
  have mB:Mod K mg (Kg s₁.heap (Cn H0 ts)):=⟨kB,nsB hM.glob,let ⟨mm,h1⟩:=hM.sm;⟨mm,nsB h1⟩,
   let ⟨bm,ob,b1,b2,b3,b4,b5⟩:=hM.bm;⟨bm,ob,b1,b2,bo b3 (un bm ob b3 (by rw[b4];exact fun z=>by cases z) (by rw[b4];exact fun z=>absurd (Value.type.inj z) (by decide))),b4,b5⟩,
   let ⟨mb,h1,h2⟩:=hM.blt;⟨mb,nsB h1,h2⟩,let ⟨mc,h1,h2⟩:=hM.nolimit;⟨mc,nsB h1,h2⟩⟩
  have e0:Env0 P w K mg (Kg s₁.heap (Cn H0 ts)) callerA [] s₁ (Cn H0 ts):=⟨rfl,mB,fun b o e=>Zh e,Nat.le_of_eq (S9 _ _),trivial,fun b hb=>absurd (show b∈([]:List Addr) from hb) (by simp),hok,.of_eq hg⟩
  refine codeAny_mono ((F _ kB mB.glob).run callerA [] s₁ (Cn H0 ts) ⟨[.ref a],[]⟩ [.ref a] [.ref a] _ _ hr e0 (hbind s₁ (.ref a)) (.cons rfl .nil) (hsp _ gv)) fun r s' h=>?_;cases r with
  |error e=>exact(hCX _ e s' h).elim
  |ok fl=>
   cases fl with
   |next=>exact False.elim h
   |brk=>exact False.elim h
   |cont=>exact False.elim h
   |ret u=>
    obtain⟨v,H',os,bare,ud,hok',r',q⟩:=h;have q:v=.bl true:=q;subst q;obtain rfl:u=Value.bool true:=r';have keep:∀b o,b ∉ ts→s₁.heap.get? b=some o→s'.heap.get? b=some o:=fun b o hb e=>by
     rcases gv.rest b hb with z|⟨ob,xs,z⟩
     ·exact ud.keep b o e z (by intro z;exact absurd (show b∈([]:List Addr) from z) (by simp)) (by simp)
     ·obtain⟨e1,_⟩:=hok b _ z;obtain⟨e2,_⟩:=hok' b _ (ud.frzs b ob _ z);rw[e] at e1;cases e1;exact e2
    have grown:∀T∈ts,∃more,s'.heap.get? T=some (W.tabObj (#[]++more)):=fun T hb=>by
     obtain⟨more,z⟩:=ud.tbls T _ (Hg hb);exact⟨more,hok' T _ z⟩
    refine⟨rfl,⟨fun b o e=>?_,fun b o e=>?_⟩,os,bare⟩
    ·by_cases hb:b∈ts
     ·obtain⟨t1,t2,_⟩:=hT b hb;rw[t2] at e;cases e;obtain⟨more,z⟩:=grown b hb;exact .inr (.inl ⟨t1,rfl,#[],more,rfl,z⟩)
     ·exact .inl (keep b o hb e)
    ·by_cases hb:b∈ts
     ·obtain⟨more,z⟩:=grown b hb;exact⟨_,z⟩
     ·exact⟨o,keep b o hb e⟩
 have rv:=L2.vals_ints hi;have lenV:=hi.length;cases hk:K.lookup a with
 |some o=>
  have e:=KX a o hk;rw[ha] at e;cases e;exact main (fun _=>none) (fun _ _=>rfl) (.inl rfl) (fun z=>absurd rfl z) (.inr ⟨_,vs.toArray,_,hk,rfl,rfl,rfl,by rw[List.size_toArray,lenV];exact hl,by simpa using rv⟩) fun b u z=>by cases(show(none:Option HO)=some u from z)
 |none=>
  refine main (upd (fun _=>none) a (.frz { cls:=.type "list",data:=.seq vs.toArray } (.lst (ns.map V.int)))) (fun b z=>Ad z) (.inr ⟨_,_,Ah⟩) (fun _=>hk) (.inl (.inr ⟨_,Ah⟩)) fun b u z=>?_
  by_cases hb:b=a
  ·subst hb;rw[Ah] at z;cases z;exact⟨ha,by rw[List.length_map];exact hl,vs,_,rv,ha⟩
  ·rw[Ad hb] at z;cases z
theorem U4{l:W.OpenLaw}{n k:Nat}{q:Program}{loose:List Str}{XP:(Str→Option Value)→Heap→Prop}{YP:World→Heap→Prop}{d:DefRec}{K:Params→W.Frag}{CX:CXT}{sp:W.Frag→Sp}{x:Str}{ts:List Addr}(hi:importsNone q=true)(hn:l.most=some n)(hn2:n≤sizeLine)(hdf:d.params.defaults=[])(hr:Room k callerA)(hY:∀(w:World) (h:Heap),YP w h→(K w.params).In h∧∀T∈ts,h.get? T=some (W.tabObj #[]))(hC:∀(w:World) (h:Heap),(K w.params).In h→∀T∈ts,(∃c,W.codeHdIn (K w.params) c T=true)∧(K w.params).lookup T=none)(F:∀(w:World) (mg:Str→Option Value) (fa:Addr) (h:Heap),(K w.params).In h→h.Ns mainGlobals mg→mg d.name=some (.ref fa)→
   ∃fd:FuncData,(∀(s:Shared) (u:Value),BindsTo s fd ⟨[u],[]⟩ [(x,u)])∧∀base:Heap,(K w.params).In base→base.Ns mainGlobals mg→FnOk l.prog w (K w.params) mg base CX k fa fd [x] (sp (K w.params)))(hsp:∀(K:W.Frag) (H:Hp) (a:Addr) (ns:List Int),ns.length≤n→Given K ts a ns H→sp K [.ref a] H (fun v _=>v=.bl true) fun _ _ _=>False)(hCX:∀(H:Hp) (s:Shared) (e:Value) (s':Shared),CX [] H s (fun _ _ _=>False) e s'→False):W.WalkO q loose XP YP l.row.toRowW d [] (fun f vs=>PySem.call f vs):=by
 refine Att.attach_call hn hdf fun w s₀ s₁ mg mb fa o pm cd doc a vs ns G Y ho hd hcd hmg hobj hints hlen hg=>?_;obtain⟨KX,tb⟩:=hY w _ Y;obtain⟨fd,hb,hF⟩:=F w mg fa _ KX G.T.g hmg;refine S2 (ts:=ts) KX (fun T h=>?_) ⟨KX,G.T.g,let ⟨mm,h1,_⟩:=(G.T.seer hi).mods;⟨mm,h1⟩,G.T.bmain,⟨mb,G.T.b,G.T.builtins⟩,G.T.nolimit⟩ hg hobj hints (Nat.le_trans hlen hn2) hr hF hb (fun H g=>hsp _ H a ns hlen g) fun H e s'=>hCX H s₁ e s';obtain⟨⟨c,h1⟩,h2⟩:=hC w _ KX T h;exact⟨((W.codeHd_of_K KX h1).tab (tb T h)).isCodeTable,tb T h,h2⟩
noncomputable def Kk(ts:List (Addr×Str)):DSp:=fun ds G Q _=>∃ns:List Int,ds=[.lint ns]∧ns.length≤63∧(∀p∈ts,G p.1=some (.tbl p.2))∧∀G',Q (.bl true) G'
theorem Zn(ts:List (Addr×Str))(nd:(ts.map (·.1)).Nodup)(K:W.Frag)(H:Hp)(a:Addr)(ns:List Int)(hl:ns.length≤63)(g:Given K (ts.map (·.1)) a ns H):liftSp K (Kk ts) [.ref a] H (fun v _=>v=.bl true) fun _ _ _=>False:=by
 have rd:RdI K H a (ns.map V.int):=by
  rcases g.arg with (h|h)|h
  ·by_cases ht:a∈ts.map (·.1)
   ·rw[g.tab a ht] at h;cases h
   ·rcases g.rest a ht with z|⟨o,xs,z⟩
    ·rw[h] at z;cases z
    ·rw[h] at z;cases z
  ·exact .inl h
  ·exact .inr h
 have look:∀(l:List (Addr×Str)) p,(l.map (·.1)).Nodup→p∈l→l.lookup p.1=some p.2:=fun l=>by
  induction l with
  |nil=>intro p _ h;cases h
  |cons y r ih=>
   intro p nd h;rw[List.map_cons,List.nodup_cons] at nd;rw[List.lookup_cons];rcases List.mem_cons.mp h with rfl|h
   ·rw[beq_self_eq_true]
   ·have ne:(p.1 == y.1)=false:=beq_eq_false_iff_ne.mpr fun z=>nd.1 (z ▸ List.mem_map_of_mem h);rw[ne];exact ih p nd.2 h
 have back:∀(l:List (Addr×Str)) b q,l.lookup b=some q→b∈l.map (·.1):=fun l=>by
  induction l with
  |nil=>intro b q h;cases h
  |cons y r ih=>
   intro b q h;rw[List.lookup_cons] at h;cases e:b == y.1 with
   |true=>rw[beq_iff_eq.mp e];simp
   |false=>rw[e] at h;exact List.mem_cons_of_mem _ (ih b q h)
 refine⟨[.lint ns],fun b=>(ts.lookup b).map GO.tbl,fun d _=>d=.bl true,fun _ _=>False,.cons (.lint rd) .nil,(fun b o e=>?_),⟨ns,rfl,hl,fun p hp=>by show(ts.lookup p.1).map GO.tbl=_;rw[look ts p nd hp];rfl,fun _=>rfl⟩,fun d G' e H' _ _ v dv=>?_,fun c G' (e:False)=>e.elim⟩
 ·obtain⟨q,eq,e⟩:=Option.map_eq_some_iff.mp e;subst e;exact⟨#[],g.tab b (back ts b q eq),True.intro,fun p cv z=>by cases z⟩
 ·have e:d=.bl true:=e;subst e;cases dv;rfl
inductive AtomD:D→Value→Prop where
 |int (i:Int) (t:Tok):AtomD (.int i) (.int i t)
 |ref (a:Addr):AtomD (.ref a) (.ref a)
inductive EntsAre (w:World):List DictEntry→List (Key×D)→Prop where
 |nil:EntsAre w [] []
 |cons {x:Str} {t:Tok} {v:Value} {d:D} {r:List DictEntry} {rs:List (Key×D)} (dv:AtomD d v) (h:EntsAre w r rs):EntsAre w ({ hash:=PyData.keyHash w.params x,key:=.str x t,val:=v }::r) ((.inr x,d)::rs)
theorem Aa9{P:Program}{w:World}{K:W.Frag}{a:Addr}{es:Array DictEntry}{ep:Nat}{kvs:List (Key×D)}(l:K.lookup a=some { cls:=.type "dict",data:=.dict es ep })(ha:(a == sysModules)=false)(hk:EntsAre w es.toList kvs)(nd:(kvs.map (·.1)).Nodup):KD P w K a kvs:=by
 have main:∀{l:List DictEntry} {kvs:List (Key×D)},EntsAre w l kvs→∃(ks:List (Key×V)) (vs:List (Key×Value)),KV ks vs∧(∀H,Paired (Ent Key K H) kvs ks)∧(∀e∈l,∃k,(Al P w).is k e.key=true∧e.hash=(Al P w).hash k)∧Pairs (Al P w) l vs∧vs.map (·.1)=kvs.map (·.1):=by
  intro l kvs h
  induction h with
  |nil=>exact⟨[],[],.nil,fun H=>.nil,fun e h=>(by cases h),.nil,rfl⟩
  |@cons x t v d r rs dv h ih=>
   obtain⟨ks,vs,h1,h2,h3,h4,h5⟩:=ih;have isx:(Al P w).is (.inr x) (.str x t)=true:=Cy (k:=.inr x) ⟨t,rfl⟩;obtain⟨u,ru,du⟩:∃u:V,RelV u v∧∀H,DV K H d u:=by
    cases dv with
    |int i t=>exact⟨.int i,⟨t,rfl⟩,fun H=>.int i⟩
    |ref a=>exact⟨.ref a,rfl,fun H=>.ref a⟩
   refine⟨(.inr x,u)::ks,(.inr x,v)::vs,.cons ⟨rfl,ru⟩ h1,fun H=>.cons ⟨rfl,du H⟩ (h2 H),fun e he=>?_,.cons isx rfl h4,by rw[List.map_cons,List.map_cons,h5]⟩
   rcases List.mem_cons.mp he with rfl|he
   ·exact⟨.inr x,isx,rfl⟩
   ·exact h3 e he
 obtain⟨ks,vs,h1,h2,h3,h4,h5⟩:=main hk;exact⟨ks,⟨ha,_,vs,l,h1,es,ep,⟨rfl,rfl,rfl⟩,rfl,fun e he=>h3 e (by simpa using he),h4,by rw[h5];exact nd⟩,h2⟩
section
variable{P:Program}{w:World}{A:Around}{E:Value→Shared→Prop}{s:Shared}
end
end D3
namespace D3
open PySem PySem.Spec
open PyProof.Rows hiding St
open L2 hiding St
open PySem.W (KdlSrc kdl_extend kdl_values)
section
variable{P:Program}{w:World}{A:Around}{E:Value→Shared→Prop}{s:Shared}
theorem Nv{T:String}{r d:Addr}{n:Nat}{F:Nat→Value→Prop}{OK:Heap→Prop}{Q:List Value→Shared→Prop}(K:KdlSrc P w T r d n F OK)(hh:A.handled=none)(hok:OK s.heap)(hn:n≤sizeLine)(h:∀h' tk acc,(∀b o,s.heap.get? b=some o→h'.get? b=some o)→ItemsOf F acc n→Q acc.toList { s with heap:=h',toks:=tk }):wpAny (model P w) A (collect (.ref r)) Q E s:=by
 obtain⟨hr,hd⟩:=K.there _ hok;unfold collect;refine wpAny_bind (wpAny_runValue (codeAny_builtin PySem.F.entry_proto_collect ?_));rw[Around.under_plainId PySem.F.plain_proto_collect _];show wpAny _ A.in1 (newList [] >>= fun l=>again (.builtin "list.__iadd__" ⟨[l,.ref r],[]⟩)) _ _ s;refine wpAny_bind (wpAny_newObj_type ?_);refine wpAny_pure ⟨plainId_quiet PySem.F.plain_list_iadd _,codeAny_builtin PySem.F.entry_list_iadd ?_⟩;rw[Around.under_plainId PySem.F.plain_list_iadd _];have hL1:(s.heap.push { cls:=.type "list",data:=.seq ([]:List Value).toArray }).get? s.heap.objs.size=some { cls:=.type "list",data:=.seq ([]:List Value).toArray }:=Heap.get?_push_size _ rfl;have keep1:∀b o,s.heap.get? b=some o→(s.heap.push { cls:=.type "list",data:=.seq ([]:List Value).toArray }).get? b=some o:=fun b o e=>Heap.get?_push_of_some _ e;generalize s.heap.push { cls:=.type "list",data:=.seq ([]:List Value).toArray }=g1 at *;show wpAny _ A.in1 (Builtin.List.listExtendWith (.ref s.heap.objs.size) (.ref r) (.ref s.heap.objs.size)) _ _ { s with heap:=g1 };have key:=kdl_extend (A:=A) (s:={ s with heap:=g1 }) (R:=fun(q:Result) (s':Shared)=>∃h' tk acc c,q=.ok (.ret (.ref s.heap.objs.size))∧s'={ s with heap:=h',toks:=tk }∧(∀b o,s.heap.get? b=some o→h'.get? b=some o)∧h'.get? s.heap.objs.size=some { cls:=.type "list",dict:=none,data:=.seq acc c,slots:=#[] }∧ItemsOf F acc n)
  K hh (K.keep _ _ hok fun b _ o e=>keep1 b o e) s.heap.objs.size (Nat.ne_of_gt hr) (Nat.ne_of_gt hd) (.ref s.heap.objs.size) 0 hL1 (fun h' tk acc c hk hS hI=>⟨h',tk,acc,c,rfl,rfl,fun b o e=>hk b o (Nat.ne_of_lt (Heap.lt_size e)) (keep1 b o e),hS,hI⟩) hn
 refine wpAny_mono key (fun fin s' x=>?_) fun e s' x=>?_
 ·cases fin with
  |done f=>
   obtain⟨h',tk,acc,c,e,rfl,hk,hS,hI⟩:=x;cases e;show wpAny _ A (load s.heap.objs.size >>= _) _ _ _;exact wpAny_bind (wpAny_load hS (wpAny_pure (h h' tk acc hk hI)))
  |again c₁=>
   refine⟨x.1,codeAny_mono x.2 fun q s₂ y=>?_⟩;obtain⟨h',tk,acc,c,rfl,rfl,hk,hS,hI⟩:=y;show wpAny _ A (load s.heap.objs.size >>= _) _ _ _;exact wpAny_bind (wpAny_load hS (wpAny_pure (h h' tk acc hk hI)))
 ·obtain⟨_,_,_,_,e',_⟩:=x;cases e'
end
noncomputable abbrev Fz(d:Addr):Obj:={ cls:=.type "dict_values",data:=.fields #[.ref d] }
section
variable{X:Cx}{o e:Expr}{to:TE}{apos cpos pos p:Pos}
noncomputable def tView(mk:Addr→Obj)(to:TE):TE:=fun σ H Q=>to σ H fun x H1=>∃a kvs,x=.ref a∧H1 a=some (.dK kvs)∧∀v,H1 v=none→Q (.ref v) (upd H1 v (.frz (mk a) Cs))
theorem R6(ho:PE X o to)(hbase:attributeBase o "values" X.env (eval o X.env)=eval o X.env)(hline:(apos.endLine == cpos.line)=true):PE X (.Call (.Attribute o "values" apos) [] [] cpos) (tView Fz to):=by
 intro pins s σ H Q I h;refine wpAny_Call_method0_late hbase hline (thn (ho pins s σ H _ I h) fun u s1 zz=>?_);obtain⟨x,H1,I1,rx,a,kvs,ex,eh,q⟩:=zz;subst ex;obtain rfl:u=Value.ref a:=rx;obtain⟨t1,t2,t3⟩:=Ku I1 (.inl ⟨kvs,.inl eh⟩);obtain⟨_,_,vs,_,dd⟩:=D6 I1.hok eh;refine⟨"dict", "dict.values",PySem.F.plainAttrs_dict,PySem.F.slot_dict_values,PySem.F.type_dict_values,t1,t2,Calls.callWith_builtin rfl (PySem.evalArgs_none ?_)⟩;refine call_meetsIn PySem.F.slot_dict_values t1 PySem.F.entry_dict_values (PySem.F.args_dict_values_1 _) (meets_dict_values (Al X.prog X.w) a t3) ⟨⟨vs,dd⟩,?_⟩;exact⟨.ref s1.heap.objs.size,_,I1.laid (t':=s1.toks) (o:=.frz (Fz a) Cs) (fun b u e=>Heap.get?_push_of_some _ e) (Nat.le_refl _) (P5 (Heap.get?_push_size _ rfl)),rfl,q _ (I1.hok.fresh (Nat.le_refl _))⟩
end
end D3
namespace D3
open PySem PySem.Spec
open PyProof.Rows hiding St
open L2 hiding St
section
variable{X:Cx}{o:Expr}{to:DTE}{apos cpos pos p:Pos}
end
section
variable{X:Cx}{pins:List (Addr×Obj)}{σ:List (Option V)}{H:Hp}{s:Shared}
end
section
variable{X:Cx}{elt o tg:Expr}{ifs:List Expr}{scope:Scope}{pos apos cpos:Pos}{to:DTE}{T M:List Str}
end
section
variable{X:Cx}
theorem call_sortedL:CallR X (.builtin "sorted") (fun xs H Q=>∃(l:Addr) (ns:List Int),xs=[.ref l]∧SqL X.K H l (ns.map V.int)∧ns.length<64∧∀p (ms:List Int),H p=none→ms.Perm ns→ms.Pairwise (·≤·)→Q (.ref p) (upd H p (.lst (ms.map V.int)))):=by
 intro pins s σ H xs us Q I r h;obtain⟨l,ns,rfl,hl,hn,q⟩:=h;obtain⟨u,rfl,rx⟩:=Ek r;cases rx;obtain⟨its,rv,pl,_⟩:=I.list hl;have hl2:=rv.length;rw[List.length_map] at hl2;refine sorted_ints pl.isList (D3.Jy rv) (by omega) fun out ms hI hp hs=>?_
 obtain⟨e,he⟩:=sortedAll_at s.heap its out;have I2:=I.laid (h':=sortedAll s.heap its out) (t':=s.toks) (o:=.lst (ms.map V.int)) (fun b o z=>sortedAll_old z) (Nat.le_succ _) (show ObjOk X.prog X.w _ _ _ (.lst _) from⟨by rw[List.length_map,hp.length_eq,sizeLine_eq];omega,out.toList,e,D3.vals_ints hI,by rw[he]⟩)
 exact⟨.ref (s.heap.objs.size+1),_,I2,rfl,q _ ms (I.hok.fresh (Nat.le_succ _)) hp hs⟩
theorem W2:QC X (.builtin "sorted") (fun ds G Q=>∃d,ds=[d]∧∃p,d=.ref p∧∃ns:List Int,G p=some (.lst (ns.map D.int))∧ns.length<64∧∀l (ms:List Int),G l=none→ms.Perm ns→ms.Pairwise (·≤·)→Q (.ref l) (Ab G l (.lst (ms.map D.int)))):=call_sortedL.imp fun xs H Q zz=>by
 obtain⟨ds,G,Q',dv,rg,⟨d,e,p,ep,ns,eg,hn,q⟩,cl⟩:=zz;subst e ep;obtain⟨v,rfl,h⟩:=dv.one;cases h;obtain⟨ys,eh,r⟩:=rg p _ eg;rw[Na r] at eh;exact⟨p,ns,rfl,.inl (.inl eh),hn,fun l ms hl h1 h2=>cl _ _ (q l ms (rg.free hl) h1 h2) _ (Ext.fresh hl) (rg.lst hl DVs.ints) _ (.ref l)⟩
end
section
variable{P:Program}{w:World}{A:Around}{E:Value→Shared→Prop}{s:Shared}
end
section
variable{X:Cx}
end
section
variable{X:Cx}{a b:Expr}{ta:TA}{tA:DTA}{p p0 pos pos0:Pos}
end
section
variable{X:Cx}{e b:Expr}{te tb:DTE}{p2 pos:Pos}
end
theorem Yl{X:Cx}{x:Str}{a:Addr}{pos:Pos}(hm:X.mg x=some (.ref a))(hg:Gl X x:=by rfl)(hd:(x == ("__debug__" : Str))=false:=by decide):QE X (.Name x pos) (nC (.ref a)):=
 Gw (v:=.ref a) (Qs hg hm rfl hd) fun _=>.ref a
theorem Ack{X:Cx}{ss:List Stmt}:QSs X ss Uu:=fun _ _ _ _ _ _ ⟨_,_,_,_,_,z,_⟩=>z.elim
section
variable{P:Program}{w:World}{K:W.Frag}{mg:Str→Option Value}{base:Heap}
theorem okDc{x qual:Str}{st:Stmt}{f c0:Addr}{fd:FuncData}{N ps:List Str}{k:Nat}{sp:DSp}(F:Fun K x qual st f fd)(hc:fd.code=.ref c0)(S:FnScope N ps (defScope st))(len:∀ds G Q E,sp ds G Q E→ds.length=ps.length)(hbody:∀(A:Around) (outer:List Env) (s:Shared) (H:Hp) (XE:XK) (ds:List D) (G:Gp) (Q:DK) (E:DX),Room k (A.deeper (envOfC qual (defScope st) s.heap.objs.size f (.ref c0)))→sp ds G Q E→
   ∃t,QSs (Kh CX0 P w K mg base N qual (defScope st) f (.ref c0) A outer s H XE).nox (defBody st) t∧t { nx:=fun _ G'=>Fq Q .non G',rt:=Fq Q } (Dk N ds) G):FnOk P w K mg base CX0 (k+1) f fd ps (liftSp K sp):=by
 obtain⟨oc,od,kV,doc,pm,an,cdv,ct,osl,rfl,lk,hcd⟩:=F.ex;have hc:cdv=.ref c0:=hc;subst hc;refine Abb lk hcd S (fun vs H Q E ⟨ds,G,Q',E',dv,rg,h,_⟩=>by rw[←dv.length];exact len ds G Q' E' h) fun A outer s H vs Q E hr ⟨ds,G,Q',E',dv,rg,h,cl,_⟩=>?_
 obtain⟨t,ht,hq⟩:=hbody A outer s H E ds G Q' E' hr h;refine⟨_,ht.nox,Dk N ds,G,_,Jj dv,rg,hq,⟨fun σD G1 ⟨G2,sb,q⟩ H1 x1 rg1 σ rs=>cl _ G2 q H1 x1 (rg1.ext' sb) _ .non,fun d G1 ⟨G2,sb,q⟩ H1 x1 rg1 v dv=>cl _ G2 q H1 x1 (rg1.ext' sb) _ dv,fun _ _ z=>z.elim,fun _ _ z=>z.elim⟩⟩
noncomputable def inCls(st:Stmt)(j:Nat):Stmt:=match st with
 |.ClassDef _ _ _ body _ _ _ _ _ _ _=>body.getD j (.Pass ⟨0,0,0,0⟩)
 |_=>.Pass ⟨0,0,0,0⟩
end
theorem Qq{X:Cx}{i0:Nat}{y0:Str}{py spos:Pos}{elt iter tg:Expr}{ifs:List Expr}{scope:Scope}{cl:List (Str×Addr)}{pos:Pos}{wi:TI}{g:TG}{tf:TT}{te:TE}{T M:List Str}(hc:X.calm=true)(ok:CompOz X scope cl T M)(hi:PI X tg iter wi)(hg:∀s H fp,PG (Aj X scope cl T M s H fp) tg g)(hf:∀s H fp,PF (Aj X scope cl T M s H fp) ifs tf)(he:∀s H fp,PE (Aj X scope cl T M s H fp) elt te)(hN:X.N.Nodup)(hi0:X.N[i0]? = some y0)(hy:Loc X.env.scope y0)(hfn:X.fn y0=true∨X.env.scope.names.lookup y0=some .local)(hsw:swapsWith (.ListComp elt [⟨tg,iter,ifs,0⟩] scope pos) (some (.Name y0 py)) spos.line X.env=pure true)(hs:∀x,foldedSetIterable iter X.env x=pure x:=by intro _;rfl):PS X (.Assign [.Name y0 py] (.ListComp elt [⟨tg,iter,ifs,0⟩] scope pos) spos) (T1 (Of T.length wi g tf te) (Qd i0)):=by
 intro pins s σ H D I h;have h:(Of T.length wi g tf te) σ H (fun v H1=>D.nx (σ.set i0 (some v)) H1):=h;rw[exec_Assign_Name_used _ _ _ _ hsw];refine wpAny_bind (wpAny_standAt (wpAny_bind ?_));show wpAny _ X.A (do let _ ←comprehension (.ListComp elt [⟨tg,iter,ifs,0⟩] scope pos) scope X.env _ (newList []) false (eval iter X.env) (some (assign (.Name y0 py) X.env))) _ _ s
 refine wpAny_bind (wpAny_mono (wpAny_comprehension_free (use:=some (assign (.Name y0 py) X.env)) (Q:=fun _ s'=>SP X pins D .next s') (cl:=cl) rfl hs ok.clos ok.kind ok.names (thn (hi pins s σ H _ I h) fun v s1 h1=>thn h1 fun itv s2 h2=>?_)) (fun _ s' hq=>wpAny_pure (wpAny_pure hq)) fun _ _ e=>e);obtain⟨it,fp,tn,J,H2,e,I2,Tn,st2,f2,q⟩:=h2;subst e;have q:=q s2.heap.objs.size (I2.hok.fresh (Nat.le_refl _));refine wpAny_newObj_type ?_
 -- the new list,tracked
 have I3:Inv X pins σ (upd H2 s2.heap.objs.size (.lst [])) { s2 with heap:=s2.heap.push { cls:=.type "list",dict:=none,data:=.seq ([]:List Value).toArray } }:=
  I2.laid (t':=s2.toks) (fun b u e=>Heap.get?_push_of_some _ e) (Nat.le_refl _) ⟨Nat.zero_le _,[],0,.nil,Heap.get?_push_size _ rfl⟩
 generalize hH3:upd H2 s2.heap.objs.size (.lst [])=H3 at I3 q;generalize hs3:({ s2 with heap:=s2.heap.push { cls:=.type "list",dict:=none,data:=.seq ([]:List Value).toArray } }:Shared)=s3 at I3;have fpl:∀b∈fp,b<s2.heap.objs.size:=fun b hb=>let ⟨o,e,_⟩:=Tn.obj 0 _ st2 b hb;Heap.lt_size e;have sz3:s2.heap.objs.size≤s3.heap.objs.size:=by rw[←hs3];show _≤(s2.heap.push _).objs.size;rw[Heap.size_push];exact Nat.le_succ _
 have fok:∀b∈fp,Di X pins H3 b:=fun b hb=>⟨by rw[←hH3,Ad (Nat.ne_of_lt (fpl b hb))];exact(f2 b hb).1,(f2 b hb).2⟩
 have k23:∀b o,s2.heap.get? b=some o→s3.heap.get? b=some o:=fun b o e=>by rw[←hs3];exact Heap.get?_push_of_some _ e
 have st3:tn 0 s3.heap:=Tn.keep _ _ _ st2 fun b _ o e=>k23 b o e;refine Hm ok.kind (fun h4 hns4 k34 okc=>?_);have oldc:∀x c,cl.lookup x=some c→c<s3.heap.objs.size:=fun x c e=>by
  obtain⟨v,o,ho,_⟩:=I3.cell x c (ok.sub x c e).1;exact Heap.lt_size ho
 have hc1:=Lc (h':=h4) ok okc oldc;have hc2:=Lb (h':=h4) ok okc oldc;have I4:Inv (Aj X scope cl T M s3 H3 fp) [] (Ob T σ) H3 { s3 with heap:=h4 }:=
  Fu ok I3 (fun b hb=>⟨fok b hb,Nat.lt_of_lt_of_le (fpl b hb) sz3⟩) hns4 k34 rfl rfl hc1 hc2
 have st4:tn 0 h4:=Tn.keep _ _ _ st3 fun b _ o e=>k34 b o e;obtain⟨W,⟨m0,w0⟩,turn⟩:=q;have cfpc:∀b∈fp,∀x c,(Ax scope cl s3.heap.objs.size).lookup x=some c→c≠b:=fun b hb x c e=>by
  rcases B3 ok s3.heap.objs.size x c e with ⟨_,a2⟩|⟨a1,_⟩
  ·exact Nat.ne_of_gt (Nat.lt_of_lt_of_le (Nat.lt_of_lt_of_le (fpl b hb) sz3) (Nat.le_of_succ_le a2))
  ·exact(fok b hb).2.2.2.2.1 x c (ok.sub x c a1).1
 have cfp:∀{H':Hp},(∀b∈fp,H' b=none)→∀b∈fp,Di (Aj X scope cl T M s3 H3 fp) [] H' b:=fun hn b hb=>by
  refine⟨hn b hb,Nat.ne_of_lt (Nat.lt_of_lt_of_le (fpl b hb) sz3),fun z=>?_,.inl hb,fun x c e=>cfpc b hb x c e,fun p hp=>absurd (show p∈([]:List (Addr×Obj)) from hp) (by simp)⟩
  rcases List.mem_cons.mp (I3.stkSub b z) with e|e
  ·exact(fok b hb).2.1 e
  ·exact(fok b hb).2.2.1 e
 have fin:∀(σ':St) (H':Hp) (s':Shared),Inv (Aj X scope cl T M s3 H3 fp) [] σ' H' s'→D.nx (σ.set i0 (some (.ref s2.heap.objs.size))) H'→compPost (model X.prog X.w) X.A X.xe (some (assign (.Name y0 py) X.env)) (fun _ s'=>SP X pins D .next s') (.ref s2.heap.objs.size) s3.heap.objs.size (.ok .next) s':=fun σ' H' s' J q=>by
  obtain⟨m',hm',_⟩:=J.loc;have J0:Inv X pins σ H' s':=I3.call' (ch:=fp) J.os J.base J.hok J.bare fun b hb=>⟨(fok b hb).2.2.2.1,(fok b hb).2.1,(fok b hb).2.2.2.2.1,(fok b hb).2.2.2.2.2⟩;have nC:=I3.fpOk (H':=H') (Nat.le_refl s3.heap.objs.size) J.free;show wpAny _ X.A (assign (.Name y0 py) X.env (.ref s2.heap.objs.size)) _ _ s';refine wpAny_assign_Name (Fk J0 hN hi0 hy (v:=.ref s2.heap.objs.size) rfl (fun s'' J1 ⟨a,sb,ha⟩=>?_) hfn);have na:s3.heap.objs.size≠a:=by
   rcases ha with z|z
   ·rw[z];exact nC.2.1
   ·exact fun e=>nC.2.2.2.2.1 _ _ z e.symm
  obtain⟨oC,es,ep,hoC,rC⟩:=hm';exact⟨m',⟨oC,es,ep,(sb.2 _ na).trans hoC,rC⟩,fun h' hs'=>⟨_,H',J1.turned (t':=s''.toks) (fun b o hb e=>(hs'.2 b hb).trans e) nC.1 nC.2.1 nC.2.2.2.1 nC.2.2.2.2.1 nC.2.2.2.2.2,q⟩⟩
 have loop:∀s5:Shared,s5={ s3 with heap:=h4 }→
   codeAny (model X.prog X.w) X.A (.compLoop (.ListComp elt [⟨tg,iter,ifs,0⟩] scope pos) 0 (.ref it) (.ref s2.heap.objs.size) (compEnvC scope (Ax scope cl s3.heap.objs.size) s3.heap.objs.size X.env))
    (compPost (model X.prog X.w) X.A X.xe (some (assign (.Name y0 py) X.env)) (fun _ s'=>SP X pins D .next s') (.ref s2.heap.objs.size) s3.heap.objs.size) s5:=by
  rintro s5 rfl;refine Ga (fun k s'=>∃i σ' H',Inv (Aj X scope cl T M s3 H3 fp) [] σ' H' s'∧tn i s'.heap∧(∀b∈fp,H' b=none)∧W i k σ' H') ?_ m0 ⟨0,Ob T σ,H3,I4,st4,fun b hb=>(fok b hb).1,w0⟩;rintro k s6 ⟨i,σ6,H6,I6,st6,fr6,w6⟩;rcases turn i k σ6 H6 w6 with ⟨stop,qn⟩|⟨go,N,hN,step⟩
  ·refine wpAny_mono (Tn.done (Aj X scope cl T M s3 H3 fp) rfl rfl rfl hc i [] s6 _ H6 (fun _ _=>False) I6 (cfp fr6) st6 stop) (fun r s7 ⟨hr,I7⟩=>?_) fun _ _ z=>z.elim;subst hr;exact fin _ H6 s7 I7 qn
  ·refine wpAny_mono (Tn.item (Aj X scope cl T M s3 H3 fp) rfl rfl rfl hc i [] s6 _ H6 (fun _ _=>False) I6 (cfp fr6) st6 go) (fun r s7 ⟨u,hr,h7⟩=>?_) fun _ _ z=>z.elim;subst hr;show Mi _ _ _ _ _ _ _ _ _ _ _ _ _;unfold Mi;refine wpAny_mono h7 (fun _ s8 h8=>?_) fun _ _ z=>z.elim;obtain⟨x7,H7,I7,r7,y7,st7,fr7⟩:=h8;have I7':=I7.pinned (cfp fr7) (Tn.obj _ _ st7);have back:∀{σ8:St} {H8:Hp} {s9:Shared},Inv (Aj X scope cl T M s3 H3 fp) ([]++Cu fp s8.heap) σ8 H8 s9→tn (i+1) s9.heap∧∀b∈fp,H8 b=none:=fun {σ8 H8 s9} I8=>by
    refine⟨Tn.keep _ _ _ st7 fun b hb o e=>(I8.pin (b,o) (List.mem_append_right _ (List.mem_append_right _ (Bk hb e)))).1,fun b hb=>?_⟩;obtain⟨o,e,d⟩:=Tn.obj _ _ st7 b hb;exact(I8.pin (b,o) (List.mem_append_right _ (List.mem_append_right _ (Bk hb e)))).2.1
   have again:∀{σ9:St} {H9:Hp} {s9:Shared},Inv (Aj X scope cl T M s3 H3 fp) ([]++Cu fp s8.heap) σ9 H9 s9→N σ9 H9→
     ∃m,m<k∧∃i σ' H',Inv (Aj X scope cl T M s3 H3 fp) [] σ' H' s9∧tn i s9.heap∧(∀b∈fp,H' b=none)∧W i m σ' H':=fun {σ9 H9 s9} I9 n9=>by
    obtain⟨m',hm,w9⟩:=hN σ9 H9 n9;obtain⟨b1,b2⟩:=back I9;exact⟨m',hm,i+1,σ9,H9,I9.unpinned,b1,b2,w9⟩
   refine wpAny_mono (hg s3 H3 fp _ s8 σ6 H7 x7 u _ I7' r7 (step x7 H7 y7)) (fun _ s9 ⟨σ9,H9,I9,q9⟩=>?_) fun _ _ z=>z.elim;refine wpAny_mono (hf s3 H3 fp _ s9 σ9 H9 _ I9 q9) (fun okb s10 ⟨H10,I10,q10⟩=>?_) fun _ _ z=>z.elim;cases okb with
   |false=>
    rw[if_neg Bool.false_ne_true] at q10 ⊢;exact again I10 q10
   |true=>
    rw[if_pos rfl] at q10 ⊢;refine wpAny_mono (he s3 H3 fp _ s10 σ9 H10 _ I10 q10) (fun y s11 ⟨yv,H11,I11,ry,ys,e11,l11,n11⟩=>?_) fun _ _ z=>z.elim;refine wpAny_mono (Fo (X:=Aj X scope cl T M s3 H3 fp) _ s11 σ9 H11 (.ref s2.heap.objs.size) [yv] (.ref s2.heap.objs.size) [y] (fun _ H12=>N σ9 H12) I11 rfl (.cons ry .nil) ⟨_,ys,yv,rfl,rfl,e11,l11,n11⟩) (fun _ s12 ⟨_,H12,I12,_,n12⟩=>?_) fun _ _ z=>z.elim;exact again I12 n12
 exact codeAny_compStart_list (loop _ rfl) (Tn.self _ 0 _ _ _ st4 (loop _ rfl))


theorem Vu{X:Cx}{i0:Nat}{y0:Str}{py spos:Pos}{kx vx iter tg:Expr}{ifs:List Expr}{scope:Scope}{cl:List (Str×Addr)}{pos:Pos}{wi:TI}{g:TG}{tf:TT}{tk tv:TE}{T M:List Str}(hc:X.calm=true)(ok:CompOz X scope cl T M)(hi:PI X tg iter wi)(hg:∀s H fp,PG (Aj X scope cl T M s H fp) tg g)(hf:∀s H fp,PF (Aj X scope cl T M s H fp) ifs tf)(hk:∀s H fp,PE (Aj X scope cl T M s H fp) kx tk)(hv:∀s H fp,PE (Aj X scope cl T M s H fp) vx tv)(hN:X.N.Nodup)(hi0:X.N[i0]? = some y0)(hy:Loc X.env.scope y0)(hfn:X.fn y0=true∨X.env.scope.names.lookup y0=some .local)(hsw:swapsWith (.DictComp kx vx [⟨tg,iter,ifs,0⟩] scope pos) (some (.Name y0 py)) spos.line X.env=pure true)(hs:∀x,foldedSetIterable iter X.env x=pure x:=by intro _;rfl):PS X (.Assign [.Name y0 py] (.DictComp kx vx [⟨tg,iter,ifs,0⟩] scope pos) spos) (T1 (Qh T.length wi g tf tk tv) (Qd i0)):=by
 intro pins s σ H D I h;have h:(Qh T.length wi g tf tk tv) σ H (fun v H1=>D.nx (σ.set i0 (some v)) H1):=h;rw[exec_Assign_Name_used _ _ _ _ hsw];refine wpAny_bind (wpAny_standAt (wpAny_bind ?_));show wpAny _ X.A (do let _ ←comprehension (.DictComp kx vx [⟨tg,iter,ifs,0⟩] scope pos) scope X.env _ newDict false (eval iter X.env) (some (assign (.Name y0 py) X.env))) _ _ s
 refine wpAny_bind (wpAny_mono (wpAny_comprehension_free (use:=some (assign (.Name y0 py) X.env)) (Q:=fun _ s'=>SP X pins D .next s') (cl:=cl) rfl hs ok.clos ok.kind ok.names (thn (hi pins s σ H _ I h) fun v s1 h1=>thn h1 fun itv s2 h2=>?_)) (fun _ s' hq=>wpAny_pure (wpAny_pure hq)) fun _ _ e=>e);obtain⟨it,fp,tn,J,H2,e,I2,Tn,st2,f2,q⟩:=h2;subst e;have q:=q s2.heap.objs.size (I2.hok.fresh (Nat.le_refl _));refine wpAny_newObj_type ?_
 -- the new list,tracked
 have I3:Inv X pins σ (upd H2 s2.heap.objs.size (.dK [])) { s2 with heap:=s2.heap.push { cls:=.type "dict",data:=.dict #[] } }:=
  I2.laid (t':=s2.toks) (fun b u e=>Heap.get?_push_of_some _ e) (Nat.le_refl _) (Nd _ I2.big)
 generalize hH3:upd H2 s2.heap.objs.size (.dK [])=H3 at I3 q;generalize hs3:({ s2 with heap:=s2.heap.push { cls:=.type "dict",data:=.dict #[] } }:Shared)=s3 at I3;have fpl:∀b∈fp,b<s2.heap.objs.size:=fun b hb=>let ⟨o,e,_⟩:=Tn.obj 0 _ st2 b hb;Heap.lt_size e;have sz3:s2.heap.objs.size≤s3.heap.objs.size:=by rw[←hs3];show _≤(s2.heap.push _).objs.size;rw[Heap.size_push];exact Nat.le_succ _
 have fok:∀b∈fp,Di X pins H3 b:=fun b hb=>⟨by rw[←hH3,Ad (Nat.ne_of_lt (fpl b hb))];exact(f2 b hb).1,(f2 b hb).2⟩
 have k23:∀b o,s2.heap.get? b=some o→s3.heap.get? b=some o:=fun b o e=>by rw[←hs3];exact Heap.get?_push_of_some _ e
 have st3:tn 0 s3.heap:=Tn.keep _ _ _ st2 fun b _ o e=>k23 b o e;refine Hm ok.kind (fun h4 hns4 k34 okc=>?_);have oldc:∀x c,cl.lookup x=some c→c<s3.heap.objs.size:=fun x c e=>by
  obtain⟨v,o,ho,_⟩:=I3.cell x c (ok.sub x c e).1;exact Heap.lt_size ho
 have hc1:=Lc (h':=h4) ok okc oldc;have hc2:=Lb (h':=h4) ok okc oldc;have I4:Inv (Aj X scope cl T M s3 H3 fp) [] (Ob T σ) H3 { s3 with heap:=h4 }:=
  Fu ok I3 (fun b hb=>⟨fok b hb,Nat.lt_of_lt_of_le (fpl b hb) sz3⟩) hns4 k34 rfl rfl hc1 hc2
 have st4:tn 0 h4:=Tn.keep _ _ _ st3 fun b _ o e=>k34 b o e;obtain⟨W,⟨m0,w0⟩,turn⟩:=q;have cfpc:∀b∈fp,∀x c,(Ax scope cl s3.heap.objs.size).lookup x=some c→c≠b:=fun b hb x c e=>by
  rcases B3 ok s3.heap.objs.size x c e with ⟨_,a2⟩|⟨a1,_⟩
  ·exact Nat.ne_of_gt (Nat.lt_of_lt_of_le (Nat.lt_of_lt_of_le (fpl b hb) sz3) (Nat.le_of_succ_le a2))
  ·exact(fok b hb).2.2.2.2.1 x c (ok.sub x c a1).1
 have cfp:∀{H':Hp},(∀b∈fp,H' b=none)→∀b∈fp,Di (Aj X scope cl T M s3 H3 fp) [] H' b:=fun hn b hb=>by
  refine⟨hn b hb,Nat.ne_of_lt (Nat.lt_of_lt_of_le (fpl b hb) sz3),fun z=>?_,.inl hb,fun x c e=>cfpc b hb x c e,fun p hp=>absurd (show p∈([]:List (Addr×Obj)) from hp) (by simp)⟩
  rcases List.mem_cons.mp (I3.stkSub b z) with e|e
  ·exact(fok b hb).2.1 e
  ·exact(fok b hb).2.2.1 e
 have fin:∀(σ':St) (H':Hp) (s':Shared),Inv (Aj X scope cl T M s3 H3 fp) [] σ' H' s'→D.nx (σ.set i0 (some (.ref s2.heap.objs.size))) H'→compPost (model X.prog X.w) X.A X.xe (some (assign (.Name y0 py) X.env)) (fun _ s'=>SP X pins D .next s') (.ref s2.heap.objs.size) s3.heap.objs.size (.ok .next) s':=fun σ' H' s' J q=>by
  obtain⟨m',hm',_⟩:=J.loc;have J0:Inv X pins σ H' s':=I3.call' (ch:=fp) J.os J.base J.hok J.bare fun b hb=>⟨(fok b hb).2.2.2.1,(fok b hb).2.1,(fok b hb).2.2.2.2.1,(fok b hb).2.2.2.2.2⟩;have nC:=I3.fpOk (H':=H') (Nat.le_refl s3.heap.objs.size) J.free;show wpAny _ X.A (assign (.Name y0 py) X.env (.ref s2.heap.objs.size)) _ _ s';refine wpAny_assign_Name (Fk J0 hN hi0 hy (v:=.ref s2.heap.objs.size) rfl (fun s'' J1 ⟨a,sb,ha⟩=>?_) hfn);have na:s3.heap.objs.size≠a:=by
   rcases ha with z|z
   ·rw[z];exact nC.2.1
   ·exact fun e=>nC.2.2.2.2.1 _ _ z e.symm
  obtain⟨oC,es,ep,hoC,rC⟩:=hm';exact⟨m',⟨oC,es,ep,(sb.2 _ na).trans hoC,rC⟩,fun h' hs'=>⟨_,H',J1.turned (t':=s''.toks) (fun b o hb e=>(hs'.2 b hb).trans e) nC.1 nC.2.1 nC.2.2.2.1 nC.2.2.2.2.1 nC.2.2.2.2.2,q⟩⟩
 have loop:∀s5:Shared,s5={ s3 with heap:=h4 }→
   codeAny (model X.prog X.w) X.A (.compLoop (.DictComp kx vx [⟨tg,iter,ifs,0⟩] scope pos) 0 (.ref it) (.ref s2.heap.objs.size) (compEnvC scope (Ax scope cl s3.heap.objs.size) s3.heap.objs.size X.env))
    (compPost (model X.prog X.w) X.A X.xe (some (assign (.Name y0 py) X.env)) (fun _ s'=>SP X pins D .next s') (.ref s2.heap.objs.size) s3.heap.objs.size) s5:=by
  rintro s5 rfl;refine Nt (fun k s'=>∃i σ' H',Inv (Aj X scope cl T M s3 H3 fp) [] σ' H' s'∧tn i s'.heap∧(∀b∈fp,H' b=none)∧W i k σ' H') ?_ m0 ⟨0,Ob T σ,H3,I4,st4,fun b hb=>(fok b hb).1,w0⟩;rintro k s6 ⟨i,σ6,H6,I6,st6,fr6,w6⟩;rcases turn i k σ6 H6 w6 with ⟨stop,qn⟩|⟨go,N,hN,step⟩
  ·refine wpAny_mono (Tn.done (Aj X scope cl T M s3 H3 fp) rfl rfl rfl hc i [] s6 _ H6 (fun _ _=>False) I6 (cfp fr6) st6 stop) (fun r s7 ⟨hr,I7⟩=>?_) fun _ _ z=>z.elim;subst hr;exact fin _ H6 s7 I7 qn
  ·refine wpAny_mono (Tn.item (Aj X scope cl T M s3 H3 fp) rfl rfl rfl hc i [] s6 _ H6 (fun _ _=>False) I6 (cfp fr6) st6 go) (fun r s7 ⟨u,hr,h7⟩=>?_) fun _ _ z=>z.elim;subst hr;show Uf _ _ _ _ _ _ _ _ _ _ _ _ _ _;unfold Uf;refine wpAny_mono h7 (fun _ s8 h8=>?_) fun _ _ z=>z.elim;obtain⟨x7,H7,I7,r7,y7,st7,fr7⟩:=h8;have I7':=I7.pinned (cfp fr7) (Tn.obj _ _ st7);have back:∀{σ8:St} {H8:Hp} {s9:Shared},Inv (Aj X scope cl T M s3 H3 fp) ([]++Cu fp s8.heap) σ8 H8 s9→tn (i+1) s9.heap∧∀b∈fp,H8 b=none:=fun {σ8 H8 s9} I8=>by
    refine⟨Tn.keep _ _ _ st7 fun b hb o e=>(I8.pin (b,o) (List.mem_append_right _ (List.mem_append_right _ (Bk hb e)))).1,fun b hb=>?_⟩;obtain⟨o,e,d⟩:=Tn.obj _ _ st7 b hb;exact(I8.pin (b,o) (List.mem_append_right _ (List.mem_append_right _ (Bk hb e)))).2.1
   have again:∀{σ9:St} {H9:Hp} {s9:Shared},Inv (Aj X scope cl T M s3 H3 fp) ([]++Cu fp s8.heap) σ9 H9 s9→N σ9 H9→
     ∃m,m<k∧∃i σ' H',Inv (Aj X scope cl T M s3 H3 fp) [] σ' H' s9∧tn i s9.heap∧(∀b∈fp,H' b=none)∧W i m σ' H':=fun {σ9 H9 s9} I9 n9=>by
    obtain⟨m',hm,w9⟩:=hN σ9 H9 n9;obtain⟨b1,b2⟩:=back I9;exact⟨m',hm,i+1,σ9,H9,I9.unpinned,b1,b2,w9⟩
   refine wpAny_mono (hg s3 H3 fp _ s8 σ6 H7 x7 u _ I7' r7 (step x7 H7 y7)) (fun _ s9 ⟨σ9,H9,I9,q9⟩=>?_) fun _ _ z=>z.elim;refine wpAny_mono (hf s3 H3 fp _ s9 σ9 H9 _ I9 q9) (fun okb s10 ⟨H10,I10,q10⟩=>?_) fun _ _ z=>z.elim;cases okb with
   |false=>
    rw[if_neg Bool.false_ne_true] at q10 ⊢;exact again I10 q10
   |true=>
    rw[if_pos rfl] at q10 ⊢;refine wpAny_mono (hk s3 H3 fp _ s10 σ9 H10 _ I10 q10) (fun y s11 ⟨yv,H11,I11,ry,q11⟩=>?_) fun _ _ z=>z.elim;refine wpAny_mono (hv s3 H3 fp _ s11 σ9 H11 _ I11 q11) (fun z s12 ⟨zv,H12,I12,rz,kvs,k,ek,e12,l12,n12⟩=>?_) fun _ _ z=>z.elim;subst ek;exact Tc (X:=Aj X scope cl T M s3 H3 fp) I12 e12 l12 ry rz fun s13 I13=>again I13 n12
 exact codeAny_compStart_dict (loop _ rfl) (Tn.self _ 0 _ _ _ st4 (loop _ rfl))


theorem Oj{K:W.Frag}{t:DTE}{i:Nat}{E:Ends}{σ:St}{H:Hp}(h:F3 K (Md t (F2 i)) E σ H):Bp K t σ H fun v H1=>E.nx (σ.set i (some v)) H1:=by
 obtain⟨σD,G,D,rs,rg,h,cl⟩:=h;exact⟨σD,G,fun x G1=>D.nx (σD.set i (some x)) G1,rs,rg,h,fun d G' q H' x' rg' v dv=>cl.nx _ _ q _ x' rg' _ ((rs.ext x').set dv i)⟩
section
variable{X:Cx}{elt iter tg kx vx:Expr}{ifs:List Expr}{scope:Scope}{pos:Pos}{ti te tk tv:DTE}{tf:DTT}{g:DTG}{T M:List Str}
theorem Vk{i0:Nat}{y0:Str}{py spos:Pos}(hc:X.calm=true)(ok:CompOz X scope (Br X.env.cells scope.names []) T M)(hi:QE X iter ti)(hg:QGz X scope T M tg g)(hf:QFz X scope T M ifs tf)(he:QEz X scope T M elt te)(hN:X.N.Nodup)(hsw:swapsWith (.ListComp elt [⟨tg,iter,ifs,0⟩] scope pos) (some (.Name y0 py)) spos.line X.env=pure true)(hi0:X.N[i0]? = some y0:=by rfl)(hy:Loc X.env.scope y0:=by first|exact .inl rfl|exact .inr rfl)(hfn:X.fn y0=true∨X.env.scope.names.lookup y0=some .local:=by first|exact .inl rfl|exact .inr rfl)(hs:∀x,foldedSetIterable iter X.env x=pure x:=by intro _;rfl):QS X (.Assign [.Name y0 py] (.ListComp elt [⟨tg,iter,ifs,0⟩] scope pos) spos) (Md (Ov T.length ti g tf te) (F2 i0)):=
 (Qq (g:=Em X.K g) (tf:=D5 X.K tf) (te:=Bp X.K te) hc ok (Kp hi) hg hf he hN hi0 hy hfn hsw hs).imp fun E0 σ H h0=>by
 obtain⟨σD,G,Q',rs,rg,h,cl⟩:=Oj h0;refine⟨σD,G,_,rs,rg,h,fun d G1 zz H1 x1 rg1 v dv=>?_⟩;obtain⟨ds,ei,L⟩:=zz;obtain⟨a,rfl⟩:=E3 ei dv;refine⟨a,rfl,?_⟩;have lp:=fun p hp=>Dt (J:=jOf X.K d a) (rs.ext x1) rg1 hp (fun d' G' q=>(cl d' G' q).go x1) (fun H' G' x' rg' s'=>D0 (Dq rg' s' (dv.ext x'))) (L p (rg1.free hp));cases dv with
 |tup e r=>exact .inr ⟨⟨_,.inl (.inl e)⟩,lp⟩
 |lint e=>exact .inl ⟨⟨_,e.sq⟩,lp⟩
 |ref=>
  simp only[A3] at ei
  split at ei
  ·rename_i ds' q;obtain⟨xs,e,r⟩:=rg1 a _ q;exact .inl ⟨⟨_,.inl (.inl e)⟩,lp⟩
  ·cases ei

theorem R4{i0:Nat}{y0:Str}{py spos:Pos}{a:Expr}{tA:DTA}{p p2:Pos}(hc:X.calm=true)(ok:CompOz X scope (Br X.env.cells scope.names []) T M)(hm:X.mg "range" = none)(ha:QA X [a] tA)(hg:QGz X scope T M tg g)(hf:QFz X scope T M ifs tf)(he:QEz X scope T M elt te)(hN:X.N.Nodup)(hsw:swapsWith (.ListComp elt [⟨tg,.Call (.Name "range" p) [a] [] p2,ifs,0⟩] scope pos) (some (.Name y0 py)) spos.line X.env=pure true)(hi0:X.N[i0]? = some y0:=by rfl)(hy:Loc X.env.scope y0:=by first|exact .inl rfl|exact .inr rfl)(hfn:X.fn y0=true∨X.env.scope.names.lookup y0=some .local:=by first|exact .inl rfl|exact .inr rfl)(hgl:Gl X "range":=by rfl)(hst:starEach [a] X.env=[(false,eval a X.env)]:=by rfl)(hs:∀x,foldedSetIterable (.Call (.Name "range" p) [a] [] p2) X.env x=pure x:=by intro _;rfl):QS X (.Assign [.Name y0 py] (.ListComp elt [⟨tg,.Call (.Name "range" p) [a] [] p2,ifs,0⟩] scope pos) spos) (Md (Q1 T.length tA g tf te) (F2 i0)):=
 (Qq (g:=Em X.K g) (tf:=D5 X.K tf) (te:=Bp X.K te) hc ok (Jl hgl hm ha hst) hg hf he hN hi0 hy hfn hsw hs).imp fun E0 σ H h0=>by
 obtain⟨σD,G,Q',rs,rg,h,cl⟩:=Oj h0;refine⟨σD,G,_,rs,rg,h,fun ds G1 zz H1 x1 rg1 vs dv=>?_⟩;obtain⟨j,ej,⟨j1,j2⟩,L⟩:=zz;subst ej;obtain⟨v,rfl,r⟩:=dv.one;cases r;refine⟨j,rfl,j1,j2,fun p hp=>Dt (J:=Itr 0 j.toNat) (rs.ext x1) rg1 hp (fun d' G' q=>(cl d' G' q).go x1) (fun H' G' x' rg' _=>D0 (G:=G') ?_) (L p (rg1.free hp))⟩;refine⟨fun i hi=>by rw[Bq] at hi;exact hi,fun i x H2 hi y=>?_,by show j.toNat≤_;rw[Bq];exact Nat.le_refl _⟩
 rw[Bq] at hi;obtain⟨e1,e2⟩:=y;refine⟨e1,_,Eu hi,?_⟩;rw[e2,Int.zero_add];exact .int _

theorem Vj{i0:Nat}{y0:Str}{py spos:Pos}(hc:X.calm=true)(ok:CompOz X scope (Br X.env.cells scope.names []) T M)(hi:QE X iter ti)(hg:QGz X scope T M tg g)(hf:QFz X scope T M ifs tf)(hk:QEz X scope T M kx tk)(hv:QEz X scope T M vx tv)(hN:X.N.Nodup)(hsw:swapsWith (.DictComp kx vx [⟨tg,iter,ifs,0⟩] scope pos) (some (.Name y0 py)) spos.line X.env=pure true)(hi0:X.N[i0]? = some y0:=by rfl)(hy:Loc X.env.scope y0:=by first|exact .inl rfl|exact .inr rfl)(hfn:X.fn y0=true∨X.env.scope.names.lookup y0=some .local:=by first|exact .inl rfl|exact .inr rfl)(hs:∀x,foldedSetIterable iter X.env x=pure x:=by intro _;rfl):QS X (.Assign [.Name y0 py] (.DictComp kx vx [⟨tg,iter,ifs,0⟩] scope pos) spos) (Md (Uw T.length ti g tf tk tv) (F2 i0)):=
 (Vu (g:=Em X.K g) (tf:=D5 X.K tf) (tk:=Bp X.K tk) (tv:=Bp X.K tv) hc ok (Kp hi) hg hf hk hv hN hi0 hy hfn hsw hs).imp fun E0 σ H h0=>by
 obtain⟨σD,G,Q',rs,rg,h,cl⟩:=Oj h0;refine⟨σD,G,_,rs,rg,h,fun d G1 zz H1 x1 rg1 v dv=>?_⟩;obtain⟨ds,ei,L⟩:=zz;obtain⟨a,rfl⟩:=E3 ei dv;refine⟨a,rfl,?_⟩;have lp:=fun p hp=>Pm (J:=jOf X.K d a) (rs.ext x1) rg1 hp (fun d' G' q=>(cl d' G' q).go x1) (fun H' G' x' rg' s'=>D0 (Dq rg' s' (dv.ext x'))) (L p (rg1.free hp));cases dv with
 |tup e r=>exact .inr ⟨⟨_,.inl (.inl e)⟩,lp⟩
 |lint e=>exact .inl ⟨⟨_,e.sq⟩,lp⟩
 |ref=>
  simp only[A3] at ei
  split at ei
  ·rename_i ds' q;obtain⟨xs,e,r⟩:=rg1 a _ q;exact .inl ⟨⟨_,.inl (.inl e)⟩,lp⟩
  ·cases ei
end
section
variable{X:Cx}{e:Expr}{te:DTE}{pos:Pos}
end
section
variable{X:Cx}{e:Expr}{ta:DTE}
end
section
variable{X:Cx}{a b:Expr}{ta:TA}{tA:DTA}{p p0 pos pos0:Pos}
end
section
variable{P:Program}{w:World}{A:Around}{R:Result→Shared→Prop}{it S:Addr}{fp wr:List Addr}{n:Nat}{V:Nat→Value→Prop}{st:Nat→Heap→Prop}{bt:Nat→Nat→Bool}{kw:List (Str×Value)}
end
section
variable{P:Program}{w:World}{A:Around}{E:Value→Shared→Prop}{s:Shared}
end
section
variable{X:Cx}{e:Expr}{p pos:Pos}
end
section
variable{X:Cx}{elt iter tg:Expr}{ifs:List Expr}{scope:Scope}{pos:Pos}{ti te:DTE}{tf:DTT}{g:DTG}{T M:List Str}
end
section
variable{X:Cx}{elt iter tg kx vx:Expr}{ifs:List Expr}{scope:Scope}{pos:Pos}{ti te tk tv:DTE}{tf:DTT}{g:DTG}{T M:List Str}
end
section
variable{X:Cx}
end
section
end
section
variable{X:Cx}
end
end D3
namespace D3
open PySem PySem.Spec PyProof.Rows L2
section
variable{X:Cx}{pos:Pos}
theorem q_v1{i:Nat}{x:Str}(h:X.N[i]? = some x∧X.env.scope.names.lookup x=some .local∧(x == ("__debug__" : Str))=false∧(x == ("__classdict__" : Str))=false):QE X (.Name x pos) (Xj i):=Aaj h.1 (.inl h.2.1) h.2.2.1 h.2.2.2
theorem q_v2{i:Nat}{x:Str}(h:X.N[i]? = some x∧X.env.scope.names.lookup x=some .cell∧(x == ("__debug__" : Str))=false∧(x == ("__classdict__" : Str))=false):QE X (.Name x pos) (Xj i):=Aaj h.1 (.inr (.inl h.2.1)) h.2.2.1 h.2.2.2
end
end D3
namespace D3
open PySem PySem.Spec
open PyProof.Rows hiding St
open L2 hiding St
noncomputable def CX1(P:Program)(w:World):CXT:=fun outer H s E e s'=>∃(a C t:Addr) (H':Hp) (B:Heap),e=.ref a∧s'.os=s.os∧AllBare s'.gens∧Un (frs outer) [] H H' s.heap s'.heap∧HOk P w H' s'.heap∧
 Heap.FlyingW B outer a (.ref C) (.ref t) s'.heap∧(∀b o,s.heap.get? b=some o→b ∉ frs outer→(H b=none→B.get? b=some o)∧∃o',B.get? b=some o')∧
 (∀b u,H' b=some u→∀o,s'.heap.get? b=some o→B.get? b=some o)∧H' a=none∧E (.ref C) none H'
section
variable{X:Cx}{pins:List (Addr×Obj)}{σ:List (Option V)}{H:Hp}{s s':Shared}{E XE:XK}{e:Value}{E':Value→Shared→Prop}
end
section
variable{P:Program}{w:World}{K:W.Frag}{mg:Str→Option Value}{base:Heap}{N:List Str}{qual:Str}{scope:Scope}{f:Addr}{cd:Value}{A:Around}{outer:List Env}{s:Shared}{H:Hp}{XE:XK}{E:DX}
end
noncomputable abbrev vErr:List Value:=[.type "ValueError",.type "Exception",.type "BaseException",.type "object"]
structure ExcK(K:W.Frag)(x:Str)(C:Addr):Prop where
 nm:W.nsIn K mainGlobals x=some (some (.ref C))
 ok:W.excIn K C vErr "ValueError.__new__" = true
theorem ExcK.own{K:W.Frag}{g:Heap}{mg:Str→Option Value}{x:Str}{C:Addr}(X:K.In g)(G:g.Ns mainGlobals mg)(z:ExcK K x C):OwnCls x C vErr "ValueError.__new__" mg g:=by
 refine⟨W.mg_of X G z.nm,?_⟩;have r:=z.ok;unfold W.excIn at r
 split at r
 case h_2=>cases r
 case h_1 dct cls sl0 at_=>
  split at r
  case h_2=>cases r
  case h_1 C' tl a0 a1 a2 a3 nid a5 e1 e2=>
   simp only[Bool.and_eq_true,beq_iff_eq,Bool.not_eq_true'] at r;obtain⟨⟨⟨⟨⟨r1,r2⟩,r3⟩,r4⟩,r5⟩,r6⟩:=r;subst r1 r2;obtain⟨b1,b2,b3,b4,b5,b6,b7,b8,b9,b10,b11⟩:=cls;dsimp only at e1 r3 r5 r6;subst e1 r3;have e3:sl0=#[a0,a1,a2,a3,some (.builtin "ValueError.__new__"),a5]:=by
    cases sl0 with
    |mk l=>exact congrArg Array.mk e2
   subst e3;exact⟨tl,b4,b1,b5,b2,b6,b7,b8,b9,b10,dct,a0,a1,a2,a3,a5,_,X _ _ at_,.of_isNs (W.isNs_of_in X r5),W.nsMap_none_of_in X r5 r6,W.tail_of_in X r4⟩
section
variable{X:Cx}{x:Str}{C:Addr}{np cpos pos:Pos}{e:Expr}
end
section
variable{P:Program}{w:World}{K:W.Frag}{mg:Str→Option Value}{base:Heap}{N:List Str}{qual:Str}{scope:Scope}{f:Addr}{cd:Value}{A:Around}{outer:List Env}{s:Shared}{H:Hp}{XE:XK}{E:DX}{x:Str}{C:Addr}{np cpos pos:Pos}{e:Expr}{tA:DTA}
end
section
variable{P:Program}{w:World}{K:W.Frag}{mg:Str→Option Value}{base:Heap}
end
noncomputable def Mh(CX:CXT)(P:Program)(w:World)(K:W.Frag)(mg:Str→Option Value)(base:Heap)(N:List Str)(q:Str)(scope:Scope)(f:Addr)(cd:Value)(clos:List (Str×Addr))(A:Around)(outer:List Env)(s:Shared)(H:Hp)(E:XK):Cx where
 prog:=P
 w:=w
 K:=K
 mg:=mg
 base:=base
 A:=A.deeper (W.envX q scope s.heap.objs.size f cd clos)
 N:=N
 s₀:=s
 H₀:=H
 env:=W.envX q scope s.heap.objs.size f cd clos
 outer:=outer
 stack:=W.envX q scope s.heap.objs.size f cd clos::outer
 ex:=[]
 calm:=true
 fn:=fun _=>false
 pn:=[]
 xe:=fun e s'=>wpAny (model P w) (A.deeper (W.envX q scope s.heap.objs.size f cd clos)) (leaving (W.envX q scope s.heap.objs.size f cd clos) e) (fun _ s''=>CX outer H s E e s'') (fun e' s''=>CX outer H s E e' s'') s'
structure LamScope(scope:Scope):Prop where
 kind:scope.kind=.function
 co:scope.isCoroutine=false
 gen:scope.isGenerator=false
 cell:∀y∈scope.names,y.2≠.cell
section
variable{P:Program}{w:World}{K:W.Frag}{mg:Str→Option Value}{base:Heap}{N:List Str}{q:Str}{scope:Scope}{f c:Addr}{clos:List (Str×Addr)}{A:Around}{outer:List Env}{s:Shared}{H:Hp}{E:XK}{k:Nat}{σ:L2.St}{Q:VK}{t:TE}{params:Arguments}{body:Expr}{pm ctv:Value}
end
noncomputable def mroK(K:W.Frag)(C:Addr):Option (List Value):=match K.lookup C with
 |some ⟨_,_,.cls cd,_⟩=>some cd.mro
 |_=>none
noncomputable def ClsAt(g:Heap)(C:Addr)(tl:List Value):Prop:=∃N nm q bs hdct sn sub ab col dd k0 k1 k2 k3 k5 mN,g.get? C=some (excClassObj nm q C N bs tl hdct sn sub ab col dd k0 k1 k2 k3 k5 "ValueError.__new__")∧g.Ns N mN∧mN "__init__" = none∧OwnTail g vErr tl
theorem ExcK.cls{K:W.Frag}{g:Heap}{mg:Str→Option Value}{x:Str}{C:Addr}{tl:List Value}(X:K.In g)(G:g.Ns mainGlobals mg)(z:ExcK K x C)(hm:mroK K C=some (.ref C::tl)):ClsAt g C tl:=by
 obtain⟨tl',N,nm,q,bs,hdct,sn,sub,ab,col,dd,k0,k1,k2,k3,k5,mN,hC,hN,hi,T⟩:=(z.own X G).obj;have e:tl'=tl:=by
  unfold mroK at hm
  split at hm
  ·rename_i a b cd c ho
   have:=X _ _ ho
   rw[hC] at this;cases this;injection hm with hm;injection hm
  ·cases hm
 subst e;exact⟨N,nm,q,bs,hdct,sn,sub,ab,col,dd,k0,k1,k2,k3,k5,mN,hC,hN,hi,T⟩
section
variable{X:Cx}{pins:List (Addr×Obj)}{σ:List (Option V)}{H:Hp}{s:Shared}
end
section
variable{X:Cx}{E:XK}{M:Addr}{mn n:Str}{i:Nat}{body suite:List Stmt}{b0:Stmt}{np hpos pos:Pos}{tb ts:TS}{tm:List Value}
end
end D3
namespace L2
open PySem PySem.Spec PyProof.Rows
section
variable{X:Cx}{CX:CXT}{k:Nat}{f C:Addr}{fd:FuncData}{ps:List Str}{sp:Sp}{dvs:List V}{ds:List Value}{E:XK}{x m:Str}{p pos apos:Pos}{e o:Expr}{es:List Expr}{ta:TE}{t:TA}
end
end L2
namespace D3
open PySem PySem.Spec
open PyProof.Rows hiding St
open L2 hiding St
section
variable{X:Cx}{E:XK}{f c:Addr}{q:Str}{params:Arguments}{body:Expr}{scope:Scope}{clos:List (Str×Addr)}{pm ctv:Value}{N:List Str}{σ3:L2.St}{k i:Nat}{x:Str}{p pos:Pos}{t3:TE}
end
section
variable{X:Cx}{CX:CXT}{k:Nat}{f:Addr}{fd:FuncData}{ps:List Str}{sp:List Env→Shared→Sp}{E:XK}{x:Str}{p pos:Pos}{e:Expr}{es:List Expr}{t:TA}
end
section
variable{P:Program}{w:World}{K:W.Frag}{mg:Str→Option Value}{base:Heap}
end
section
variable{X:Cx}
end
section
variable{P:Program}{w:World}{A:Around}{E:Value→Shared→Prop}{K:W.Frag}{C a:Addr}{s:Shared}
end
section
variable{X:Cx}
end
section
variable{X:Cx}{e:Expr}{ta:DTE}
end
section
variable{P:Program}{w:World}{K:W.Frag}{mg:Str→Option Value}{base:Heap}
end
section
variable{P:Program}{w:World}{A:Around}{E:Value→Shared→Prop}{s:Shared}{t:Addr}{items:Array Value}
end
noncomputable def IsRv(h:Heap)(a t:Addr)(i:Int):Prop:=∃o,h.get? a=some o∧o.cls=.type "reversed"∧o.data=.fields #[.ref t,rawInt i]
section
variable{P:Program}{w:World}{A:Around}{E:Value→Shared→Prop}{s:Shared}{a t:Addr}{items:Array Value}
theorem IsRv.at{h h':Heap}{i:Int}(x:IsRv h a t i)(k:∀o,h.get? a=some o→h'.get? a=some o):IsRv h' a t i:=let ⟨o,ho,hc⟩:=x;⟨o,k o ho,hc⟩
end
section
variable{X:Cx}{tg e:Expr}
end
section
variable{X:Cx}{a:Expr}{body:List Stmt}{pos:Pos}
end
end D3
namespace D3
open PySem PySem.Spec
open PyProof.Rows hiding St
open L2 hiding St
open PySem.W (kdl_call kdl_dict)
section
variable{P:Program}{w:World}{A:Around}{E:Value→Shared→Prop}{s:Shared}
end
theorem Us{α β:Type}{F:α→β→Prop}:∀{l:List α} {m:List β},l.length=m.length→(∀(i:Nat) a b,l[i]? = some a→m[i]? = some b→F a b)→Paired F l m
 |[],[],_,_=>.nil
 |[],_::_,h,_=>by cases h
 |_::_,[],h,_=>by cases h
 |_::_,_::_,h,k=>.cons (k 0 _ _ rfl rfl) (Us (by simpa using h) fun i a b h1 h2=>k (i+1) a b h1 h2)
theorem Aa8{κ:Type}:∀{kvs:List (κ×V)} {vs:List (κ×Value)} (i:Nat) {q:κ×Value},KV kvs vs→vs[i]? = some q→∃p,kvs[i]? = some p∧p.1=q.1∧RelV p.2 q.2
 |_,_,0,_,.cons h _,e=>by cases e;exact⟨_,rfl,h⟩
 |_,_,i+1,_,.cons _ t,e=>Aa8 i t e
 |_,_,0,_,.nil,e=>by cases e
 |_,_,_+1,_,.nil,e=>by cases e
section
variable{X:Cx}{o e:Expr}{to:DTE}{apos cpos pos p:Pos}
theorem M9{K:W.Frag}{H:Hp}:∀{kvs:List (Key×D)} {ks:List (Key×V)},Paired (fun(p:Key×D) (q:Key×V)=>p.1=q.1∧DV K H p.2 q.2) kvs ks→∀{H':Hp},DVs K H' (kvs.map fun p=>kD p.1) (ks.map fun p=>kV p.1)
 |_,_,.nil,_=>.nil
 |(k,d)::_,(k',v)::_,.cons h t,_=>by
  have e:k=k':=h.1;subst e;refine .cons ?_ (M9 t);cases k with
  |inl i=>exact .int i
  |inr x=>exact .str x
theorem Pn(hc:X.calm=true):CallR X (.type "list") (fun xs H Q=>∃(a:Addr) (kvs:List (Key×V)),xs=[.ref a]∧H a=some (.dK kvs)∧∀l,H l=none→Q (.ref l) (upd H l (.lst (kvs.map fun p=>kV p.1)))):=by
 intro pins s σ H xs us Q I r h;obtain⟨a,kvs,rfl,ha,q⟩:=h;obtain⟨u,rfl,rx⟩:=Ek r;cases rx;obtain⟨hz,hd,vs,rel,dd⟩:=D6 I.hok ha;obtain⟨ep,hat⟩:=dd.dictAt;have hl:kvs.length=vs.length:=Paired.length rel;refine kdl_call (kdl_dict (knd:=Al X.prog X.w) (kvs:=vs) (ep:=ep) hd) (I.ok.hd hc) hat (by omega) fun h' tk acc c hk hS hI=>?_
 have rv:Vals (kvs.map fun p=>kV p.1) acc.toList:=by
  refine Us (by have:=hI.1;simp only[List.length_map,Array.length_toList];omega) fun i x y e1 e2=>?_
  obtain⟨k,z,h1,h2⟩:=hI.2 i y (by rw[←Array.getElem?_toList];exact e2)
  obtain⟨p,h3,h4,_⟩:=Aa8 i rel h1;rw[List.getElem?_map,h3] at e1;cases e1;dsimp only at h4 ⊢;rw[h4];rcases Az h2 with ⟨j,t,rfl,rfl⟩|⟨j,t,rfl,rfl⟩
  ·exact⟨t,rfl⟩
  ·exact⟨t,rfl⟩
 refine⟨.ref s.heap.objs.size,_,I.laid (t':=tk) hk (Nat.le_refl _) (show ObjOk X.prog X.w _ h' _ (.lst (kvs.map fun p=>kV p.1)) from⟨by rw[List.length_map];exact hz,acc.toList,c,rv,by simpa using hS⟩),rfl,q _ (I.hok.fresh (Nat.le_refl _))⟩
theorem Z0(hc:X.calm=true):QC X (.type "list") (fun ds G Q=>∃d,ds=[d]∧∃p,d=.ref p∧∃kvs,G p=some (.dkk kvs)∧∀l,G l=none→Q (.ref l) (Ab G l (.lst (kvs.map fun q=>kD q.1)))):=(Pn hc).imp fun xs H Q zz=>by
 obtain⟨ds,G,Q',dv,rg,⟨d,e,p,ep,kvs,eg,q⟩,cl⟩:=zz;subst e ep;obtain⟨v,rfl,h⟩:=dv.one;cases h;obtain⟨ks,ek,r⟩:=rg p _ eg;exact⟨p,ks,rfl,ek,fun l hl=>cl _ _ (q l (rg.free hl)) _ (Ext.fresh hl) (rg.new hl ⟨_,Ah,M9 r⟩) _ (.ref l)⟩
end
end D3
namespace D3
open PySem PySem.Spec
open PyProof.Rows
noncomputable def Ro(P:Program)(w:World)(A:Around)(E:Value→Shared→Prop)(s:Shared)(kd:SortKind)(ok:Keyed→Prop)(rk:Keyed→Int):Prop:=
 ∀(x y:Keyed) (st:SortSt) (Q:Option Bool→SortSt→Prop),kindOf st=kd→ok x→ok y→Q (some (decide (rk x<rk y))) st→wpS (model P w) A E s (lt' x y) Q st
noncomputable def A2(rk:Keyed→Int)(arr:Array Keyed)(i:Nat):Int:=rk (arr.getD i (.none,.none))
section
variable{P:Program}{w:World}{A:Around}{E:Value→Shared→Prop}{s:Shared}{kd:SortKind}{ok:Keyed→Prop}{rk:Keyed→Int}
theorem M7{arr:Array Keyed}{i:Nat}{st:SortSt}{Q:Keyed→SortSt→Prop}(h:i<arr.size)(q:Q (arr.getD i (.none,.none)) st):wpS (model P w) A E s (elem' arr i) Q st:=by
 have e:arr[i]? = some (arr.getD i (.none,.none)):=by simp[h]
 rw[elem'_eq,e];exact wpS_pure q
theorem Aao{arr:Array Keyed}{i:Nat}(h:i<arr.size)(okA:∀x∈arr,ok x):ok (arr.getD i (.none,.none)):=by
 have e:arr.getD i (.none,.none)=arr[i]:=by simp[h]
 rw[e];exact okA _ (Array.getElem_mem h)
end
end D3
namespace D3
section
variable{α:Type}{rk:α→Int}
noncomputable def Up(rk:α→Int)(l:List α):Prop:=l.Pairwise fun x y=>rk x≤rk y
noncomputable def Merged(rk:α→Int)(la lb res:List α):Prop:=res.Perm (la++lb)∧Up rk res
theorem Xs{l:List α}(u:Up (fun x=>- rk x) l):Up rk l.reverse:=by
 rw[Up,List.pairwise_reverse];exact u.imp fun {a b} h=>by have h : - rk a≤- rk b:=h;omega
theorem Merged.back{la lb res:List α}(h:Merged (fun x=>- rk x) la.reverse lb.reverse res):Merged rk la lb res.reverse:=by
 refine⟨?_,Xs h.2⟩
 have:=h.1
 rw[←List.reverse_append] at this;exact(List.reverse_perm res).trans (this.trans ((List.reverse_perm _).trans List.perm_append_comm))
end
end D3
namespace D3
open PySem PySem.Spec
open PyProof.Rows
section
variable{rk:Keyed→Int}{a b out:Array Keyed}{ia ib k:Nat}
theorem Ui{a:Array Keyed}{i:Nat}(h:i<a.size):A2 rk a i=rk (a.toList[i]'(by simpa using h)):=by
 unfold A2;simp[h]
end
structure Like(st st':SortSt):Prop where
 kind:kindOf st'=kindOf st
 arr:arrOf st'=arrOf st
 pend:pendingOf st'=pendingOf st
 failed:failedOf st'=failedOf st
theorem Like.trans{st st' st'':SortSt}(h:Like st st')(h2:Like st' st''):Like st st'':=⟨h2.kind.trans h.kind,h2.arr.trans h.arr,h2.pend.trans h.pend,h2.failed.trans h.failed⟩
section
variable{P:Program}{w:World}{A:Around}{E:Value→Shared→Prop}{s:Shared}{kd:SortKind}{ok:Keyed→Prop}{rk:Keyed→Int}
theorem Ea{M:Model}{α:Type}{c:Prop}[Decidable c]{x y:StateT SortSt Sem α}{Q:α→SortSt→Prop}{st:SortSt}(h1:c→wpS M A E s x Q st)(h2:¬c→wpS M A E s y Q st):wpS M A E s (if c then x else y) Q st:=by
 by_cases z:c
 ·rw[if_pos z];exact h1 z
 ·rw[if_neg z];exact h2 z
section
variable{a b out:Array Keyed}{ia ib mg k k2 ac bc n:Nat}{st st':SortSt}
end
end
section
variable{rk:Keyed→Int}{a b out:Array Keyed}{na nb:Nat}
end
section
variable{P:Program}{w:World}{A:Around}{E:Value→Shared→Prop}{s:Shared}{kd:SortKind}{ok:Keyed→Prop}{rk:Keyed→Int}
section
variable{a b out:Array Keyed}{na nb mg k k2 ac bc n:Nat}{st st':SortSt}
end
end
noncomputable def J5:Nat→Nat→StateT SortSt Sem (Option Nat):=sortPriv% PySem.Builtin.countRun
noncomputable def Gb:Nat→Nat→Nat→StateT SortSt Sem Bool:=sortPriv% PySem.Builtin.binarySort
noncomputable def Bs(rk:Keyed→Int)(arr:Array Keyed)(lo hi:Nat):Prop:=∀i j,lo≤i→i≤j→j<hi→A2 rk arr i≤A2 rk arr j
structure Bas(rk:Keyed→Int)(kd:SortKind)(ok:Keyed→Prop)(a0:Array Keyed)(st:SortSt):Prop where
 kind:kindOf st=kd
 perm:(arrOf st).Perm a0
 fail:failedOf st=none
 okA:∀x∈a0,ok x
 dist:(a0.toList.map rk).Nodup
section
variable{P:Program}{w:World}{A:Around}{E:Value→Shared→Prop}{s:Shared}{kd:SortKind}{ok:Keyed→Prop}{rk:Keyed→Int}{a0:Array Keyed}{st:SortSt}
theorem Bas.size(b:Bas rk kd ok a0 st):(arrOf st).size=a0.size:=b.perm.size_eq
theorem Bas.oks(b:Bas rk kd ok a0 st):∀x∈arrOf st,ok x:=fun x hx=>b.okA x (b.perm.mem_iff.mp hx)
theorem Bas.ne(b:Bas rk kd ok a0 st){i j:Nat}(hij:i<j)(hj:j<(arrOf st).size):A2 rk (arrOf st) i≠A2 rk (arrOf st) j:=by
 have nd:((arrOf st).toList.map rk).Nodup:=((Array.perm_iff_toList_perm.mp b.perm).map rk).nodup_iff.mpr b.dist;rw[Ui (show i<(arrOf st).size by omega),Ui hj]
 have:=List.pairwise_iff_getElem.mp nd i j (by simp;omega) (by simp;omega) hij
 simpa using this
theorem C2{i j:Nat}{Q:Option Bool→SortSt→Prop}(ask:Ro P w A E s kd ok rk)(b:Bas rk kd ok a0 st)(hi:i<a0.size)(hj:j<a0.size)(q:Q (some (decide (A2 rk (arrOf st) i<A2 rk (arrOf st) j))) st):wpS (model P w) A E s (ltAt' i j) Q st:=by
 have e:=b.size;rw[ltAt'_eq];refine wpS_bind (wpS_get ?_);refine wpS_bind (M7 (by omega) (wpS_bind (M7 (by omega) ?_)))
 exact ask _ _ _ _ b.kind (Aao (by omega) b.oks) (Aao (by omega) b.oks) q
structure Ahead(lo:Nat)(st st':SortSt):Prop where
 at_:∀i,i<lo→(arrOf st')[i]? = (arrOf st)[i]?
 pend:pendingOf st'=pendingOf st
theorem Ahead.refl{lo:Nat}{st:SortSt}:Ahead lo st st:=⟨fun _ _=>rfl,rfl⟩
theorem Ahead.trans{lo:Nat}{st st' st'':SortSt}(h:Ahead lo st st')(g:Ahead lo st' st''):Ahead lo st st'':=⟨fun i hi=>(g.at_ i hi).trans (h.at_ i hi),g.pend.trans h.pend⟩
theorem De{a b:Array Keyed}{i j:Nat}(h:a[i]? = b[j]?):A2 rk a i=A2 rk b j:=by
 unfold A2;rw[Array.getD_eq_getD_getElem?,Array.getD_eq_getD_getElem?,h]
theorem Qg{arr:Array Keyed}{lo n:Nat}(u:Bs rk arr lo (lo+n))(hn:1≤n)(h:A2 rk arr (lo+n-1)≤A2 rk arr (lo+n)):Bs rk arr lo (lo+n+1):=fun i j h1 h2 h3=>by
 by_cases z:j<lo+n
 ·exact u i j h1 h2 z
 ·by_cases y:i=j
  ·subst y;exact Int.le_refl _
  ·have e:j=lo+n:=by omega
   subst e
   have:=u i (lo+n-1) h1 (by omega) (by omega)
   omega
theorem Yb{M:Model}{i j:Nat}{Q:Unit→SortSt→Prop}(h:Q () (setArr st (mirror (arrOf st) i j ((j-i) / 2)))):wpS M A E s (reverseSlice' i j) Q st:=by
 rw[reverseSlice'_eq];exact wpS_modify h
theorem Bas.arr(b:Bas rk kd ok a0 st){xs:Array Keyed}(h:xs.Perm (arrOf st)):Bas rk kd ok a0 (setArr st xs):=⟨b.kind,h.trans b.perm,b.fail,b.okA,b.dist⟩
theorem Lv{lo nrem:Nat}{Q:Option Nat→SortSt→Prop}(ask:Ro P w A E s kd ok rk)(b:Bas rk kd ok a0 st)(h1:1≤nrem)(hs:lo+nrem≤a0.size)(q:∀n st',Bas rk kd ok a0 st'→Ahead lo st st'→1≤n→n≤nrem→Bs rk (arrOf st') lo (lo+n)→Q (some n) st'):wpS (model P w) A E s (J5 lo nrem) Q st:=by
 delta J5
 refine wpS_bind (wpS_mono (wpS_forRange (I:=fun i c st'=>st=st'∧∃n,c=(none,n)∧n=i∧n≤nrem∧Bs rk (arrOf st) lo (lo+n)) (Q:=fun c st'=>st=st'∧∃n,c=(none,n)∧1≤n∧n≤nrem∧Bs rk (arrOf st) lo (lo+n)∧(n<nrem→A2 rk (arrOf st) (lo+n)<A2 rk (arrOf st) (lo+n-1))) ?s1 ?f1 ⟨rfl,1,rfl,rfl,h1,fun i j a1 a2 a3=>by rw[show i=j by omega];exact Int.le_refl _⟩) ?p1)
 case f1=>
  rintro c st' ⟨rfl,n,rfl,hn,h2,u⟩;exact⟨rfl,n,rfl,by omega,h2,u,fun z=>by omega⟩
 case s1=>
  rintro i c st' hi1 hi2 ⟨rfl,n,rfl,rfl,h2,u⟩;dsimp only;refine wpS_bind (C2 ask b (by omega) (by omega) ?_)
  dsimp only
  by_cases z:A2 rk (arrOf st) (lo+n)<A2 rk (arrOf st) (lo+n-1)
  ·rw[decide_eq_true z,if_pos rfl];exact wpS_pure ⟨rfl,n,rfl,hi1,h2,u,fun _=>z⟩
  ·rw[decide_eq_false z,if_neg (by decide)]
   exact wpS_pure ⟨rfl,n+1,rfl,rfl,by omega,Qg u hi1 (by omega)⟩
 case p1=>
  rintro c st' ⟨rfl,n,rfl,n1,n2,u,last⟩;dsimp only;refine Ea (fun z=>wpS_pure (q n st b .refl n1 n2 u)) fun z=>?_;have z:¬n=nrem:=by simpa using z
  have bs:=b.size;refine Ea (fun g=>?_) fun g=>?_
  ·refine wpS_bind (C2 ask b (by omega) (by omega) ?_)
   dsimp only;have e1:=u lo (lo+n-1) (Nat.le_refl _) (by omega) (by omega)
   have e2:=b.ne (i:=lo) (j:=lo+n-1) (by omega) (by omega)
   rw[decide_eq_true (show A2 rk (arrOf st) lo<A2 rk (arrOf st) (lo+n-1) by omega),if_pos rfl]
   exact wpS_pure (q n st b .refl n1 n2 u)
  ·obtain rfl:n=1:=by omega
   refine wpS_bind (wpS_lift (wpAny_rule ⟨rfl,?_⟩));have l0:=last (by omega)
   refine wpS_bind (wpS_mono (wpS_forRange (I:=fun i c st'=>st=st'∧∃m,c=(none,m,0)∧m=i∧m≤nrem∧∀i j,lo≤i→i≤j→j<lo+m→A2 rk (arrOf st) j≤A2 rk (arrOf st) i) (Q:=fun c st'=>st=st'∧∃m,c=(none,m,0)∧2≤m∧m≤nrem∧∀i j,lo≤i→i≤j→j<lo+m→A2 rk (arrOf st) j≤A2 rk (arrOf st) i) ?s2 ?f2 ⟨rfl,1+1,rfl,rfl,by omega,?d0⟩) ?p2)
   case d0=>
    intro i j a1 a2 a3
    by_cases y:i=j
    ·subst y;exact Int.le_refl _
    ·rw[show i=lo by omega,show j=lo+1 by omega]
     rw[show lo+1-1=lo by omega] at l0
     omega
   case f2=>
    rintro c st' ⟨rfl,m,rfl,hm,h2,dn⟩;exact⟨rfl,m,rfl,by omega,h2,dn⟩
   case s2=>
    rintro i c st' hi1 hi2 ⟨rfl,m,rfl,rfl,h2,dn⟩;dsimp only;refine wpS_bind (C2 ask b (by omega) (by omega) ?_)
    dsimp only
    by_cases y:A2 rk (arrOf st) (lo+m)<A2 rk (arrOf st) (lo+m-1)
    ·rw[decide_eq_true y,if_pos rfl,if_neg (by decide)]
     refine wpS_pure ⟨rfl,m+1,rfl,rfl,by omega,fun i j a1 a2 a3=>?_⟩
     by_cases x:j<lo+m
     ·exact dn i j a1 a2 x
     ·by_cases x2:i=j
      ·subst x2;exact Int.le_refl _
      ·have:=dn i (lo+m-1) a1 (by omega) (by omega)
       rw[show j=lo+m by omega];omega
    ·rw[decide_eq_false y,if_neg (by decide)]
     refine wpS_bind (C2 ask b (by omega) (by omega) ?_)
     dsimp only;have e2:=b.ne (i:=lo+m-1) (j:=lo+m) (by omega) (by omega)
     rw[decide_eq_true (show A2 rk (arrOf st) (lo+m-1)<A2 rk (arrOf st) (lo+m) by omega),if_pos rfl]
     exact wpS_pure ⟨rfl,m,rfl,hi1,h2,dn⟩
   case p2=>
    rintro c st' ⟨rfl,m,rfl,m1,m2,dn⟩;dsimp only;rw[if_neg (by decide)]
    refine wpS_bind (Yb ?_);have b2:=b.arr (mirror_perm (arrOf st) lo (lo+m) ((lo+m-lo) / 2));have gt:∀k,(mirror (arrOf st) lo (lo+m) ((lo+m-lo) / 2))[k]? = if lo≤k∧k<lo+m then (arrOf st)[lo+(lo+m)-1-k]? else (arrOf st)[k]?:=getElem?_mirror_all (by omega)
    have a2:Ahead lo st (setArr st (mirror (arrOf st) lo (lo+m) ((lo+m-lo) / 2))):=⟨fun i hi=>by show(mirror _ _ _ _)[i]? = _;rw[gt i,if_neg (by omega)],rfl⟩
    have u2:Bs rk (mirror (arrOf st) lo (lo+m) ((lo+m-lo) / 2)) lo (lo+m):=fun i j a1 a2 a3=>by
     have gi:=gt i;have gj:=gt j;rw[if_pos (by omega)] at gi gj
     rw[De gi,De gj];exact dn _ _ (by omega) (by omega) (by omega)
    have s2:arrOf (setArr st (mirror (arrOf st) lo (lo+m) ((lo+m-lo) / 2)))=mirror (arrOf st) lo (lo+m) ((lo+m-lo) / 2):=rfl;rw[←s2] at u2;generalize setArr st (mirror (arrOf st) lo (lo+m) ((lo+m-lo) / 2))=st2 at *;refine wpS_bind (wpS_mono (wpS_forRange (I:=fun i c st'=>st2=st'∧∃n,c=(none,n)∧n=i∧n≤nrem∧Bs rk (arrOf st2) lo (lo+n)) (Q:=fun c st'=>st2=st'∧∃n,c=(none,n)∧1≤n∧n≤nrem∧Bs rk (arrOf st2) lo (lo+n)) ?s3 ?f3 ⟨rfl,m,rfl,rfl,m2,u2⟩) ?p3)
    case f3=>
     rintro c st' ⟨rfl,n,rfl,hn,h2,u⟩;exact⟨rfl,n,rfl,by omega,h2,u⟩
    case s3=>
     rintro i c st' hi1 hi2 ⟨rfl,n,rfl,rfl,h2,u⟩;dsimp only;refine wpS_bind (C2 ask b2 (by omega) (by omega) ?_)
     dsimp only
     by_cases z:A2 rk (arrOf st2) (lo+n)<A2 rk (arrOf st2) (lo+n-1)
     ·rw[decide_eq_true z,if_pos rfl];exact wpS_pure ⟨rfl,n,rfl,by omega,h2,u⟩
     ·rw[decide_eq_false z,if_neg (by decide)]
      exact wpS_pure ⟨rfl,n+1,rfl,rfl,by omega,Qg u (by omega) (by omega)⟩
    case p3=>
     rintro c st' ⟨rfl,n,rfl,h1,h2,u⟩;exact wpS_pure (q n st2 b2 a2 h1 h2 u)
theorem Wk{M:Model}{i j:Nat}{Q:Unit→SortSt→Prop}(h:Q () (setArr st (bubble (arrOf st) i (i-j)))):wpS M A E s (moveDown' i j) Q st:=by
 rw[moveDown'_eq];exact wpS_modify h
theorem Ij{lo n g:Nat}{Q:Bool→SortSt→Prop}(ask:Ro P w A E s kd ok rk)(b:Bas rk kd ok a0 st)(hg:1≤g)(hgn:g≤n)(hs:lo+n≤a0.size)(u:Bs rk (arrOf st) lo (lo+g))(q:∀st',Bas rk kd ok a0 st'→Ahead lo st st'→Bs rk (arrOf st') lo (lo+n)→Q true st'):wpS (model P w) A E s (Gb lo n g) Q st:=by
 delta Gb
 refine wpS_bind (wpS_mono (wpS_forRange (I:=fun k c st'=>Bas rk kd ok a0 st'∧Ahead lo st st'∧c=(none,())∧Bs rk (arrOf st') lo (lo+k)) (Q:=fun c st'=>Bas rk kd ok a0 st'∧Ahead lo st st'∧c=(none,())∧Bs rk (arrOf st') lo (lo+n)) ?s1 ?f1 ⟨b,.refl,rfl,by rw[Nat.max_eq_left hg];exact u⟩) ?p1)
 case f1=>
  rintro c st' ⟨b1,a1,rfl,u1⟩;refine⟨b1,a1,rfl,?_⟩;rw[show max (max g 1) n=n by omega] at u1
  exact u1
 case p1=>
  rintro c st' ⟨b1,a1,rfl,u1⟩;exact wpS_pure (q st' b1 a1 u1)
 case s1=>
  rintro k c st1 hk1 hk2 ⟨b1,a1,rfl,u1⟩;have bs:=b1.size;dsimp only;refine wpS_bind (wpS_mono (wpS_forRange (I:=fun i c st'=>st1=st'∧∃l r,c=(none,l,r)∧l≤r∧r≤k∧r-l≤k-i∧(∀j,j<l→A2 rk (arrOf st1) (lo+j)≤A2 rk (arrOf st1) (lo+k))∧∀j,r≤j→j<k→A2 rk (arrOf st1) (lo+k)<A2 rk (arrOf st1) (lo+j)) (Q:=fun c st'=>st1=st'∧∃l,c=(none,l,l)∧l≤k∧(∀j,j<l→A2 rk (arrOf st1) (lo+j)≤A2 rk (arrOf st1) (lo+k))∧∀j,l≤j→j<k→A2 rk (arrOf st1) (lo+k)<A2 rk (arrOf st1) (lo+j)) ?s2 ?f2 ⟨rfl,0,k,rfl,by omega,by omega,by omega,fun j hj=>absurd hj (by omega),fun j h1 h2=>absurd h1 (by omega)⟩) ?p2)
  case f2=>
   rintro c st' ⟨rfl,l,r,rfl,h1,h2,h3,h4,h5⟩
   have:max 0 k=k:=Nat.max_eq_right (Nat.zero_le _)
   obtain rfl:l=r:=by omega
   exact⟨rfl,l,rfl,h2,h4,h5⟩
  case s2=>
   rintro i c st' _ hi ⟨rfl,l,r,rfl,h1,h2,h3,h4,h5⟩;dsimp only;refine Ea (fun z=>?_) fun z=>?_
   ·obtain rfl:l=r:=by omega
    exact wpS_pure ⟨rfl,l,rfl,h2,h4,h5⟩
   ·refine wpS_bind (C2 ask b1 (by omega) (by omega) ?_)
    dsimp only
    by_cases y:A2 rk (arrOf st1) (lo+k)<A2 rk (arrOf st1) (lo+(l+r) / 2)
    ·rw[decide_eq_true y,if_pos rfl];exact wpS_pure ⟨rfl,l,_,rfl,by omega,by omega,by omega,h4,fun j j1 j2=>by
      have:=u1 (lo+(l+r) / 2) (lo+j) (by omega) (by omega) (by omega);omega⟩
    ·rw[decide_eq_false y,if_neg (by decide)]
     exact wpS_pure ⟨rfl,_,r,rfl,by omega,h2,by omega,fun j j1=>by
      have:=u1 (lo+j) (lo+(l+r) / 2) (by omega) (by omega) (by omega);omega,h5⟩
  case p2=>
   rintro c st' ⟨rfl,l,rfl,h2,h4,h5⟩;dsimp only;refine wpS_bind (Wk ?_);have gt:∀x,(bubble (arrOf st1) (lo+k) (lo+k-(lo+l)))[x]? = if x=lo+k-(lo+k-(lo+l)) then (arrOf st1)[lo+k]? else if lo+k-(lo+k-(lo+l))<x∧x≤lo+k then (arrOf st1)[x-1]? else (arrOf st1)[x]?:=getElem?_bubble (by omega) _ (by omega)
   refine wpS_pure ⟨b1.arr (bubble_perm _ _ _),a1.trans ⟨fun i hi=>by show(bubble _ _ _)[i]? = _;rw[gt i,if_neg (by omega),if_neg (by omega)],rfl⟩,rfl,fun i j i1 i2 i3=>?_⟩
   show A2 rk (bubble (arrOf st1) (lo+k) (lo+k-(lo+l))) i≤A2 rk (bubble (arrOf st1) (lo+k) (lo+k-(lo+l))) j;have gi:=gt i;have gj:=gt j
   by_cases x1:i=lo+l
   ·rw[if_pos (by omega)] at gi
    rw[De gi]
    by_cases x2:j=lo+l
    ·rw[if_pos (by omega)] at gj;rw[De gj];exact Int.le_refl _
    ·rw[if_neg (by omega),if_pos (by omega)] at gj
     rw[De gj]
     have:=h5 (j-1-lo) (by omega) (by omega)
     rw[show lo+(j-1-lo)=j-1 by omega] at this
     omega
   ·by_cases x2:j=lo+l
    ·rw[if_pos (by omega)] at gj
     rw[if_neg (by omega),if_neg (by omega)] at gi
     rw[De gi,De gj]
     have:=h4 (i-lo) (by omega)
     rw[show lo+(i-lo)=i by omega] at this
     exact this
    ·by_cases x3:i<lo+l
     ·rw[if_neg (by omega),if_neg (by omega)] at gi
      rw[De gi]
      by_cases x4:j<lo+l
      ·rw[if_neg (by omega),if_neg (by omega)] at gj
       rw[De gj];exact u1 i j i1 i2 (by omega)
      ·rw[if_neg (by omega),if_pos (by omega)] at gj
       rw[De gj];exact u1 i (j-1) i1 (by omega) (by omega)
     ·rw[if_neg (by omega),if_pos (by omega)] at gi
      rw[if_neg (by omega),if_pos (by omega)] at gj
      rw[De gi,De gj];exact u1 (i-1) (j-1) (by omega) (by omega) (by omega)
theorem Bas.pending{p:Array (Nat×Nat×Nat)}(b:Bas rk kd ok a0 st):Bas rk kd ok a0 (setPending st p):=⟨b.kind,b.perm,b.fail,b.okA,b.dist⟩
theorem Pf{n:Nat}(h:n≤63)(h0:0<n):minRun' n n 0=n:=by
 obtain⟨m,rfl⟩:∃m,n=m+1:=⟨n-1,by omega⟩
 rw[minRun'_succ,if_pos (by omega)]
theorem E8{Q:Unit→SortSt→Prop}(ask:Ro P w A E s kd ok rk)(b:Bas rk kd ok a0 st)(h63:a0.size≤63)(h2:2≤a0.size)(hp:pendingOf st=#[])(q:∀st',Bas rk kd ok a0 st'→Bs rk (arrOf st') 0 a0.size→Q () st'):wpS (model P w) A E s sortRuns' Q st:=by
 have bs:=b.size;rw[sortRuns'_eq];refine wpS_bind (wpS_get ?_);dsimp only;rw[bs,Pf h63 (by omega)]
 refine wpS_bind (wpS_mono (wpS_forRange (I:=fun i c st'=>Bas rk kd ok a0 st'∧((i=0∧c=(none,0)∧pendingOf st'=#[])∨(1≤i∧c=(none,a0.size)∧(pendingOf st').size=1∧Bs rk (arrOf st') 0 a0.size))) (Q:=fun c st'=>Bas rk kd ok a0 st'∧c=(none,a0.size)∧(pendingOf st').size=1∧Bs rk (arrOf st') 0 a0.size) ?s1 ?f1 ⟨b,.inl ⟨rfl,rfl,hp⟩⟩) ?p1)
 case f1=>
  rintro c st' ⟨b',⟨h,_⟩|⟨_,h⟩⟩
  ·have:max 0 a0.size=a0.size:=Nat.max_eq_right (Nat.zero_le _)
   omega
  ·exact⟨b',h⟩
 case s1=>
  rintro i c st1 _ hi ⟨b1,⟨_,rfl,hp1⟩|⟨_,rfl,hs,u⟩⟩
  ·dsimp only;refine Ea (fun z=>?_) fun z=>?_
   ·omega
   ·refine wpS_bind (Lv ask b1 (by omega) (by omega) fun n st2 b2 ah n1 n2 u=>?_)
    have hp2:pendingOf st2=#[]:=ah.pend.trans hp1;dsimp only;refine Ea (fun z1=>wpS_bind (wpS_lift (wpAny_rule ⟨rfl,wpS_bind (Ij ask b2 n1 (n:=min (a0.size-0) a0.size) (by omega) (by omega) u fun st3 b3 ah3 u3=>?g1)⟩))) (fun z1=>?g2)
    case' g1=>
     rw[if_neg (by decide)]
     have hp3:pendingOf st3=#[]:=ah3.pend.trans hp2;obtain⟨m,hm⟩:∃m,min (a0.size-0) a0.size=m:=⟨_,rfl⟩;rw[hm] at u3 ⊢;have m1:m=a0.size:=by omega
    case' g2=>
     obtain⟨m,hm⟩:∃m,n=m:=⟨_,rfl⟩;rw[hm] at n1 n2 u ⊢;have m1:m=a0.size:=by omega
     have b3:=b2;have hp3:=hp2;have u3:=u
    all_goals
     subst m1;refine wpS_bind (wpS_get ?_)
     split
     ·rename_i s1 n1' p1 hb;rw[hp3] at hb;cases hb
     ·refine wpS_bind (wpS_modify (wpS_pure ⟨b3.pending,.inr ⟨by omega,by rw[Nat.zero_add],?_,?_⟩⟩))
      ·first|(show((pendingOf _).push _).size=1;rw[hp3];rfl)|(simp[hp3])
      ·rw[Nat.zero_add] at u3;exact u3
  ·dsimp only;refine Ea (fun z=>wpS_pure ⟨b1,rfl,hs,u⟩) fun z=>?_;omega
 case p1=>
  rintro c st1 ⟨b1,rfl,hs,u⟩;dsimp only;refine wpS_bind (wpS_mono (wpS_forRange (I:=fun i c st'=>Bas rk kd ok a0 st'∧c=(none,())∧(pendingOf st').size=1∧Bs rk (arrOf st') 0 a0.size) (Q:=fun c st'=>Bas rk kd ok a0 st'∧c=(none,())∧Bs rk (arrOf st') 0 a0.size) ?s2 ?f2 ⟨b1,rfl,hs,u⟩) ?p2)
  case f2=>
   rintro c st' ⟨b',rfl,_,u'⟩;exact⟨b',rfl,u'⟩
  case p2=>
   rintro c st' ⟨b',rfl,u'⟩;exact wpS_pure (q st' b' u')
  case s2=>
   rintro i c st' _ hi ⟨b',rfl,hs',u'⟩;refine wpS_bind (wpS_get ?_);refine Ea (fun z=>wpS_pure ⟨b',rfl,u'⟩) fun z=>?_;omega
end
section
variable{P:Program}{w:World}{A:Around}{E:Value→Shared→Prop}{s:Shared}{kd:SortKind}{ok:Keyed→Prop}{rk:Keyed→Int}
theorem Dn:∀vs:List Value,vs.zip vs=vs.map fun v=>(v,v)
 |[]=>rfl
 |v::r=>by rw[List.zip_cons_cons,Dn r];rfl
theorem U7{vs:List Value}{arr:Array Keyed}(hp:arr.Perm (pairsOf vs))(u:Bs rk arr 0 (pairsOf vs).size)(hd:(vs.map fun v=>rk (v,v)).Nodup) :
  ∃out:List Value,arr.map (·.2)=out.toArray∧out.Perm vs∧out.Pairwise fun x y=>rk (x,x)<rk (y,y):=by
 have hl:arr.toList.Perm (vs.map fun v=>(v,v)):=by
  have:=Array.perm_iff_toList_perm.mp hp
  rw[pairsOf_toList,Dn] at this;exact this
 have hm:∀x∈arr.toList,(x.2,x.2)=x:=fun x hx=>by
  obtain⟨v,_,rfl⟩:=List.mem_map.mp (hl.mem_iff.mp hx);rfl
 have e1:(arr.toList.map (·.2)).map (fun v=>(v,v))=arr.toList:=by
  rw[List.map_map];exact(List.map_congr_left hm).trans (List.map_id _)
 have hpo:(arr.toList.map (·.2)).Perm vs:=by
  have:=hl.map (·.2)
  rw[List.map_map] at this;exact this.trans (by rw[show((fun x:Keyed=>x.2) ∘ fun v:Value=>(v,v))=id from rfl,List.map_id])
 refine⟨arr.toList.map (·.2),by rw[←Array.toList_map],hpo,?_⟩
 have hnd:((arr.toList.map (·.2)).map fun v=>rk (v,v)).Nodup:=((hpo.map _).nodup_iff).mpr hd;have hsz:(pairsOf vs).size=arr.size:=hp.size_eq.symm;rw[List.pairwise_iff_getElem];intro i j hi hj hij;have hi':i<arr.size:=by simpa using hi
 have hj':j<arr.size:=by simpa using hj
 have key:∀k (hk:k<arr.size),A2 rk arr k=rk ((arr[k]).2,(arr[k]).2):=fun k hk=>by
  unfold A2;rw[Array.getD_eq_getD_getElem?,Array.getElem?_eq_getElem hk,Option.getD_some,hm _ (by simp)]
 have le:=u i j (Nat.zero_le _) (Nat.le_of_lt hij) (by omega)
 rw[key i hi',key j hj'] at le;have ne:rk ((arr[i]).2,(arr[i]).2)≠rk ((arr[j]).2,(arr[j]).2):=fun e=>by
  have:=List.pairwise_iff_getElem.mp hnd i j (by simpa using hi') (by simpa using hj') hij
  simp only[List.getElem_map,Array.getElem_toList] at this;exact this e
 simp only[List.getElem_map,Array.getElem_toList];omega
theorem Ie{a:Addr}{vs:List Value}{n:Nat}{Q:Fin→Shared→Prop}(ho:s.heap.get? a=some (seqObj "list" vs.toArray n))(hz:vs.length≤63)(hkind:∀s6:Shared,(∀b o,b≠a→s.heap.get? b=some o→s6.heap.get? b=some o)→∀R:SortKind→Shared→Prop,R kd s6→2≤vs.length→wpAny (model P w) A (keyKind' vs.toArray) R E s6)(hask:∀s6:Shared,(∀b o,b≠a→s.heap.get? b=some o→s6.heap.get? b=some o)→Ro P w A E s6 kd ok rk)(okA:∀v∈vs,ok (v,v))(hd:(vs.map fun v=>rk (v,v)).Nodup)(h:∀out:List Value,out.Perm vs→(out.Pairwise fun x y=>rk (x,x)<rk (y,y))→Q (.done (.ret .none)) { s with heap:=sortedHeap s.heap a vs out.toArray }) :
  wpAny (model P w) A (Builtin.«list.sort» ⟨[.ref a],[]⟩) Q E s:=by
 rw[list_sort_plain];have ha:a<s.heap.objs.size:=Heap.lt_size ho;have hsl:vs.toArray.size≤sizeLine:=by rw[List.size_toArray,sizeLine_eq];omega
 refine wpAny_bind (listItems_at ho rfl ?_);refine wpAny_bind (listUpdate_at ho rfl ?_ hsl (Nat.zero_le _));obtain⟨e1,ho1⟩:∃e1,(s.heap.update a (Obj.mapSeq fun _=>#[])).get? a=some (seqObj "list" #[] e1):=⟨_,get?_update_seq ho (fun _=>#[])⟩;refine wpAny_bind (seqEpoch_at ho1 rfl ?_);refine wpAny_bind (wpAny_newTuple ?_ (by rw[sizeLine_eq];show vs.length≤_;omega))
 refine wpAny_bind (wpAny_newList ?_ (Nat.zero_le _));refine wpAny_holding ?_;have ho6:(((s.heap.update a (Obj.mapSeq fun _=>#[])).push (seqObj "tuple" vs.toArray 0)).push (seqObj "list" #[] 0)).get? a=some (seqObj "list" #[] e1):=Heap.get?_push_of_some _ (Heap.get?_push_of_some _ ho1);have same:∀b o,b≠a→s.heap.get? b=some o→(((s.heap.update a (Obj.mapSeq fun _=>#[])).push (seqObj "tuple" vs.toArray 0)).push (seqObj "list" #[] 0)).get? b=some o:=fun b o hb e=>by
  refine Heap.get?_push_of_some _ (Heap.get?_push_of_some _ ?_);rw[Heap.get?_update_ne _ _ _ _ hb];exact e
 show wpAny (model P w) A _ Q E { s with heap:=((s.heap.update a (Obj.mapSeq fun _=>#[])).push (seqObj "tuple" vs.toArray 0)).push (seqObj "list" #[] 0) };dsimp only
 by_cases h2:vs.toArray.size<2
 ·rw[if_pos h2,if_pos h2];refine wpAny_bind (wpAny_pure ?_);rw[StateT.run_pure];refine wpAny_bind (wpAny_pure ?_);dsimp only;have em:(arrOf (SortSt.mk' general' (vs.toArray.zip vs.toArray) #[] 7 none)).map (·.2)=vs.toArray:=by
   show(vs.toArray.zip vs.toArray).map (·.2)=_;rw[List.zip_toArray,Dn,List.map_toArray,List.map_map,show((fun x:Keyed=>x.2) ∘ fun v:Value=>(v,v))=id from rfl,List.map_id]
  rw[em];refine wpAny_bind (seqEpoch_at ho6 rfl ?_);refine wpAny_bind (listUpdate_at ho6 rfl ?_ (Nat.zero_le _) (Nat.le_succ_of_le hsl));simp only[bne_self_eq_false,Bool.false_eq_true,if_false];refine wpAny_pure (h vs (List.Perm.refl _) ?_)
  match vs,h2 with
  |[],_=>exact .nil
  |[x],_=>exact List.pairwise_singleton _ _
  |x::y::r,h2=>simp at h2;omega
 ·rw[if_neg h2,if_neg h2];have h2':2≤vs.length:=by rw[List.size_toArray] at h2;omega
  refine wpAny_bind (hkind _ same _ ?_ h2');refine wpAny_bind (wpAny_mono (E8 (a0:=pairsOf vs) (st:=SortSt.mk' kd (vs.toArray.zip vs.toArray) #[] 7 none) (rk:=rk) (ok:=ok) (kd:=kd)
   (Q:=fun _ st'=>(arrOf st').Perm (pairsOf vs)∧failedOf st'=none∧Bs rk (arrOf st') 0 (pairsOf vs).size) (hask _ same) ⟨rfl,Array.Perm.refl _,rfl,?_,?_⟩ (by rw[pairsOf_size];omega) (by rw[pairsOf_size];exact h2') rfl fun st' b' u=>⟨b'.perm,b'.fail,u⟩) ?_ fun _ _ e=>e)
  ·intro x hx;have hx:x∈(pairsOf vs).toList:=by simpa using hx
   rw[pairsOf_toList,Dn] at hx;obtain⟨v,hv,rfl⟩:=List.mem_map.mp hx;exact okA v hv
  ·rw[pairsOf_toList,Dn,List.map_map];exact hd
  rintro⟨⟨⟩,st'⟩ s' ⟨rfl,hp,hf,hu⟩;obtain⟨out,e,p2,pw⟩:=U7 hp hu hd;dsimp only;rw[e];refine wpAny_bind (seqEpoch_at ho6 rfl ?_);refine wpAny_bind (listUpdate_at ho6 rfl ?_ (Nat.zero_le _) (by rw[List.size_toArray,p2.length_eq,sizeLine_eq];omega))
  rw[hf];simp only[bne_self_eq_false,Bool.false_eq_true,if_false];exact wpAny_pure (h out p2 pw)
noncomputable def A4(h:Heap)(v:Value)(ij:Int×Int):Prop:=∃a o t u n,v=.ref a∧h.get? a=some o∧o.cls=.type "tuple"∧o.data=.seq #[.int ij.1 t,.int ij.2 u] n
noncomputable def rkP(key:Value→Int×Int)(x:Keyed):Int:=(key x.1).1*1000+(key x.1).2
theorem Ia{key:Value→Int×Int}{vs:List Value}(hv:∀v∈vs,A4 s.heap v (key v))(hb:∀v∈vs,0≤(key v).2∧(key v).2<1000):Ro P w A E s (tuples' true) (fun x=>x.1∈vs) (rkP key):=by
 intro x y st Q hk ox oy q;obtain⟨a,o,t,u,n,ea,ha,ca,da⟩:=hv _ ox;obtain⟨b,o',t',u',n',eb,hb',cb,db⟩:=hv _ oy;have b1:=hb _ ox;have b2:=hb _ oy;rw[lt'_eq];refine wpS_bind (wpS_get ?_);rw[hk,ea,eb];refine wpS_bind (wpS_lift (wpAny_attempt (W.kat_lt ha da hb' db ?_)));have fin:∀c:Bool,c=decide (rkP key x<rkP key y)→s=s∧wpS (model P w) A E s (pure (some c)) Q st:=fun c hc=>⟨rfl,by rw[hc];exact wpS_pure q⟩
 unfold rkP at fin;refine W.kat_cons (wpAny_eqBool_int (W.kat_go (fun e=>W.kat_yes ?_) fun e=>W.kat_no ?_))
 ·have e:=beq_iff_eq.mp e;refine W.kat_cons (wpAny_eqBool_int (W.kat_go (fun e2=>W.kat_yes ?_) fun e2=>W.kat_no ?_))
  ·have e2:=beq_iff_eq.mp e2;refine W.kat_nil (fin _ ?_);rw[decide_eq_false (by simp),decide_eq_false (by omega)]
  ·refine W.kat_one _ _ (wpAny_lt_int (fin _ ?_));rw[e];congr 1;exact propext ⟨fun z=>by omega,fun z=>by omega⟩
 ·have e:(key x.1).1≠(key y.1).1:=fun z=>by rw[z] at e;simp at e
  refine oneLt_int (fin _ ?_);congr 1;exact propext ⟨fun z=>by omega,fun z=>by omega⟩
theorem Hx{key:Value→Int×Int}{vs:List Value}{R:SortKind→Shared→Prop}(hv:∀v∈vs,A4 s.heap v (key v))(h2:2≤vs.length)(q:R (tuples' true) s):wpAny (model P w) A (keyKind' vs.toArray) R E s:=by
 have ht:∀{l:List Value},(∀v∈l,A4 s.heap v (key v))→∃fs:List Value,W.KatTups s.heap l fs∧fs.length=l.length∧∀f∈fs,∃i t,f=Value.int i t:=fun {l}=>by
  induction l with
  |nil=>exact fun _=>⟨[],trivial,rfl,fun _ h=>by cases h⟩
  |cons v r ih=>
   intro hl;obtain⟨fs,k,el,hf⟩:=ih fun x hx=>hl x (List.mem_cons_of_mem _ hx);obtain⟨a,o,t,u,n,ea,ha,ca,da⟩:=hl v (List.mem_cons_self ..);subst ea;refine⟨.int _ t::fs,.cons ha ca da rfl k,by simp[el],fun f hf'=>?_⟩
   rcases List.mem_cons.mp hf' with rfl|hf'
   ·exact⟨_,_,rfl⟩
   ·exact hf f hf'
 obtain⟨fs,k,el,hf⟩:=ht hv;refine W.kat_kind (T:=.type "int") k (by omega) (fun v hv=>?_) (by decide) q
 obtain⟨i,t,rfl⟩:=hf v hv;exact W.Looks.of_pure rfl
end
noncomputable def RawD(h:Heap)(d:Addr)(es:Array DictEntry)(ep:Nat):Prop:=∃o,h.get? d=some o∧o.ExactDict∧o.data=.dict es ep
theorem RawD.keep{h g:Heap}{d:Addr}{es:Array DictEntry}{ep:Nat}(r:RawD h d es ep)(k:∀o,h.get? d=some o→g.get? d=some o):RawD g d es ep:=let ⟨o,a,b⟩:=r;⟨o,k o a,b⟩
theorem RawD.lt{h:Heap}{d:Addr}{es:Array DictEntry}{ep:Nat}(r:RawD h d es ep):d<h.objs.size:=let ⟨_,a,_⟩:=r;Heap.lt_size a
section
variable{P:Program}{w:World}{A:Around}{E:Value→Shared→Prop}{s:Shared}{d it:Addr}{es:Array DictEntry}{ep i:Nat}
theorem RawD.ty(r:RawD s.heap d es ep):s.TypeIs (.ref d) "dict":=let ⟨o,a,b,_⟩:=r;⟨o,a,b.1⟩
theorem Vg{Q:Value→Shared→Prop}(nd:(d == sysModules)=false)(r:RawD s.heap d es ep)(q:Q (.ref s.heap.objs.size) { s with heap:=s.heap.push { cls:=.type "dict_keyiterator",data:=.fields #[.ref d,.int 0 0,.int es.size 0,.int ep 0] } }):wpAny (model P w) A (pyIter (.ref d)) Q E s:=by
 obtain⟨o,a,b,c⟩:=id r;refine wpAny_pyIter_slot r.ty F.slot_dict_iter (wpAny_call_entry F.slot_dict_iter r.ty F.entry_dict_iter ?_ (F.args_dict_iter_1 _));unfold Builtin.«dict.__iter__» Builtin.Dict.dictSlotNone;refine wpAny_bind (wpAny_bind (wpAny_notOrdered_dict r.ty ?_));refine wpAny_pure (a:=Value.ref d) ?_;show wpAny _ _ (Builtin.Dict.showsAll d >>= _) _ _ s;unfold Builtin.Dict.showsAll;rw[if_neg (by rw[nd];decide)]
 refine wpAny_bind (wpAny_pure (wpAny_bind (wpAny_dictEntries a c (wpAny_bind (wpAny_dictEpoch a c ?_)))));exact wpAny_bind (wpAny_newObj_type (wpAny_pure ⟨_,rfl, "dict_keyiterator",_,⟨_,Heap.get?_push_size _ rfl,rfl⟩,F.slot_dict_keyiterator_next.lookup,by simpa[rawInt] using q⟩))
theorem Vf{Q:Option Value→Shared→Prop}(hit:s.heap.IsKeyIter it d i es.size ep)(r:RawD s.heap d es ep)(hi:i<es.size)(q:∀g,g.IsKeyIter it d (i+1) es.size ep→Heap.SameBut it s.heap g→Q (some es[i].key) { s with heap:=g }):wpAny (model P w) A (pyNext (.ref it)) Q E s:=by
 obtain⟨oi,ai,bi,ci⟩:=id hit;obtain⟨o,a,b,c⟩:=id r;unfold pyNext;refine wpAny_bind (wpAny_attempt (wpAny_callSpecial?_slot (name:=Str.ofString "__next__") hit.typeIs F.slot_dict_keyiterator_next (wpAny_call_entry F.slot_dict_keyiterator_next hit.typeIs F.entry_dict_keyiterator_next ?_ (F.args_dict_keyiterator_next_1 _))));refine wpAny_bind (wpAny_pure (wpAny_bind (wpAny_bind ?_)))
 first|refine wpAny_bind (wpAny_typeNameOfWhole_keyiter hit.typeIs (wpAny_pure (wpAny_bind (wpAny_fieldsOf ai ci ?_))))|refine wpAny_bind (wpAny_typeNameOf_keyiter hit.typeIs (wpAny_pure (wpAny_bind (wpAny_fieldsOf ai ci ?_))))
 simp only[show Builtin.Dict_items.ownsTuple "dict_keyiterator" = false by decide,Bool.false_eq_true,if_false]
 refine wpAny_ite_split (fun z=>absurd (show(Value.ref d == Value.none)=true from z) (by intro z;cases z)) fun _=>?_
 refine wpAny_bind (wpAny_pure (wpAny_bind (wpAny_dictEntries a c ?_)));rw[if_neg (by simp)]
 refine wpAny_bind (wpAny_pure (wpAny_bind (wpAny_dictEpoch a c ?_)));rw[if_neg (by simp)]
 refine wpAny_pure ?_;simp only[show ¬((i:Int)<0) from by omega,if_false,Int.toNat_natCast,Array.getElem?_eq_getElem hi]
 refine wpAny_bind ?_
 first|refine wpAny_bind (wpAny_typeNameOfWhole_keyiter hit.typeIs (wpAny_pure (wpAny_bind (wpAny_isOneOf_keyiter hit.typeIs ?_))))|refine wpAny_bind (wpAny_typeNameOf_keyiter hit.typeIs (wpAny_pure (wpAny_bind (wpAny_isOneOf_keyiter hit.typeIs ?_))))
 have hit2:(s.heap.update it (Obj.mapFields fun x=>x.setIfInBounds 1 (rawInt ((i:Int)+1)))).IsKeyIter it d (i+1) es.size ep:=
  ⟨_,Heap.get?_update_self _ ai (Obj.isFreed_of_fields (Obj.data_mapFields ci _)),(Obj.cls_mapFields ..).trans bi,by rw[Obj.data_mapFields ci];simp[rawInt]⟩
 refine wpAny_bind (wpAny_setField (i:=1) ai ci (by simp) (wpAny_bind (wpAny_holding (wpAny_bind (wpAny_isOneOf_keyiter hit2.typeIs ?_)))))
 refine wpAny_pure (a:=es[i].key) (wpAny_pure ⟨_,rfl,wpAny_pure (q _ hit2 (Heap.SameBut.update ..))⟩)
theorem Yd{Q:Option Value→Shared→Prop}(hh:A.handled=none)(hit:s.heap.IsKeyIter it d es.size es.size ep)(r:RawD s.heap d es ep)(q:∀g,Heap.ExtBut it s.heap g→Q none { s with heap:=g }):wpAny (model P w) A (pyNext (.ref it)) Q E s:=by
 obtain⟨oi,ai,bi,ci⟩:=id hit;obtain⟨o,a,b,c⟩:=id r;unfold pyNext;refine wpAny_bind (wpAny_attempt (wpAny_callSpecial?_slot (name:=Str.ofString "__next__") hit.typeIs F.slot_dict_keyiterator_next (wpAny_call_entry F.slot_dict_keyiterator_next hit.typeIs F.entry_dict_keyiterator_next ?_ (F.args_dict_keyiterator_next_1 _))));refine wpAny_bind (wpAny_pure (wpAny_bind (wpAny_bind ?_)))
 first|refine wpAny_bind (wpAny_typeNameOfWhole_keyiter hit.typeIs (wpAny_pure (wpAny_bind (wpAny_fieldsOf ai ci ?_))))|refine wpAny_bind (wpAny_typeNameOf_keyiter hit.typeIs (wpAny_pure (wpAny_bind (wpAny_fieldsOf ai ci ?_))))
 simp only[show Builtin.Dict_items.ownsTuple "dict_keyiterator" = false by decide,Bool.false_eq_true,if_false]
 refine wpAny_ite_split (fun z=>absurd (show(Value.ref d == Value.none)=true from z) (by intro z;cases z)) fun _=>?_
 refine wpAny_bind (wpAny_pure (wpAny_bind (wpAny_dictEntries a c ?_)));rw[if_neg (by simp)]
 refine wpAny_bind (wpAny_pure (wpAny_bind (wpAny_dictEpoch a c ?_)));rw[if_neg (by simp)]
 refine wpAny_pure ?_;simp only[show ¬((es.size:Int)<0) from by omega,if_false,Int.toNat_natCast,Array.getElem?_eq_none (Nat.le_refl es.size)]
 refine wpAny_bind ?_
 first|refine wpAny_bind (wpAny_typeNameOfWhole_keyiter hit.typeIs (wpAny_pure ?_))|refine wpAny_bind (wpAny_typeNameOf_keyiter hit.typeIs (wpAny_pure ?_))
 refine wpAny_bind (wpAny_setField (i:=0) ai ci (by simp) (wpAny_bind ?_))
 simp only[newExc,newTuple];refine wpAny_bind (wpAny_newObj_type (wpAny_bind (m:=firstArgMember _ _) (wpAny_of_eq (a:=Value.none) (by first|rfl|(simp only[firstArgMember];rfl)) (wpAny_newObj_type ?_ (by size_fits)))) (by size_fits))
 simp only[raiseNew];refine wpAny_bind (wpAny_handled ?_);rw[show A.in1.handled=none from hh];refine wpAny_bind (wpAny_pure (wpAny_throw ?_));refine wpAny_bind (wpAny_isInstance (b:=true) (T:="StopIteration") ⟨_,Heap.get?_push_size _ rfl,rfl⟩ isSubtype_stop ?_);exact wpAny_pure (q _ (((Heap.SameBut.update ..).extBut.push _).push _))
theorem R3(hh:A.handled=none)(I:Addr)(hne:d≠I):Walks P w A I [I,d] [I] es.size (fun i v=>∃h:i<es.size,v=es[i].key) (fun i h=>h.IsKeyIter I d i es.size ep∧RawD h d es ep) where
 sub:=fun b hb=>by rw[List.mem_singleton.mp hb];exact List.mem_cons_self ..
 frame:=fun _ _ _ st hk=>⟨st.1.at fun o e=>hk I (by simp) o e,st.2.keep fun o e=>hk d (by simp) o e⟩
 item:=fun i s Q E hi st hQ=>Vf st.1 st.2 hi fun g hit' hs'=>hQ _ g s.toks ⟨hi,rfl⟩ ⟨hit',st.2.keep fun o e=>hs'.extBut d o hne e⟩ fun b o hb e=>hs'.extBut b o (fun h=>hb (by simp[h])) e
 done:=fun s Q E st hQ=>Yd hh st.1 st.2 fun g he'=>hQ g s.toks fun b o hb e=>he' b o (fun h=>hb (by simp[h])) e
 self:=fun _ _ _ _ st hQ=>wpAny_pyIter_keyiter st.1 hQ
theorem Yc(nd:(d == sysModules)=false):W.KdlSrc P w "dict" d d es.size (fun i v=>∃h:i<es.size,v=es[i].key) (fun h=>RawD h d es ep) where
 type:=fun _ r=>r.ty
 there:=fun _ r=>⟨r.lt,r.lt⟩
 keep:=fun _ _ r k=>r.keep fun o e=>k d (.inl rfl) o e
 notList:=by decide
 notTuple:=by decide
 hint:=fun _ _ _ _ r q=>W.kdl_hint_dict r.ty q
 iter:=fun _ _ hh r=>⟨_,_,fun _ _ q=>Vg nd r q,R3 hh _ (Nat.ne_of_lt r.lt),⟨⟨_,Heap.get?_push_size _ rfl,rfl,rfl⟩,r.keep fun o e=>Heap.get?_push_of_some _ e⟩⟩
end
end D3
namespace D3
open PySem PySem.Spec
open PyProof.Rows hiding St
open L2 hiding St
section
variable{P:Program}{w:World}{A:Around}{E:Value→Shared→Prop}{s:Shared}{d:Addr}{es:Array DictEntry}{ep:Nat}
theorem Wu{L:Addr}{R:Result→Shared→Prop}(hh:A.handled=none)(nd:(d == sysModules)=false)(r:RawD s.heap d es ep)(hz:es.size≤sizeLine)(ne:L≠d)(hL:s.heap.get? L=some { cls:=.type "list",data:=.seq #[] 0 })(q:∀h' tk acc' c',(∀b o,b≠L→s.heap.get? b=some o→h'.get? b=some o)→h'.get? L=some { cls:=.type "list",dict:=none,data:=.seq acc' c',slots:=#[] }→acc'.toList=es.toList.map (·.key)→R (.ok (.ret (.ref L))) { s with heap:=h',toks:=tk }) :
  codeAny (model P w) A (.builtin "list.__iadd__" ⟨[.ref L,.ref d],[]⟩) R s:=by
 refine codeAny_builtin PySem.F.entry_list_iadd ?_;rw[Around.under_plainId PySem.F.plain_list_iadd _];refine W.kdl_extend (R:=R) (Yc nd) hh r L ne ne (.ref L) 0 hL (fun h' tk acc' c' hk hS' hacc=>q h' tk acc' c' hk hS' ?_) hz;apply List.ext_getElem?;intro i
 by_cases hi:i<acc'.size
 ·obtain⟨h1,h2⟩:=hacc.2 i acc'[i] (by simp[hi])
  rw[List.getElem?_map];simp[hi,h2,h1]
 ·rw[List.getElem?_eq_none (by simpa using hi),List.getElem?_eq_none (by have:=hacc.1;simp;omega)]
theorem Nu{Q:List Value→Shared→Prop}(hh:A.handled=none)(nd:(d == sysModules)=false)(r:RawD s.heap d es ep)(hz:es.size≤sizeLine)(q:∀(g:Heap) (tk:Nat),s.heap.objs.size≤g.objs.size→(∀b o,s.heap.get? b=some o→g.get? b=some o)→Q (es.toList.map (·.key)) { s with heap:=g,toks:=tk }):wpAny (model P w) A (collect (.ref d)) Q E s:=by
 have hlt:=r.lt;unfold collect;refine wpAny_bind (wpAny_runValue (codeAny_builtin PySem.F.entry_proto_collect ?_));rw[Around.under_plainId PySem.F.plain_proto_collect _];show wpAny _ A.in1 (newList [] >>= fun l=>again (.builtin "list.__iadd__" ⟨[l,.ref d],[]⟩)) _ _ s;refine wpAny_bind (wpAny_newObj_type (wpAny_pure ⟨plainId_quiet PySem.F.plain_list_iadd _,Wu hh nd (r.keep fun o e=>Heap.get?_push_of_some _ e) hz (Nat.ne_of_gt hlt) (Heap.get?_push_size _ rfl) fun h' tk acc' c' hk hS' e=>?_⟩));show wpAny _ A (load s.heap.objs.size >>= _) _ _ _;refine wpAny_bind (wpAny_load hS' (wpAny_pure ?_));rw[e];exact q _ _ (Nat.le_of_lt (Heap.lt_size hS')) fun b o h1=>hk b o (Nat.ne_of_lt (Heap.lt_size h1)) (Heap.get?_push_of_some _ h1)
theorem O2{key:Value→Int×Int}{Q:Value→Shared→Prop}(hh:A.handled=none)(nd:(d == sysModules)=false)(r:RawD s.heap d es ep)(hz:es.size≤63)(hv:∀v∈es.toList.map (·.key),A4 s.heap v (key v))(hb:∀v∈es.toList.map (·.key),0≤(key v).2∧(key v).2<1000)(hd:((es.toList.map (·.key)).map fun v=>rkP key (v,v)).Nodup)(q:∀(g h':Heap) (out:List Value) (n tk:Nat),out.Perm (es.toList.map (·.key))→(out.Pairwise fun x y=>rkP key (x,x)<rkP key (y,y))→s.heap.objs.size≤g.objs.size→(∀b o,s.heap.get? b=some o→h'.get? b=some o)→h'.get? g.objs.size=some { cls:=.type "list",data:=.seq out.toArray n }→Q (.ref g.objs.size) { s with heap:=h',toks:=tk }) :
  wpAny (model P w) A (call (.builtin "sorted") [.ref d]) Q E s:=by
 refine Calls.call_function_entry kind_sorted plain_sorted entry_sorted (args_sorted1 _) ?_;unfold Builtin.«sorted»;refine wpAny_bind (m:=checkCount "sorted" 1 1 _) (wpAny_pure (wpAny_bind (Nu (A:=A.in1) hh nd r (by rw[sizeLine_eq];omega) fun g tk big keep=>?_)))
 have hl:(es.toList.map (·.key)).length=es.size:=by simp
 generalize es.toList.map (·.key)=vs at *;refine wpAny_bind (wpAny_newList ?_ (by rw[sizeLine_eq];omega))
 have hoL:(g.push (seqObj "list" vs.toArray 0)).get? g.objs.size=some (seqObj "list" vs.toArray 0):=Heap.get?_push_size _ rfl;show wpAny _ _ _ _ _ { s with toks:=tk,heap:=g.push (seqObj "list" vs.toArray 0) };have pairs:∀s6:Shared,(∀b o,b≠g.objs.size→(g.push (seqObj "list" vs.toArray 0)).get? b=some o→s6.heap.get? b=some o)→∀v∈vs,A4 s6.heap v (key v):=fun s6 h6 v hv'=>by
  obtain⟨a,o,t,u,n,x1,x2,x3⟩:=hv v hv';have x4:=keep _ _ x2;exact⟨a,o,t,u,n,x1,h6 _ _ (Nat.ne_of_lt (Heap.lt_size x4)) (Heap.get?_push_of_some _ x4),x3⟩
 refine wpAny_bind (wpAny_holding (wpAny_call_entry slot_list_sort ⟨_,hoL,rfl⟩ entry_list_sort (Ie (kd:=tuples' true) (ok:=fun x=>x.1∈vs) (rk:=rkP key) hoL (by omega) (fun s6 h6 R qR h2=>Hx (pairs s6 h6) h2 qR) (fun s6 h6=>Ia (pairs s6 h6) hb) (fun v hv=>hv) hd fun out a1 a2=>⟨_,rfl,?_⟩) (args_list_sort _)))
 obtain⟨n,hn⟩:=sortedHeap_at (vs:=vs) (out:=out.toArray) hoL;refine wpAny_pure ⟨_,rfl,q g _ out n tk a1 a2 big (fun b o h0=>?_) hn⟩;have h1:=keep _ _ h0;have hb':b<g.objs.size:=Heap.lt_size h1;show(sortedHeap _ _ _ _).get? b=some o;rw[sortedHeap_old (Nat.ne_of_lt hb') (by rw[size_push'];exact Nat.lt_succ_of_lt hb')]
 exact Heap.get?_push_of_some _ h1
end
noncomputable def Ar(k:Int×Int):List Key:=[.inl k.1,.inl k.2]
noncomputable def cellD(k:Int×Int):D:=.tup [.int k.1,.int k.2]
noncomputable def Aw(a b:Int×Int):Prop:=a.1<b.1∨(a.1=b.1∧a.2<b.2)
theorem V6{h:Heap}{v:Value}{a b:Int×Int}(x:A4 h v a)(y:A4 h v b):a=b:=by
 obtain⟨p,o,t,u,n,e1,e2,_,e3⟩:=x;obtain⟨p',o',t',u',n',f1,f2,_,f3⟩:=y;rw[e1] at f1;cases f1;rw[e2] at f2;cases f2;rw[e3] at f3;injection f3 with g1 _;have g2:=congrArg Array.toList g1;simp only[List.cons.injEq,Value.int.injEq,and_true] at g2;exact Prod.ext g2.1.1 g2.2.1
open Classical in
noncomputable def Ak(h:Heap)(v:Value):Int×Int:=if z:∃ij,A4 h v ij then Classical.choose z else (0,0)
theorem E2{h:Heap}{v:Value}{a:Int×Int}(x:A4 h v a):Ak h v=a:=by
 have z:∃ij,A4 h v ij:=⟨a,x⟩;unfold Ak;rw[dif_pos z];exact V6 (Classical.choose_spec z) x
theorem Hl{α β γ:Type}{R:β→γ→Prop}{f:α→β}:∀{ks:List α} {ys:List γ},Paired R (ks.map f) ys→Paired (fun k y=>R (f k) y) ks ys
 |[],_,.nil=>.nil
 |_::_,_,.cons h t=>.cons h (Hl t)
theorem Fn{α β γ:Type}{R:α→β→Prop}{f:α→γ}{g:β→γ}(h:∀a b,R a b→f a=g b):∀{ks:List α} {ys:List β},Paired R ks ys→ks.map f=ys.map g
 |[],_,.nil=>rfl
 |_::_,_,.cons x t=>by rw[List.map_cons,List.map_cons,h _ _ x,Fn h t]
theorem Mp{α β:Type}{R:α→β→Prop}:∀{ks:List α} {ys:List β},Paired R ks ys→∀y∈ys,∃k∈ks,R k y
 |[],_,.nil,y,h=>by cases h
 |k::_,_,.cons x t,y,h=>by
  rcases List.mem_cons.mp h with rfl|h
  ·exact⟨k,List.mem_cons_self ..,x⟩
  ·obtain⟨k',h1,h2⟩:=Mp t y h;exact⟨k',List.mem_cons_of_mem _ h1,h2⟩
theorem Qt{α β γ:Type}{R:β→γ→Prop}{f:α→β}{g:α→γ}:∀{l:List α},(∀x∈l,R (f x) (g x))→Paired R (l.map f) (l.map g)
 |[],_=>.nil
 |x::r,h=>.cons (h x (List.mem_cons_self ..)) (Qt fun y hy=>h y (List.mem_cons_of_mem _ hy))
noncomputable def Qe:Value→Addr
 |.ref a=>a
 |_=>0
theorem Ou{α β:Type}{f:α→β}:∀{l:List α},l.Nodup→(∀x∈l,∀y∈l,f x=f y→x=y)→(l.map f).Nodup
 |[],_,_=>List.nodup_nil
 |x::r,h,hf=>by
  obtain⟨h1,h2⟩:=List.nodup_cons.mp h;rw[List.map_cons,List.nodup_cons];refine⟨fun z=>?_,Ou h2 fun a ha b hb=>hf a (List.mem_cons_of_mem _ ha) b (List.mem_cons_of_mem _ hb)⟩;obtain⟨y,hy,e⟩:=List.mem_map.mp z;exact h1 (hf x (List.mem_cons_self ..) y (List.mem_cons_of_mem _ hy) e.symm ▸ hy)
section
variable{X:Cx}
theorem Lw(hcalm:X.calm=true):CallR X (.builtin "sorted") (fun xs H Q=>∃(a:Addr) (ks:List ((Int×Int)×V)),xs=[.ref a]∧H a=some (.dT (ks.map fun k=>(Ar k.1,k.2)))∧ks.length≤63∧(∀k∈ks,0≤k.1.2∧k.1.2<1000)∧
  ∀p (ms:List (Int×Int)) (bs:List Addr),H p=none→ms.Perm (ks.map (·.1))→ms.Pairwise Aw→Paired (fun b m=>H b=some (.tup [.int m.1,.int m.2])) bs ms→Q (.ref p) (upd H p (.lst (bs.map V.ref)))):=by
 intro pins s σ H xs us Q I r h;obtain⟨a,ks,rfl,ha,hz,hb,q⟩:=h;obtain⟨u,rfl,rx⟩:=Ek r;cases rx;obtain⟨_,nd,ys,pr,o,es,ep,h1,h2,h3,h4,h5⟩:=(show ObjOk X.prog X.w H s.heap a (.dT _) from I.hok a _ ha);have raw:RawD s.heap a es ep:=⟨o,h1,h2,h3⟩;have pr:=Hl pr;have pairs:∀y∈ys,∃k∈ks,H y.2.1=some (.tup [.int k.1.1,.int k.1.2])∧A4 s.heap (.ref y.2.1) k.1:=fun y hy=>by
  obtain⟨k,hk,_,e,_⟩:=Mp pr y hy;have e:H y.2.1=some (.tup [.int k.1.1,.int k.1.2]):=e;obtain⟨_,its,rv,ox,hx,hc,n,hd⟩:=(show ObjOk X.prog X.w H s.heap y.2.1 (.tup _) from I.hok _ _ e);obtain⟨_,_,rfl,⟨t1,rfl⟩,t2,rfl⟩:=Vals.two rv;exact⟨k,hk,e,_,ox,t1,t2,n,rfl,hx,hc,hd⟩
 have ek:es.toList.map (·.key)=ys.map fun y=>Value.ref y.2.1:=by rw[h4,List.map_map];rfl
 have eks:(ys.map fun y=>Value.ref y.2.1).map (Ak s.heap)=ks.map (·.1):=by
  rw[List.map_map];refine(Fn (R:=fun k y=>H y.2.1=some (.tup [V.int k.1.1,.int k.1.2])∧y∈ys) (fun k y h=>?_) ?_).symm
  ·obtain⟨k',hk',e',pa⟩:=pairs y h.2;rw[h.1] at e';injection e' with e';injection e' with e';simp only[List.cons.injEq,V.int.injEq,and_true] at e';show k.1=Ak s.heap (.ref y.2.1);rw[E2 pa];exact Prod.ext e'.1 e'.2
  ·have:∀{a:List ((Int×Int)×V)} {b:List (List Key×Addr×Value)},Paired (fun k y=>(Ar k.1,k.2).1=y.1∧H y.2.1=some (.tup ((Ar k.1,k.2).1.map kV))∧L2.RelV (Ar k.1,k.2).2 y.2.2) a b→(∀y∈b,y∈ys)→Paired (fun k y=>H y.2.1=some (.tup [V.int k.1.1,.int k.1.2])∧y∈ys) a b:=fun {a b} h=>by
    induction h with
    |nil=>exact fun _=>.nil
    |cons x t ih=>exact fun hm=>.cons ⟨x.2.1,hm _ (List.mem_cons_self ..)⟩ (ih fun y hy=>hm y (List.mem_cons_of_mem _ hy))
   exact this pr fun _ h=>h
 have hk1:(ks.map (·.1)).Nodup:=by
  have e:ks.map (fun k=>Ar k.1)=ys.map (·.1):=Fn (fun k y h=>h.1) pr;rw[←e] at h5
  have:(ks.map (·.1)).map Ar=ks.map fun k=>Ar k.1:=by rw[List.map_map];rfl
  rw[←this] at h5;exact List.Pairwise.of_map Ar (fun a b h e=>h (congrArg Ar e)) h5
 have hb2:∀m∈ks.map (·.1),0≤m.2∧m.2<1000:=fun m hm=>by obtain⟨k,hk,rfl⟩:=List.mem_map.mp hm;exact hb k hk
 have rk:∀v,rkP (Ak s.heap) (v,v)=(Ak s.heap v).1*1000+(Ak s.heap v).2:=fun _=>rfl;have hes:es.size≤63:=by
  have:=congrArg List.length ek
  have:=congrArg List.length eks
  simp at *;omega
 refine O2 (key:=Ak s.heap) (I.ok.hd hcalm) nd raw hes ?_ ?_ ?_ fun g h' out n tk hp pw big keep hn=>?_
 ·rw[ek];intro v hv;obtain⟨y,hy,rfl⟩:=List.mem_map.mp hv;obtain⟨k,_,_,pa⟩:=pairs y hy;rw[E2 pa];exact pa
 ·rw[ek];intro v hv
  have:Ak s.heap v∈ks.map (·.1):=by rw[←eks];exact List.mem_map_of_mem hv
  exact hb2 _ this
 ·rw[ek];have e:((ys.map fun y=>Value.ref y.2.1).map fun v=>rkP (Ak s.heap) (v,v))=(ks.map (·.1)).map fun m=>m.1*1000+m.2:=by rw[←eks];simp only[List.map_map];rfl
  rw[e];refine Ou hk1 fun x hx y hy e=>?_
  have:=hb2 x hx;have:=hb2 y hy
  exact Prod.ext (by omega) (by omega)
 ·rw[ek] at hp;have hm:(out.map (Ak s.heap)).Perm (ks.map (·.1)):=by rw[←eks];exact hp.map _
  have hin:∀v∈out,∃b m,v=.ref b∧Ak s.heap v=m∧H b=some (.tup [.int m.1,.int m.2]):=fun v hv=>by
   obtain⟨y,hy,rfl⟩:=List.mem_map.mp (hp.mem_iff.mp hv);obtain⟨k,_,e,pa⟩:=pairs y hy;exact⟨_,k.1,rfl,E2 pa,e⟩
  have hbs:Vals ((out.map Qe).map V.ref) out:=by
   have:∀{l:List Value},(∀v∈l,∃b m,v=Value.ref b∧Ak s.heap v=m∧H b=some (.tup [.int m.1,.int m.2]))→Vals ((l.map Qe).map V.ref) l:=fun {l}=>by
    induction l with
    |nil=>exact fun _=>.nil
    |cons v r ih=>
     intro hl;obtain⟨b,m,rfl,_⟩:=hl v (List.mem_cons_self ..);exact .cons rfl (ih fun x hx=>hl x (List.mem_cons_of_mem _ hx))
   exact this hin
  have I2:=I.laid (h':=h') (t':=tk) (o:=.lst ((out.map Qe).map V.ref)) keep big (show ObjOk X.prog X.w _ _ _ (.lst _) from⟨by rw[List.length_map,List.length_map,hp.length_eq,List.length_map,sizeLine_eq];have:=congrArg List.length eks;simp at this;omega,out,n,hbs,hn⟩)
  refine⟨.ref g.objs.size,_,I2,rfl,q _ (out.map (Ak s.heap)) (out.map Qe) (I.hok.fresh big) hm ?_ ?_⟩
  ·rw[List.pairwise_map];refine pw.imp_of_mem fun {x y} hx hy e=>?_;have b1:=hb2 _ (hm.mem_iff.mp (List.mem_map_of_mem hx));have b2:=hb2 _ (hm.mem_iff.mp (List.mem_map_of_mem hy));rw[rk,rk] at e;unfold Aw;omega
  ·refine Qt fun v hv=>?_;obtain⟨b,m,rfl,e,z⟩:=hin v hv;rw[e];exact z
theorem Ti(hcalm:X.calm=true):QC X (.builtin "sorted") (fun ds G Q=>∃d,ds=[d]∧∃p,d=.ref p∧∃ks:List ((Int×Int)×D),G p=some (.dct (ks.map fun k=>(Ar k.1,k.2)))∧ks.length≤63∧(∀k∈ks,0≤k.1.2∧k.1.2<1000)∧
  ∀l (ms:List (Int×Int)),G l=none→ms.Perm (ks.map (·.1))→ms.Pairwise Aw→Q (.ref l) (Ab G l (.lst (ms.map cellD)))):=(Lw hcalm).imp fun xs H Q zz=>by
 obtain⟨ds,G,Q',dv,rg,⟨d,e,p,ep,ks,eg,hn,hb,q⟩,cl⟩:=zz;subst e ep;obtain⟨v,rfl,h⟩:=dv.one;cases h;obtain⟨ks',eh,r⟩:=rg p _ eg;have split:∀{a:List ((Int×Int)×D)} {b:List (List Key×V)},Paired (fun k q=>Ar k.1=q.1∧DV X.K H k.2 q.2) a b→∃c:List ((Int×Int)×V),c.map (fun k=>(Ar k.1,k.2))=b∧c.map (·.1)=a.map (·.1):=fun {a b} h=>by
  induction h with
  |nil=>exact⟨[],rfl,rfl⟩
  |@cons k q ks qs x t ih=>
   obtain⟨c,e1,e2⟩:=ih;refine⟨(k.1,q.2)::c,?_,?_⟩
   ·rw[List.map_cons,e1];show(Ar k.1,q.2)::qs=q::qs;rw[x.1]
   ·rw[List.map_cons,e2];rfl
 obtain⟨c,e1,e2⟩:=split (Hl r);rw[←e1] at eh;have hl:c.length=ks.length:=by have:=congrArg List.length e2;simpa using this
 refine⟨p,c,rfl,eh,by omega,fun k hk=>?_,fun l ms bs hl h1 h2 h3=>?_⟩
 ·have:k.1∈ks.map (·.1):=by rw[←e2];exact List.mem_map_of_mem hk
  obtain⟨k',hk',e⟩:=List.mem_map.mp this;rw[←e];exact hb k' hk'
 ·rw[e2] at h1;refine cl _ _ (q l ms (rg.free hl) h1 h2) _ (Ext.fresh hl) (rg.lst hl ?_) _ (.ref l)
  clear h1 h2
  induction h3 with
  |nil=>exact .nil
  |cons x t ih=>exact .cons (.tup x (.cons (.int _) (.cons (.int _) .nil))) ih
end
section
variable{X:Cx}{k:Nat}
theorem Om(hr:Room k X.A):X.A.units+1<cLine:=by have:=hr.un;omega
theorem Sc(hr:Room k X.A):OpR X (compareOp .NotIn) (fun x y H Q=>∃a kvs ks b,y=.ref a∧H a=some (.dT kvs)∧x=.ref b∧H b=some (.tup (ks.map kV))∧Q (.bl (!(A8 kvs ks).isSome)) H):=by
 intro pins s σ H x y v u Q I rx ry h;obtain⟨a,kvs,ks,b,rfl,ea,rfl,eb,q⟩:=h;obtain rfl:u=Value.ref a:=ry;exact Zu (Om hr) I (DGet.t ea eb) rx fun s' I'=>⟨.bl _,H,I',rfl,q⟩
theorem Ru(hr:Room k X.A):PSet X (fun o i v H Q=>∃a kvs ks b,o=.ref a∧H a=some (.dT kvs)∧i=.ref b∧H b=some (.tup (ks.map kV))∧kvs.length<sizeLine∧Q (upd H a (.dT (Bz kvs ks v)))):=by
 intro pins s σ H o i v ov iv u Q I ro ri rv h;obtain⟨a,kvs,ks,b,rfl,ea,rfl,eb,hl,q⟩:=h;obtain rfl:ov=Value.ref a:=ro;exact J4 (Om hr) I (DPut.t ea eb hl) ri rv fun s' I'=>⟨_,I',q⟩
theorem Hz{pins:List (Addr×Obj)}{σ:L2.St}{H:Hp}{s:Shared}{A:Around}{E:Value→Shared→Prop}{a b:Addr}{kvs:List (List Key×V)}{ks:List Key}{v:V}{r:Value}{Q:Unit→Shared→Prop}(hu:(tupleKind (Al X.prog X.w)).room A)(I:Inv X pins σ H s)(e:H a=some (.dT kvs))(eb:H b=some (.tup (ks.map kV)))(l:kvs.length<sizeLine)(rv:RelV v r)(h:∀s',Inv X pins σ (upd H a (.dT (Bz kvs ks v))) s'→(∀c o,c≠a→s.heap.get? c=some o→s'.heap.get? c=some o)→Q () s'):wpAny (model X.prog X.w) A (dictSet a (.ref b) r) Q E s:=by
 obtain⟨z,hd,xs,rel,dd⟩:=Abc I.hok e;have hz:xs.length≤sizeLine:=by rw[←Paired.length rel];exact z
 have hl:(Bz kvs ks v).length≤sizeLine:=by have:=Bw kvs ks v;omega
 refine wpAny_dictSet_heap (hsz:=hz) hu (Kt I.hok eb) dd fun h' dd' hs=>h _ ?_ fun c o hc eo=>(hs.2 c hc).trans eo;obtain⟨q,es,ep,hq,h2,h3,h4,_,h5⟩:=dd';refine Da I (by rw[e];exact True.intro) hs ⟨q,hq⟩ ⟨hl,hd,_,(rel.put ks eb rv).keeps fun c ys ec=>?_,q,es,ep,hq,h2,h3,h4,h5⟩
 rw[Ad (F1 ec e (fun z=>nomatch z))];exact ec
end
theorem Wx{P:Program}{w:World}{A:Around}{E:Value→Shared→Prop}{s:Shared}{env:Env}{k v:Expr}{pos:Pos}{Q:Value→Shared→Prop}(h:wpAny (model P w) A (eval k env) (fun kv s1=>wpAny (model P w) A (eval v env) (fun vv s2=>wpAny (model P w) A (dictSet s.heap.objs.size kv vv) (fun _ s3=>Q (.ref s.heap.objs.size) s3) E s2) E s1) E
   { s with heap:=s.heap.push { cls:=.type "dict",data:=.dict #[] } }):wpAny (model P w) A (eval (.Dict [some k] [v] pos) env) Q E s:=by
 rw[arm_eval_Dict,zip_pairTrees [some k] [v] env pos rfl rfl,dictDisplay_pairs _ (by intro z;cases z) (by rw[pairTrees_length [some k] [v] env pos rfl rfl];exact(by decide:1<17))]
 refine wpAny_bind (wpAny_standAt (wpAny_bind ?_));unfold subDict;refine wpAny_bind (wpAny_alloc (wpAny_bind (wpAny_holding ?_)));rw[if_pos (by rw[pairTrees_length [some k] [v] env pos rfl rfl];exact(by decide:1≤15))]
 refine wpAny_bind (pairTrees_cons_walk (wpAny_mono h (fun kv s1 h1=>wpAny_mono h1 (fun vv s2 h2=>pairTrees_nil_walk ?_) fun _ _ e=>e) fun _ _ e=>e));refine wpAny_holding (wpAny_bind ?_);rw[List.forIn_cons];refine wpAny_bind (wpAny_bind (wpAny_mono h2 (fun _ s3 h3=>wpAny_pure ?_) fun _ _ e=>e));dsimp only;rw[List.forIn_nil];exact wpAny_pure (wpAny_pure (wpAny_pure (wpAny_pure h3)))
section
variable{X:Cx}{k:Nat}
noncomputable def Ab6(tk tv:TE):TE:=fun σ H Q=>∀p,H p=none→tk σ (upd H p (.dT [])) fun x H1=>tv σ H1 fun y H2=>H2 p=some (.dT [])∧∃b ks,x=.ref b∧H2 b=some (.tup (ks.map kV))∧Q (.ref p) (upd H2 p (.dT [(ks,y)]))
theorem Acf(hr:Room k X.A):(tupleKind (Al X.prog X.w)).room X.A:=show X.A.units<cLine by have:=hr.un;omega
theorem V2{a b:Expr}{ta tb:TE}{pos:Pos}(hr:Room k X.A)(ha:PE X a ta)(hb:PE X b tb):PE X (.Dict [some a] [b] pos) (Ab6 ta tb):=by
 intro pins s σ H Q I q;have hn:=I.hok.fresh (Nat.le_refl s.heap.objs.size);have I1:=I.laid (a:=s.heap.objs.size) (o:=.dT []) (h':=s.heap.push { cls:=.type "dict",data:=.dict #[] }) (t':=s.toks) (fun _ _ q=>Heap.get?_push_of_some _ q) (Nat.le_refl _) (Nb s.heap I.big);refine Wx (thn (ha pins _ σ _ _ I1 (q _ hn)) fun u s1 ⟨x,H1,I2,rx,q1⟩=>thn (hb pins s1 σ H1 _ I2 q1) fun u2 s2 ⟨y,H2,I3,ry,e0,c,ks,ex,ec,q2⟩=>?_);subst ex;obtain rfl:u=Value.ref c:=rx;exact Hz (Acf hr) I3 e0 ec (by decide +kernel) ry fun s3 I4 _=>⟨.ref s.heap.objs.size,_,I4,rfl,q2⟩
end
theorem D8:entryFor table "dict.update.loop" = some Builtin.«dict.update.loop»:=entryFor_of_tree (by kernel_rfl)
theorem B6:plainId "dict.update.loop" = true:=by decide +kernel
theorem Lu:typeLookup (.type "list") "keys" = pure none:=by rw[typeLookup_type,builtinLookup_eq_fast];kernel_rfl
theorem Nr{P:Program}{w:World}{A:Around}{E:Value→Shared→Prop}{s:Shared}{a:Addr}{o:Obj}{xs:Array Value}{k:Nat}{Q:Option Value→Shared→Prop}(hx:s.heap.get? a=some o)(hc:o.cls=.type "list")(hdat:o.data=.seq xs k)(hd:o.dict=none)(hA:A.handled=none)(h:∀h' tk,(∀b o,s.heap.get? b=some o→h'.get? b=some o)→Q none { s with heap:=h',toks:=tk }):wpAny (model P w) A (getAttr? (.ref a) "keys") Q E s:=by
 obtain⟨c,dct,dat,sl⟩:=o;simp only at hc hdat hd;subst hc hdat hd;obtain⟨hp,g,d,tk,os⟩:=s;have hT:∀tk',(⟨hp,g,d,tk',os⟩:Shared).TypeIs (.ref a) "list":=fun _=>⟨_,hx,rfl⟩;have f1:=sub_AttributeError;have f3:=F.slot_list_getattribute.lookup;have f4:=F.slot_list_getattribute.bind (.ref a);have f5:=am_list_getattr_none;have miss:=meets_getattribute_miss_list a xs k sl "keys" (hmiss:=Lu) (hname:=by decide)
 unfold getAttr? getAttrBy? getAttrBy
 repeat (any_goals (first|assumption|exact hT _|((with_reducible show wpAny _ _ (call (Value.builtin "list.__getattribute__") _ _) _ _ _);refine call_meets F.slot_list_getattribute (hT _) am_entry_list_getattribute (F.args_list_getattribute_2 _ _) (miss _) ⟨hx,hA,fun h' tk' e hx'=>?_⟩)|wp_step))
 obtain⟨t',u',he⟩:=hx'.there;show wpAny _ _ (getattributeRaised _ _ _ _ _ _ _) _ _ _;unfold getattributeRaised;have hE:∀tk',(⟨h',g,d,tk',os⟩:Shared).TypeIs (.ref e) "AttributeError":=fun _=>⟨_,he,rfl⟩
 repeat (any_goals (first|assumption|exact hE _|exact h _ _ hx'.of.keeps|wp_step))
noncomputable abbrev Lg(H:Hp):List V→List (List Key×V)→Prop:=Paired fun y e=>∃b c,y=.ref b∧H b=some (.tup [.ref c,e.2])∧H c=some (.tup (e.1.map kV))
noncomputable def Ed(acc es:List (List Key×V)):List (List Key×V):=es.foldl (fun acc e=>Bz acc e.1 e.2) acc
theorem D7:∀(es acc:List (List Key×V)),(Ed acc es).length≤acc.length+es.length
 |[],acc=>Nat.le_refl _
 |p::r,acc=>by
  have h1:=D7 r (Bz acc p.1 p.2);have h2:=Bw acc p.1 p.2;show(Ed (Bz acc p.1 p.2) r).length≤_;rw[List.length_cons];omega
theorem Jn{α β:Type}{R:α→β→Prop}:∀{as:List α} {bs:List β} {i:Nat} {a:α},Paired R as bs→as[i]? = some a→∃b,bs[i]? = some b∧R a b
 |_,_,_,_,.nil,e=>by simp at e
 |_,_,0,_,.cons h _,e=>by simp at e;subst e;exact⟨_,rfl,h⟩
 |_,_,i+1,a,.cons _ t,e=>by
  obtain⟨b,h1,h2⟩:=Jn (i:=i) (a:=a) t (by simpa using e)
  exact⟨b,by simpa using h1,h2⟩
section
variable{X:Cx}{pins:List (Addr×Obj)}{σ:L2.St}{H:Hp}{p a it:Addr}{ys:List V}{es:List (List Key×V)}
theorem U6{A:Around}{R:Result→Shared→Prop}(hu:A.units+1<cLine)(hh:A.handled=none)(hp:H p=none)(hy:SqL X.K H a ys)(pr:Lg H ys es)(hz:es.length<sizeLine)(q:∀s',Inv X pins σ (upd H p (.dT (Ed [] es))) s'→R (.ok (.ret .none)) s'):∀(m i:Nat) (s:Shared) (acc:List (List Key×V)),m+i=ys.length→acc=Ed [] (es.take i)→Inv X pins σ (upd H p (.dT acc)) s→Di X pins (upd H p (.dT acc)) it→s.heap.IsListIter it a i→
   codeAny (model X.prog X.w) A (.builtin "dict.update.loop" ⟨[.ref p,.ref it,rawInt i,.none],[]⟩) R s:=by
 have hne:∀{b:Addr} {o u:HO},H b=some o→upd H p u b=some o:=fun {b o u} e=>by rw[Ad (Ao e hp)];exact e
 have hy':∀u,SqL X.K (upd H p u) a ys:=fun u=>hy.elim (fun h=>.inl (h.elim (fun e=>.inl (hne e)) fun⟨o,e⟩=>.inr ⟨o,hne e⟩)) .inr;intro m
 induction m with
 |zero=>
  intro i s acc hm hacc I hf st;obtain⟨its,rv,pl,hz'⟩:=I.list (hy' _);obtain⟨f0,f1,f2,f3,f4,f5⟩:=hf;have hl:=rv.length;refine codeAny_builtin D8 ?_;rw[Around.under_plainId B6 _];unfold Builtin.«dict.update.loop»;refine wpAny_bind (wpAny_pyNext_list_end (A:=A.in1) hh st pl.isList (by simp;omega) fun h' eb=>?_)
  have I1:Inv X pins σ (upd H p (.dT acc)) { s with heap:=h' }:=I.turned (t':=s.toks) (fun b o hb e=>eb b o hb e) f0 f1 f3 f4 f5;show wpAny _ _ (Builtin.Dict.addKeywords p [] >>= _) _ _ _;refine wpAny_bind (wpAny_pure (wpAny_pure ?_));refine q _ ?_;have e:acc=Ed [] es:=by rw[hacc,List.take_of_length_le (by have:=Paired.length pr;omega)]
  rw[←e];exact I1
 |succ m ih=>
  intro i s acc hm hacc I hf st;obtain⟨its,rv,pl,hz'⟩:=I.list (hy' _);have hl:=rv.length;have hi:i<ys.length:=by omega
  obtain⟨y,hyi⟩:∃y,ys[i]? = some y:=⟨ys[i],by simp[hi]⟩
  obtain⟨u,hu',ru⟩:=rv.get hyi;obtain⟨e,hei,b,c,rfl,hb,hc⟩:=Jn pr hyi;obtain rfl:u=Value.ref b:=ru;obtain⟨f0,f1,f2,f3,f4,f5⟩:=id hf;refine codeAny_builtin D8 ?_;rw[Around.under_plainId B6 _];unfold Builtin.«dict.update.loop»;refine wpAny_bind (wpAny_pyNext_list_item st pl.isList (x:=.ref b) (by simpa using hu') fun h' st' sb=>?_)
  have I1:Inv X pins σ (upd H p (.dT acc)) { s with heap:=h' }:=I.turned (t':=s.toks) (fun b o hb e=>(sb.2 b hb).trans e) f0 f1 f3 f4 f5;obtain⟨_,tits,tr,o,ho,hcl,n,hdt⟩:=(show ObjOk X.prog X.w _ h' b (.tup _) from I1.hok b _ (hne hb));obtain⟨_,v,rfl,rfl,rv2⟩:=Vals.two tr;have hT:(⟨h',s.gens,s.drawn,s.toks,s.os⟩:Shared).TypeIs (.ref b) "tuple":=⟨_,ho,hcl⟩;show wpAny _ _ (holding _ _ >>= _) _ _ _;refine wpAny_bind (wpAny_holding (wpAny_bind (wpAny_tryCatch ?_)));unfold Builtin.Dict.pairItems;refine wpAny_bind (wpAny_typeOf hT ?_);rw[if_pos (by decide)]
  refine wpAny_bind (wpAny_seqItems ho hdt (wpAny_pure ?_));show wpAny _ _ (holding [Value.ref c,v] (dictSet p (.ref c) v)) _ _ _;have hlen:acc.length<sizeLine:=by
   have:=D7 (es.take i) []
   rw[←hacc,List.length_take] at this;simp at this;omega
  refine wpAny_holding (Hz (tupleKind_room_in1 hu) I1 Ah (hne hc) hlen rv2 fun s2 I2 kp=>?_);have hip:it≠p:=fun z=>by rw[z,Ah] at f0;cases f0
  refine wpAny_pure ⟨plainId_quiet B6 _,?_⟩;rw[Xr] at I2;refine ih (i+1) s2 _ (by omega) ?_ I2 ⟨?_,f1,f2,f3,f4,f5⟩ (st'.at fun o e=>kp _ _ hip e)
  ·have et:es.take (i+1)=es.take i++[e]:=by rw[List.take_add_one,hei];rfl
   rw[et];show _=List.foldl _ _ _;rw[List.foldl_append,hacc];rfl
  ·rw[Ad hip];rw[Ad hip] at f0;exact f0
theorem Po{k:Nat}(hcalm:X.calm=true)(hr:Room k X.A):CallR X (.type "dict") (fun xs H Q=>∃(a:Addr) (ys:List V) (es:List (List Key×V)),xs=[.ref a]∧SqL X.K H a ys∧Lg H ys es∧es.length<sizeLine∧∀p,H p=none→Q (.ref p) (upd H p (.dT (Ed [] es)))):=by
 intro pins s σ H xs us Q I r h;obtain⟨a,ys,es,rfl,hy,pr,hz,q⟩:=h;obtain⟨u,rfl,rx⟩:=Ek r;cases rx;have hn:=I.hok.fresh (Nat.le_refl s.heap.objs.size);have I1:=I.laid (a:=s.heap.objs.size) (o:=.dT []) (h':=s.heap.push { cls:=.type "dict",data:=.dict #[] }) (t':=s.toks) (fun _ _ q=>Heap.get?_push_of_some _ q) (Nat.le_refl _) (Nb s.heap I.big);refine callType_codes (Q₁:=fun obj s₁=>obj=.ref s.heap.objs.size∧s₁={ s with heap:=s.heap.push { cls:=.type "dict",data:=.dict #[] } }) F.kt_called_dict (F.kt_typeCall_dict_1 _) F.entry_dict_init (kt_code_dict_new _ ⟨rfl,rfl⟩) ?_;rintro obj s₁ ⟨rfl,rfl⟩;have hty:({ s with heap:=s.heap.push { cls:=.type "dict",data:=.dict #[] } }:Shared).TypeIs (.ref s.heap.objs.size) "dict":=⟨_,Heap.get?_push_size _ rfl,rfl⟩;refine⟨hty,F.args_dict_init_2 _ _,?_⟩;unfold Builtin.«dict.__init__»;refine wpAny_bind ?_;unfold Builtin.Dict.selfAndRest;refine wpAny_bind (wpAny_notOrdered_dict hty ?_);show wpAny _ _ (pure (s.heap.objs.size,[Value.ref a])) _ _ _;refine wpAny_pure ?_;show wpAny _ _ (Builtin.Dict.updateFrom "dict.__init__" s.heap.objs.size (.ref a) [] .none) _ _ _;unfold Builtin.Dict.updateFrom;have hy1:SqL X.K (upd H s.heap.objs.size (.dT [])) a ys:=hy.elim (fun h=>.inl (h.elim (fun e=>.inl (by rw[Ad (Ao e hn)];exact e)) fun⟨o,e⟩=>.inr ⟨o,by rw[Ad (Ao e hn)];exact e⟩)) .inr
 obtain⟨its,rv,pl,hz'⟩:=I1.list hy1;obtain⟨o,n,ho,hcl,hdc,hdt⟩:=id pl;refine wpAny_bind (wpAny_typeOf (show({ s with heap:=s.heap.push { cls:=.type "dict",data:=.dict #[] } }:Shared).TypeIs (.ref a) "list" from⟨_,ho,hcl⟩) ?_);rw[if_pos (by decide)]
 refine wpAny_bind (Nr ho hcl hdt hdc (I.ok.hd hcalm) fun h2 tk kp2=>?_);have I2:Inv X pins σ (upd H s.heap.objs.size (.dT [])) { s with heap:=h2,toks:=tk }:=I1.kept (h':=h2) (t':=tk) kp2;obtain⟨its2,rv2,pl2,_⟩:=I2.list hy1;show wpAny _ _ (rule _ >>= _) _ _ _;refine wpAny_bind (wpAny_rule (wpAny_bind (wpAny_pyIter_list pl2.isList (wpAny_pure ⟨plainId_quiet B6 _,?_⟩))));have st0:Heap.IsListIter (h2.push { cls:=.type "list_iterator",data:=.fields #[.ref a,.int 0 0] }) h2.objs.size a 0:=⟨_,Heap.get?_push_size _ rfl,rfl,rfl⟩;have I3:Inv X pins σ (upd H s.heap.objs.size (.dT [])) { s with heap:=h2.push { cls:=.type "list_iterator",data:=.fields #[.ref a,.int 0 0] },toks:=tk }:=I2.kept (t':=tk) fun b o e=>Heap.get?_push_of_some _ e;have f3:Di X pins (upd H s.heap.objs.size (.dT [])) h2.objs.size:=I2.fpOk (Nat.le_refl _) (I2.hok.fresh (Nat.le_refl _));have L:=fun R q=>U6 (X:=X) (A:=X.A.in1) (R:=R) (p:=s.heap.objs.size) (it:=h2.objs.size) (pins:=pins) (σ:=σ) (show X.A.units+1+1<cLine by have:=hr.un;omega) (I.ok.hd hcalm) hn hy pr hz q ys.length 0 _ [] (by omega) rfl I3 f3 st0
 exact L _ fun s' I'=>⟨rfl,.ref s.heap.objs.size,_,I',rfl,q _ hn⟩
end
noncomputable def Qc:List D→Option (List Key)
 |[]=>some []
 |d::r=>match Fb d,Qc r with
  |some k,some ks=>some (k::ks)
  |_,_=>none
noncomputable def Je:D→Option (List Key)
 |.tup ds=>Qc ds
 |_=>none
theorem Mx{K:W.Frag}{H:Hp}:∀{ds:List D} {ks:List Key} {vs:List V},Qc ds=some ks→DVs K H ds vs→vs=ks.map kV
 |[],_,_,e,.nil=>by cases e;rfl
 |d::r,ks,_,e,.cons h t=>by
  simp only[Qc] at e
  split at e
  ·rename_i k ks' h1 h2;cases e;rw[List.map_cons,Bx h1 h,Mx h2 t]
  ·cases e
theorem E1{K:W.Frag}{H:Hp}{d:D}{v:V}{k:List Key}(e:Je d=some k)(dv:DV K H d v):∃b,v=.ref b∧H b=some (.tup (k.map kV)):=by
 cases dv with
 |tup e' r=>exact⟨_,rfl,by rw[←Mx e r];exact e'⟩
 |_=>cases e
theorem Ox{H:Hp}{p:Addr}{ks:List (List Key×V)}{u:HO}(e:H p=some (.dT ks)):Ext H (upd H p u):=Ext.write e (fun xs z=>by cases z) (fun ob w z=>by cases z)
theorem RelG.dtW{K:W.Frag}{H:Hp}{G:Gp}(r:RelG K H G){p:Addr}{ks ks':List (List Key×V)}{kvs':List (List Key×D)}(e:H p=some (.dT ks))(pr:Paired (Ent (List Key) K H) kvs' ks'):RelG K (upd H p (.dT ks')) (Ab G p (.dct kvs')):=by
 have x:Ext H (upd H p (.dT ks')):=Ox e;intro a o ea
 by_cases ha:a=p
 ·subst ha;rw[Aa] at ea;cases ea;exact⟨ks',Ah,L2.Paired.mapP pr fun _ _ z=>⟨z.1,z.2.ext x⟩⟩
 ·rw[Ac ha] at ea;exact(r a o ea).upd x (.inr ha)
theorem RelG.dtN{K:W.Frag}{H:Hp}{G:Gp}(r:RelG K H G){p:Addr}{ks:List (List Key×V)}{kvs:List (List Key×D)}(hp:H p=none)(pr:Paired (Ent (List Key) K H) kvs ks):RelG K (upd H p (.dT ks)) (Ab G p (.dct kvs)):=by
 intro a o ea
 by_cases ha:a=p
 ·subst ha;rw[Aa] at ea;cases ea;exact⟨ks,Ah,L2.Paired.mapP pr fun _ _ z=>⟨z.1,z.2.ext (Ext.fresh hp)⟩⟩
 ·rw[Ac ha] at ea;exact(r a o ea).upd (Ext.fresh hp) (.inl hp)
section
variable{X:Cx}{n:Nat}{a b:Expr}{ta tb:DTE}{pos:Pos}
noncomputable def dTIn(neg:Bool):DR2:=fun x y G Q=>∃p,y=.ref p∧∃kvs,G p=some (.dct kvs)∧∃k,Je x=some k∧Q (.bl (if neg=true then !(A1 kvs k).isSome else (A1 kvs k).isSome)) G
theorem o_tnotin(hr:Room n X.A):QOp X (compareOp .NotIn) (dTIn true):=L2.OpR.imp (Sc hr) fun x y H Q zz=>by
 obtain⟨dx,dy,G,Q',hx,hy,rg,⟨p,ep,kvs,eg,k,ek,q⟩,cl⟩:=zz;subst ep;cases hy;obtain⟨ks,eh,r⟩:=rg p _ eg;obtain⟨c,rfl,ec⟩:=E1 ek hx;exact⟨p,ks,k,c,rfl,eh,rfl,ec,by rw[isSome_eq r];exact cl _ _ q H (Ext.refl H) rg _ (.bl _)⟩
noncomputable def Abg:Gz:=fun o i v G Q=>∃p,o=.ref p∧∃k,Je i=some k∧∃kvs,G p=some (.dct kvs)∧kvs.length<sizeLine∧Q (Ab G p (.dct (Cg kvs k v)))
theorem s_dictT(hr:Room n X.A):Xm X Abg:=(Ru hr).imp fun o i v H Q zz=>by
 obtain⟨d1,d2,d3,G,Q',h1,h2,h3,rg,⟨p,e1,k,ek,kvs,eg,hl,q⟩,cl⟩:=zz;subst e1;cases h1;obtain⟨ks,eh,r⟩:=rg p _ eg;obtain⟨c,rfl,ec⟩:=E1 ek h2;exact⟨p,ks,k,c,rfl,eh,rfl,ec,by rw[←Es r];exact hl,cl _ q _ (Ox eh) (rg.dtW eh (Er h3 r))⟩
noncomputable def Uv(tk tv:DTE):DTE:=fun σ G Q=>∀p,G p=none→tk σ (Ab G p (.dct [])) fun x G1=>tv σ G1 fun y G2=>G2 p=some (.dct [])∧∃k,Je x=some k∧Q (.ref p) (Ab G2 p (.dct [(k,y)]))
theorem q_disp1(hr:Room n X.A)(ha:QE X a ta)(hb:QE X b tb):QE X (.Dict [some a] [b] pos) (Uv ta tb):=(V2 hr ha hb).imp fun σ H Q zz=>by
 obtain⟨σD,G,Q',rs,rg,h,cl⟩:=zz;intro p hp;refine⟨σD,_,_,rs.ext (Ext.fresh hp),rg.dtN hp .nil,h p (rg.free hp),fun x G1 h1 H1 x1 rg1 v dv=>?_⟩;refine⟨σD,G1,_,(rs.ext (Ext.fresh hp)).ext x1,rg1,h1,fun y G2 zz H2 x2 rg2 v2 dv2=>?_⟩;obtain⟨eg,k,ek,q⟩:=zz;obtain⟨ks,eh,r⟩:=rg2 p _ eg;cases r;obtain⟨c,rfl,ec⟩:=E1 ek (dv.ext x2);refine⟨eh,c,k,rfl,ec,cl _ _ q _ (((Ext.fresh hp).trans x1).trans (x2.trans (Ox eh))) (rg2.dtW eh (.cons ⟨rfl,dv2⟩ .nil)) _ (.ref p)⟩
noncomputable def Ec:List D→Option (List (List Key×D))
 |[]=>some []
 |.tup [x,y]::r=>match Je x,Ec r with
  |some k,some es=>some ((k,y)::es)
  |_,_=>none
 |_=>none
theorem Jm{K:W.Frag}{H:Hp}:∀{ds:List D} {es:List (List Key×D)} {vs:List V},Ec ds=some es→DVs K H ds vs→∃es':List (List Key×V),Lg H vs es'∧Paired (Ent (List Key) K H) es es'
 |[],_,_,e,.nil=>by cases e;exact⟨[],.nil,.nil⟩
 |.tup [x,y]::r,es,_,e,.cons h t=>by
  simp only[Ec] at e
  split at e
  ·rename_i k es' h1 h2;cases e;cases h with
   |tup e' rr=>
    obtain⟨v,w,rfl,dx,dy⟩:=rr.two;obtain⟨es2,p1,p2⟩:=Jm h2 t;obtain⟨c,rfl,ec⟩:=E1 h1 dx;exact⟨(k,w)::es2,.cons ⟨_,c,rfl,e',ec⟩ p1,.cons ⟨rfl,dy⟩ p2⟩
  ·cases e
noncomputable def Ks(acc es:List (List Key×D)):List (List Key×D):=es.foldl (fun acc e=>Cg acc e.1 e.2) acc
theorem J2{K:W.Frag}{H:Hp}:∀{es:List (List Key×D)} {es':List (List Key×V)},Paired (Ent (List Key) K H) es es'→∀{acc:List (List Key×D)} {acc':List (List Key×V)},Paired (Ent (List Key) K H) acc acc'→Paired (Ent (List Key) K H) (Ks acc es) (Ed acc' es')
 |_,_,.nil,_,_,r=>r
 |(a,x)::_,_,.cons (b:=(b,y)) h t,acc,acc',r=>by
  cases(show a=b from h.1);exact J2 t (Er h.2 r)
theorem c_dictT(hcalm:X.calm=true)(hr:Room n X.A):QC X (.type "dict") (fun ds G Q=>∃d,ds=[d]∧∃l,d=.ref l∧∃its,G l=some (.lst its)∧∃es,Ec its=some es∧es.length<sizeLine∧∀p,G p=none→Q (.ref p) (Ab G p (.dct (Ks [] es)))):=
 (Po hcalm hr).imp fun xs H Q zz=>by
 obtain⟨ds,G,Q',dv,rg,⟨d,e,l,el,its,eg,es,ee,hz,q⟩,cl⟩:=zz;subst e el;obtain⟨v,rfl,h⟩:=dv.one;cases h;obtain⟨ys,ey,r⟩:=rg l _ eg;obtain⟨es',p1,p2⟩:=Jm ee r;exact⟨l,ys,es',rfl,.inl (.inl ey),p1,by rw[←Es p2];exact hz,fun p hp=>cl _ _ (q p (rg.free hp)) _ (Ext.fresh hp) (rg.dtN hp (J2 p2 .nil)) _ (.ref p)⟩
end
noncomputable def Bi(rs:List (Int×Int)):GO:=.dct (rs.map fun c=>(Ar c,D.bl true))
theorem J7{a b:Int×Int}(h:Ar a=Ar b):a=b:=by
 unfold Ar at h;simp only[List.cons.injEq,Sum.inl.injEq,and_true] at h;exact Prod.ext h.1 h.2
theorem Db{c:Int×Int}:Je (cellD c)=some (Ar c):=rfl
theorem Jh{c:Int×Int}:∀{rs:List (Int×Int)},(A1 (rs.map fun c=>(Ar c,D.bl true)) (Ar c)).isSome=decide (c∈rs)
 |[]=>by simp[A1]
 |x::r=>by
  unfold A1;rw[List.map_cons,List.find?_cons]
  by_cases h:x=c
  ·subst h;simp
  ·have h':Ar x≠Ar c:=fun z=>h (J7 z)
   have:=Jh (c:=c) (rs:=r)
   unfold A1 at this;simp only[h',decide_false] at *;rw[this];simp[Ne.symm h]
noncomputable def C7(rs:List (Int×Int))(c:Int×Int):List (Int×Int):=if c∈rs then rs else rs++[c]
theorem Fm{c:Int×Int}{rs:List (Int×Int)}:Cg (rs.map fun c=>(Ar c,D.bl true)) (Ar c) (D.bl true)=(C7 rs c).map fun c=>(Ar c,D.bl true):=by
 unfold Cg C7;have e:((rs.map fun c=>(Ar c,D.bl true)).any fun kv=>decide (kv.1=Ar c))=decide (c∈rs):=by
  rw[List.any_map,Bool.eq_iff_iff];simp only[List.any_eq_true,Function.comp_apply,decide_eq_true_eq];exact⟨fun⟨x,hx,e⟩=>J7 e ▸ hx,fun h=>⟨c,h,rfl⟩⟩
 rw[e]
 by_cases h:c∈rs
 ·rw[if_pos (by simpa using h),if_pos h,List.map_map]
  refine List.map_congr_left fun x _=>?_;show(if Ar x=Ar c then _ else _)=_
  split<;>rfl
 ·rw[if_neg (by simpa using h),if_neg h,List.map_append];rfl
noncomputable def fiv(m i:Nat):Nat:=(i*5+1) % (m+1)
noncomputable def orb(m:Nat):Nat→Nat→List Nat
 |0,_=>[]
 |n+1,i=>i::orb m n (fiv m i)
noncomputable def Od(m:Nat):Nat→Nat→Nat
 |0,i=>i
 |n+1,i=>Od m n (fiv m i)
theorem K5(m:Nat):∀(n i e:Nat),e∈orb m n i→∃k,k<n∧Od m k i=e
 |0,_,_,h=>by simp[orb] at h
 |n+1,i,e,h=>by
  rcases List.mem_cons.mp h with rfl|h
  ·exact⟨0,by omega,rfl⟩
  ·obtain⟨k,hk,e⟩:=K5 m n _ e h;exact⟨k+1,by omega,e⟩
theorem E4(m:Nat):∀(a b i:Nat),Od m (a+b) i=Od m b (Od m a i)
 |0,b,i=>by rw[Nat.zero_add];rfl
 |a+1,b,i=>by rw[show a+1+b=(a+b)+1 by omega];exact E4 m a b _
structure Round(m:Nat):Prop where
 all:∀e,e<m+1→e∈orb m (m+1) 0
 rnd:Od m (m+1) 0=0
theorem Round.to{m:Nat}(R:Round m){i e:Nat}(hi:i≤m)(he:e≤m):∃k,k≤m∧Od m k i=e:=by
 obtain⟨a,ha,ea⟩:=K5 m _ _ _ (R.all i (by omega))
 obtain⟨b,hb,eb⟩:=K5 m _ _ _ (R.all e (by omega))
 by_cases h:a≤b
 ·refine⟨b-a,by omega,?_⟩
  rw[←ea,←E4,show a+(b-a)=b by omega,eb]
 ·refine⟨(m+1-a)+b,by omega,?_⟩
  rw[←ea,←E4,show a+(m+1-a+b)=(m+1)+b by omega,E4,R.rnd,eb]
structure SOkC(w:World)(es:Array (Int×Value))(t:SetTable)(L:List (Int×Value)):Prop where
 tok:TOk w t
 fit:t.fits es.size=true
 pm:es.toList.Perm L
 bnd:∀x∈t.place.toList,x≤t.mask
 msk:t.mask=7∧L.length≤4∨t.mask=31∧L.length≤18∨t.mask=127∧L.length≤76∨t.mask=511∧L.length≤300
section
variable{P:Program}{w:World}{A:Around}{E:Value→Shared→Prop}{s:Shared}{es:Array (Int×Value)}{t:SetTable}{L:List (Int×Value)}
theorem SOkC.len(h:SOkC w es t L):es.size=L.length:=by rw[←h.pm.length_eq,Array.length_toList]
theorem SOkC.base(h:SOkC w es t L):SBase w es t:=⟨h.tok,h.fit,by rw[h.len];have:=h.msk;show L.length<4096;omega⟩
end
section
variable{P:Program}{w:World}{A:Around}{R:Result→Shared→Prop}{E:Value→Shared→Prop}{s:Shared}
noncomputable def AreC(P:Program)(w:World)(h:Heap)(cs:List (Int×Int))(vs:List Value)(no:List Addr):Prop:=∀p∈cs.zip vs,∃b,p.2=.ref b∧b ∉ no∧IsTupleKey (intKind P w) h [p.1.1,p.1.2] b
theorem AreC.keep{h g:Heap}{cs:List (Int×Int)}{vs:List Value}{no:List Addr}(a:AreC P w h cs vs no)(k:∀b o,b ∉ no→h.get? b=some o→g.get? b=some o):AreC P w g cs vs no:=fun p hp=>by
 obtain⟨b,e,hn,o,items,n,ho,hr⟩:=a p hp;exact⟨b,e,hn,o,items,n,k b o hn ho,hr⟩
end
section
variable{P:Program}{w:World}{A:Around}{E:Value→Shared→Prop}{s:Shared}
end
section
variable{X:Cx}{pins:List (Addr×Obj)}{σ:L2.St}{H:Hp}{s:Shared}{bs:List Addr}{cs:List (Int×Int)}
theorem V8(I:Inv X pins σ H s){b:Addr}{m:Int×Int}(e:H b=some (.tup [.int m.1,.int m.2])):A4 s.heap (.ref b) m:=by
 obtain⟨_,its,rv,ox,hx,hc,n,hd⟩:=(show ObjOk X.prog X.w H s.heap b (.tup _) from I.hok _ _ e);obtain⟨_,_,rfl,⟨t1,rfl⟩,t2,rfl⟩:=Vals.two rv;exact⟨_,ox,t1,t2,n,rfl,hx,hc,hd⟩
end
section
variable{X:Cx}
end
section
variable{X:Cx}{e:Expr}{te:DTE}{pos:Pos}{n:Nat}
end
section
variable{P:Program}{w:World}{A:Around}{E:Value→Shared→Prop}{s:Shared}
end
instance (a b:Int×Int):Decidable (Aw a b):=inferInstanceAs (Decidable (_∨_))
section
variable{X:Cx}{n:Nat}
end
section
variable{P:Program}{w:World}{A:Around}{R:Result→Shared→Prop}{it S:Addr}{fp wr:List Addr}{n:Nat}{V:Nat→Value→Prop}{st:Nat→Heap→Prop}{bt:Nat→Nat→Bool}{kw:List (Str×Value)}{Hv:Heap→Prop}
end
section
variable{P:Program}{w:World}{A:Around}{E:Value→Shared→Prop}{s:Shared}
end
section
variable{X:Cx}{e:Expr}{p pos:Pos}{n:Nat}
end
section
variable{X:Cx}{elt o:Expr}{ifs:List Expr}{scope:Scope}{pos apos cpos tp:Pos}{elts:List Expr}{kk:Nat}{to te:DTE}{tf:DTT}{g:DTG}{T M:List Str}
end
section
variable{X:Cx}{n:Nat}
theorem Rv(hr:Room n X.A):PSet X (fun o i v H Q=>∃a kvs k,o=.ref a∧H a=some (.dK kvs)∧i=kV k∧kvs.length<sizeLine∧Q (upd H a (.dK (Bz kvs k v)))):=by
 intro pins s σ H o i v ov iv u Q I ro ri rv h;obtain⟨a,kvs,k,rfl,ea,rfl,hl,q⟩:=h;obtain rfl:ov=Value.ref a:=ro;exact J4 (Om hr) I (DPut.k ea hl) ri rv fun s' I'=>⟨_,I',q⟩
noncomputable def Abi:Gz:=fun o i v G Q=>∃p,o=.ref p∧∃k,Fb i=some k∧∃kvs,G p=some (.dkk kvs)∧kvs.length<sizeLine∧Q (Ab G p (.dkk (Cg kvs k v)))
theorem K0(hr:Room n X.A):Xm X Abi:=(Rv hr).imp fun o i v H Q zz=>by
 obtain⟨d1,d2,d3,G,Q',h1,h2,h3,rg,⟨p,e1,k,ek,kvs,eg,hl,q⟩,cl⟩:=zz;subst e1;cases h1;obtain⟨ks,eh,r⟩:=rg p _ eg;exact⟨p,ks,k,rfl,eh,Bx ek h2,by rw[←Es r];exact hl,cl _ q _ (Cw eh) (rg.dkW eh (Er h3 r))⟩
end
section
variable{X:Cx}{a:Expr}{elts:List Expr}{kk:Nat}{tp p pos:Pos}{body:List Stmt}
end
section
variable{X:Cx}{n:Nat}{o e f:Expr}{td ty tx:DTE}{apos cpos:Pos}
end
section
variable{X:Cx}{pins:List (Addr×Obj)}{σ:L2.St}{H:Hp}{s:Shared}{a:Addr}{E:Value→Shared→Prop}
end
section
variable{X:Cx}{n:Nat}
noncomputable def dEmp(neg:Bool):DR2:=fun x y G Q=>∃p q ds,x=.ref p∧y=.ref q∧G p=some (.lst ds)∧G q=some (.lst [])∧Q (.bl (if neg=true then !ds.isEmpty else ds.isEmpty)) G
theorem o_neE(hr:Room n X.A):QOp X (compareOp .NotEq) (dEmp true):=by
 rintro pins s σ H x y v u Q I rx ry ⟨dx,dy,G,Q',hx,hy,rg,⟨p,q,ds,ep,eq,eg,eg2,h⟩,cl⟩;subst ep eq;cases hx;cases hy;obtain rfl:v=Value.ref p:=rx;obtain rfl:u=Value.ref q:=ry;obtain⟨xs,eh,r⟩:=rg p _ eg;obtain⟨ys,eh2,r2⟩:=rg q _ eg2;cases r2;obtain⟨its,rv,pl,_⟩:=I.list (.inl (.inl eh));obtain⟨its2,rv2,pl2,_⟩:=I.list (.inl (.inl eh2));cases rv2;have fin:∀b:Bool,b = !ds.isEmpty→∃v H',Inv X pins σ H' s∧L2.RelV v (.bool b)∧Q v H':=fun b e=>by
  subst e;exact⟨.bl _,H,I,rfl,cl _ G h H (Ext.refl H) rg _ (.bl _)⟩
 cases r with
 |nil=>cases rv;exact SeqAt.RcNeAt.lists (e:=fun _=>true) pl.isList pl2.isList rfl (Cq hr (n:=0) (by decide)) (fun j h1 _=>absurd h1 (by simp)) _ _ _ _ (fin _ (by rfl))
 |cons h t=>cases rv;exact SeqAt.RcNeAt.lists_lengths pl.isList pl2.isList (by simp) (Cq hr (n:=0) (by decide)) _ _ _ _ (fin _ rfl)
end
section
variable{X:Cx}{n:Nat}{o i e:Expr}{to td ti:DTE}{pos:Pos}
end
section
variable{X:Cx}{elt o tg:Expr}{ifs:List Expr}{scope:Scope}{pos:Pos}{to te:DTE}{tf:DTT}{g:DTG}{T M:List Str}
end
section
variable{X:Cx}{pins:List (Addr×Obj)}{σ:L2.St}{H:Hp}{s:Shared}{A:Around}{E:Value→Shared→Prop}
end
section
variable{X:Cx}{pins:List (Addr×Obj)}{σ:L2.St}{H:Hp}{p a it:Addr}{ys:List V}{es:List (Key×V)}
end
section
variable{X:Cx}{a e b:Expr}{ta:TA}{tA:DTA}{te tb:DTE}{p p0 p2 pos pos0:Pos}
end
section
variable{P:Program}{w:World}{A:Around}{E:Value→Shared→Prop}{s:Shared}{κ:Type}[Inhabited κ]{lt:κ→κ→Bool}{KA:Heap→Addr→κ→Prop}
end
section
variable{P:Program}{w:World}{A:Around}{E:Value→Shared→Prop}{s:Shared}
noncomputable def KA1(P:Program)(w:World)(N:Nat)(h:Heap)(a:Addr)(k:List Int):Prop:=a<N∧IsTupleKey (intKind P w) h k a
noncomputable def KA2(P:Program)(w:World)(N:Nat)(h:Heap)(a:Addr)(k:Int×List Int):Prop:=a<N∧∃o t c n,h.get? a=some o∧o.cls=.type "tuple"∧o.data=.seq #[.int k.1 t,.ref c] n∧c<N∧IsTupleKey (intKind P w) h k.2 c
theorem KA1.st{N:Nat}{h h':Heap}{a:Addr}{k:List Int}(x:KA1 P w N h a k)(kp:∀b o,b<N→h.get? b=some o→h'.get? b=some o):KA1 P w N h' a k:=by
 obtain⟨hl,o,its,n,ho,r⟩:=x;exact⟨hl,o,its,n,kp a o hl ho,r⟩
theorem KA2.st{N:Nat}{h h':Heap}{a:Addr}{k:Int×List Int}(x:KA2 P w N h a k)(kp:∀b o,b<N→h.get? b=some o→h'.get? b=some o):KA2 P w N h' a k:=by
 obtain⟨hl,o,t,c,n,ho,h1,h2,hc,o2,its,n2,ho2,r⟩:=x;exact⟨hl,o,t,c,n,kp a o hl ho,h1,h2,hc,o2,its,n2,kp c o2 hc ho2,r⟩
end
section
variable{X:Cx}{n:Nat}{pins:List (Addr×Obj)}{σ:L2.St}{H:Hp}{s:Shared}
end
end D3
namespace D3
open PySem PySem.Spec
open PyProof.Rows
section
variable{P:Program}{w:World}{A:Around}{E:Value→Shared→Prop}{s:Shared}{kd:SortKind}{ok:Keyed→Prop}{rk:Keyed→Int}{a0:Array Keyed}{st:SortSt}
end
section
variable{P:Program}{w:World}{A:Around}{E:Value→Shared→Prop}{s:Shared}{kd:SortKind}{ok:Keyed→Prop}{rk:Keyed→Int}
open Classical in
end
end D3
namespace D3
open PySem PySem.Spec
open PyProof.Rows hiding St
open L2 hiding St
section
variable{X:Cx}
end
section
variable{X:Cx}{e:Expr}{pos:Pos}
structure FnV(P:Program)(w:World)(K:W.Frag)(mg:Str→Option Value)(base:Heap)(CX:CXT)(k:Nat)(f:Addr)(sp:DSp):Prop where
 ex:∃fd ps,FnOk P w K mg base CX k f fd ps (liftSp K sp)∧W.keepIn K (.ref f)=true∧Binds K fd ps []
noncomputable def Ux(i:Nat)(R:Addr→DSp→Prop)(E:DX)(t:DTA):DTE:=fun σ G Q=>∃f,σ[i]? = some (some (.ref f))∧∃sp,R f sp∧t σ G fun ds G1=>sp ds G1 Q E
theorem Ym{CX:CXT}{k i:Nat}{x:Str}{R:Addr→DSp→Prop}{E:DX}{es:List Expr}{p:Pos}{tA:DTA}(F:∀f sp,R f sp→FnV X.prog X.w X.K X.mg X.base CX k f sp)(hr:Room k X.A)(hx:Ef CX X (El X.K E))(ha:QA X (e::es) tA)(hN:X.N[i]? = some x:=by rfl)(hv:Vis X.env.scope x:=by first|exact Or.inl rfl|exact Or.inr (Or.inl rfl)|exact Or.inr (Or.inr rfl))(hd:(x == ("__debug__" : Str))=false:=by decide)(hcd:(x == ("__classdict__" : Str))=false:=by decide)(he:starEach (e::es) X.env=(false,eval e X.env)::starEach es X.env:=by rfl)(hpl:(backTo pos (starEach es X.env)).any (·.1)=false:=by rfl) :
  QE X (.Call (.Name x p) (e::es) [] pos) (Ux i R E tA):=by
 rintro pins s σ H Q I ⟨σD,G,Q',rs,rg,⟨f,hσ,sp,hR,h⟩,cl⟩;obtain⟨fd,ps,Ff,hk,hb⟩:=(F f sp hR).ex;obtain⟨v,e1,rv⟩:=rs.2 i _ hσ;cases rv;refine wpAny_Call_Name_kw (thn (Ur hN hv hd hcd pins s σ H (fun v H1=>v=.ref f∧H1=H) I ⟨_,e1,rfl,rfl⟩) fun u s1 zz=>?_);obtain⟨v,H1,I1,r,e1,e2⟩:=zz;subst e1 e2;obtain rfl:u=Value.ref f:=r;refine W.callWith_K (h₀:=X.base) I1.ok.mod.kin hk (thn (ha pos pins s1 σ H1 _ I1 ⟨σD,G,_,rs,rg,h,fun ds G1 h1 H2 x1 rg1 vs dv=>?_⟩) fun us s2 ⟨vs,H2,I2,r,q⟩=>⟨I2.kIn,Uh (dvs:=[]) (E:=El X.K E) (sp:=liftSp X.K sp) (Q:=Q) (vs:=vs) Ff hr hb .nil hx I2 r q⟩) he hpl;show liftSp X.K sp (vs++[]) H2 Q (El X.K E);rw[List.append_nil];exact⟨ds,G1,Q',E,dv,rg1,h1,fun d G' q=>(cl d G' q).go x1,fun c G' q H2 x2 rg2 ad=>⟨G',rg2,q⟩⟩
end
noncomputable def Gx(kvs:List (Key×D))(k:Key):List (Key×D):=kvs.filter fun kv=>decide (kv.1≠k)
theorem E6{K:W.Frag}{H:Hp}{k:Key}:∀{kvs:List (Key×D)} {ks:List (Key×V)},Paired (Ent Key K H) kvs ks→Paired (Ent Key K H) (Gx kvs k) (En ks k)
 |_,_,.nil=>.nil
 |(a,x)::r,_,.cons (b:=(b,y)) h t=>by
  obtain⟨e,hv⟩:=h;cases(show a=b from e);unfold Gx En;rw[List.filter_cons,List.filter_cons]
  by_cases z:a=k
  ·rw[if_neg (by simpa using z),if_neg (by simpa using z)];exact E6 t
  ·rw[if_pos (by simpa using z),if_pos (by simpa using z)];exact .cons ⟨rfl,hv⟩ (E6 t)
section
variable{X:Cx}{n:Nat}{o e f:Expr}{td ty tx:DTE}{apos cpos:Pos}
noncomputable def Aat(td ty:DTE):DTE:=fun σ G Q=>td σ G fun x G1=>∃p,x=.ref p∧(∃kvs,G1 p=some (.dkk kvs))∧ty σ G1 fun y G2=>∃kvs,G2 p=some (.dkk kvs)∧∃k,Fb y=some k∧∃v,A1 kvs k=some v∧Q v (Ab G2 p (.dkk (Gx kvs k)))
theorem Acr(ho:QE X o td)(he:QE X e ty)(hbase:attributeBase o "pop" X.env (eval o X.env)=eval o X.env:=by rfl)(hfew:((backTo cpos (starEach [e] X.env)).all (fun x=>!x.1)&&(backToKw cpos (keywordEach [] X.env)).all (fun x=>x.1.isSome)
   && decide (([e]:List Expr).length+([]:List Keyword).length+(if ([]:List Keyword).isEmpty then 0 else 1)<30))=true:=by rfl)(hline:(apos.endLine == cpos.line)=true:=by rfl)(htr:backTo cpos (starEach [e] X.env)=[(false,eval e X.env)]:=by rfl) :
  QE X (.Call (.Attribute o "pop" apos) [e] [] cpos) (Aat td ty):=
 (V1 ho he ⟨hbase,hfew,hline,htr⟩).imp fun σ H Q zz=>by
 obtain⟨σD,G,Q',rs,rg,h,cl⟩:=zz;refine⟨σD,G,_,rs,rg,h,fun x G1 zz H1 x1 rg1 v dv=>?_⟩;obtain⟨p,ep,⟨kvs,eg⟩,h1⟩:=zz;subst ep;cases dv;obtain⟨ks,eh,_⟩:=rg1 p _ eg;refine⟨p,rfl,.inl ⟨ks,.inl eh⟩,σD,G1,_,rs.ext x1,rg1,h1,fun y G2 zz H2 x2 rg2 v2 dv2=>?_⟩;obtain⟨kvs2,eg2,k,ek,d,ed,q⟩:=zz;obtain⟨ks2,eh2,r2⟩:=rg2 p _ eg2;rcases Ci (k:=k) r2 with ⟨e1,e2⟩|⟨d',w,e1,e2,dw⟩
 ·rw[e1] at ed;cases ed
 ·rw[e1] at ed;cases ed;exact⟨ks2,k,w,eh2,Bx ek dv2,e2,cl _ _ q _ ((x1.trans x2).trans (Cw eh2)) (rg2.dkW eh2 (E6 r2)) _ (dw.ext (Cw eh2))⟩
noncomputable def Aas(td ty tx:DTE):DTE:=fun σ G Q=>td σ G fun x G1=>∃p,x=.ref p∧(∃kvs,G1 p=some (.dkk kvs))∧ty σ G1 fun y G2=>tx σ G2 fun z G3=>∃kvs,G3 p=some (.dkk kvs)∧∃k,Fb y=some k∧(∀v,A1 kvs k=some v→Q v (Ab G3 p (.dkk (Gx kvs k))))∧(A1 kvs k=none→Q z G3)
theorem Acq(ho:QE X o td)(he:QE X e ty)(hf:QE X f tx)(hbase:attributeBase o "pop" X.env (eval o X.env)=eval o X.env:=by rfl)(hfew:((backTo cpos (starEach [e,f] X.env)).all (fun x=>!x.1)&&(backToKw cpos (keywordEach [] X.env)).all (fun x=>x.1.isSome)
   && decide (([e,f]:List Expr).length+([]:List Keyword).length+(if ([]:List Keyword).isEmpty then 0 else 1)<30))=true:=by rfl)(hline:(apos.endLine == cpos.line)=true:=by rfl)(htr:backTo cpos (starEach [e,f] X.env)=[(false,eval e X.env),(false,eval f X.env)]:=by rfl) :
  QE X (.Call (.Attribute o "pop" apos) [e,f] [] cpos) (Aas td ty tx):=
 (V0 ho he hf ⟨hbase,hfew,hline,htr⟩).imp fun σ H Q zz=>by
 obtain⟨σD,G,Q',rs,rg,h,cl⟩:=zz;refine⟨σD,G,_,rs,rg,h,fun x G1 zz H1 x1 rg1 v dv=>?_⟩;obtain⟨p,ep,⟨kvs,eg⟩,h1⟩:=zz;subst ep;cases dv;obtain⟨ks,eh,_⟩:=rg1 p _ eg;refine⟨p,rfl,.inl ⟨ks,.inl eh⟩,σD,G1,_,rs.ext x1,rg1,h1,fun y G2 h2 H2 x2 rg2 v2 dv2=>?_⟩;refine⟨σD,G2,_,(rs.ext x1).ext x2,rg2,h2,fun z G3 zz H3 x3 rg3 v3 dv3=>?_⟩;obtain⟨kvs3,eg3,k,ek,q1,q2⟩:=zz;obtain⟨ks3,eh3,r3⟩:=rg3 p _ eg3;refine⟨ks3,k,eh3,Bx ek (dv2.ext x3),fun v ev=>?_,fun ev=>?_⟩
 ·rcases Ci (k:=k) r3 with ⟨e1,e2⟩|⟨d',w,e1,e2,dw⟩
  ·rw[e2] at ev;cases ev
  ·rw[e2] at ev;cases ev;exact cl _ _ (q1 _ e1) _ (((x1.trans x2).trans x3).trans (Cw eh3)) (rg3.dkW eh3 (E6 r3)) _ (dw.ext (Cw eh3))
 ·rcases Ci (k:=k) r3 with ⟨e1,e2⟩|⟨d',w,e1,e2,dw⟩
  ·exact cl _ _ (q2 e1) _ ((x1.trans x2).trans x3) rg3 _ dv3
  ·rw[e2] at ev;cases ev
end
section
variable{X:Cx}{pins:List (Addr×Obj)}{σ:L2.St}{H:Hp}{s:Shared}{a:Addr}{kvs:List (Key×V)}{k:Key}{u:Value}{A:Around}{E:Value→Shared→Prop}
theorem Wy{v:V}{r:Value}{Q:Value→Shared→Prop}(I:Inv X pins σ H s)(e:H a=some (.dK kvs))(ry:RelV (kV k) u)(rv:RelV v r)(hl:kvs.length<sizeLine)(h1:∀v' w' s',A8 kvs k=some v'→Inv X pins σ H s'→RelV v' w'→Q w' s')(h2:∀s',A8 kvs k=none→Inv X pins σ (upd H a (.dK (Bz kvs k v))) s'→Q r s'):wpAny (model X.prog X.w) A (call (.builtin "dict.setdefault") [.ref a,u,r]) Q E s:=by
 obtain⟨z,hd,vs,rel,dd⟩:=D6 I.hok e;have hl2:(Bz kvs k v).length≤sizeLine:=by have:=Bw kvs k v;omega
 refine call_meetsIn PySem.F.slot_dict_setdefault dd.typeIs PySem.F.entry_dict_setdefault (PySem.F.args_dict_setdefault_3 _ _ _) (kt_meets_setdefault (Al X.prog X.w) a (Cy ry) hd r) ⟨vs,dd,by rw[←rel.length];exact z,fun w' hw=>?_,fun hn h' dd' hs=>?_⟩
 ·cases l:A8 kvs k with
  |none=>have:=RelO.none_of (by rw[←l];exact rel.val k);rw[this] at hw;cases hw
  |some v'=>
   obtain⟨w2,hw2,rw'⟩:=RelO.some_of (v:=v') (o:=valueAt vs k) (by rw[←l];exact rel.val k)
   rw[hw2] at hw;cases hw;exact h1 v' _ _ l (I.tok _) rw'
 ·have l:A8 kvs k=none:=by
   cases l:A8 kvs k with
   |none=>rfl
   |some v'=>
    obtain⟨w2,hw2,_⟩:=RelO.some_of (v:=v') (o:=valueAt vs k) (by rw[←l];exact rel.val k)
    rw[hw2] at hn;cases hn
  have he:∃q,h'.get? a=some q:=let ⟨q,_,_,hq,_⟩:=dd';⟨q,hq⟩;exact h2 _ l (Da I (by rw[e];exact True.intro) hs he (Hd hl2 hd (rel.put k rv) dd'))
end
section
variable{X:Cx}{n:Nat}{o e f:Expr}{apos cpos:Pos}
noncomputable def Ab7(td ty tx:TE):TE:=fun σ H Q=>td σ H fun x H1=>∃a,x=.ref a∧IsD H1 a∧ty σ H1 fun y H2=>tx σ H2 fun z H3=>∃kvs k,H3 a=some (.dK kvs)∧kvs.length<sizeLine∧y=kV k∧
 (∀v,A8 kvs k=some v→Q v H3)∧(A8 kvs k=none→Q z (upd H3 a (.dK (Bz kvs k z))))
theorem Vz{td ty tx:TE}(ho:PE X o td)(he:PE X e ty)(hf:PE X f tx)(m:M2 X o "setdefault" apos e f cpos):PE X (.Call (.Attribute o "setdefault" apos) [e,f] [] cpos) (Ab7 td ty tx):=by
 intro pins s σ H Q I h;refine wpAny_Call_method m.base m.few m.line PySem.F.plainAttrs_dict PySem.F.slot_dict_setdefault PySem.F.type_dict_setdefault (thn (ho pins s σ H _ I h) fun u s1 zz=>?_);obtain⟨x,H1,I1,rx,a,ex,d,q1⟩:=zz;subst ex;obtain rfl:u=Value.ref a:=rx;obtain⟨t1,t2,_⟩:=Ku I1 d;refine⟨t1,t2,?_⟩;rw[m.trees];refine Calls.callWith_builtin rfl (Calls.evalArgs_plain (Calls.spliced_cons (thn (he pins s1 σ H1 _ I1 q1) fun iv s2 ⟨y,H2,I2,ry,q2⟩=>
  Calls.spliced_cons (thn (hf pins s2 σ H2 _ I2 q2) fun fv s3 ⟨z,H3,I3,rz,kvs,k,ea,hl,ey,q3,q4⟩=>Calls.spliced_nil ?_))))
 subst ey;exact Wy I3 ea ry rz hl (fun v' w' s' l I' r'=>⟨v',H3,I',r',q3 v' l⟩) fun s' l I'=>⟨z,_,I',rz,q4 l⟩
noncomputable def Qz(td ty tx:DTE):DTE:=fun σ G Q=>td σ G fun x G1=>∃p,x=.ref p∧(∃kvs,G1 p=some (.dkk kvs))∧ty σ G1 fun y G2=>tx σ G2 fun z G3=>∃kvs,G3 p=some (.dkk kvs)∧kvs.length<sizeLine∧∃k,Fb y=some k∧(∀v,A1 kvs k=some v→Q v G3)∧(A1 kvs k=none→Q z (Ab G3 p (.dkk (Cg kvs k z))))
theorem Vm{td ty tx:DTE}(ho:QE X o td)(he:QE X e ty)(hf:QE X f tx)(hbase:attributeBase o "setdefault" X.env (eval o X.env)=eval o X.env:=by rfl)(hfew:((backTo cpos (starEach [e,f] X.env)).all (fun x=>!x.1)&&(backToKw cpos (keywordEach [] X.env)).all (fun x=>x.1.isSome)
   && decide (([e,f]:List Expr).length+([]:List Keyword).length+(if ([]:List Keyword).isEmpty then 0 else 1)<30))=true:=by rfl)(hline:(apos.endLine == cpos.line)=true:=by rfl)(htr:backTo cpos (starEach [e,f] X.env)=[(false,eval e X.env),(false,eval f X.env)]:=by rfl) :
  QE X (.Call (.Attribute o "setdefault" apos) [e,f] [] cpos) (Qz td ty tx):=
 (Vz ho he hf ⟨hbase,hfew,hline,htr⟩).imp fun σ H Q zz=>by
 obtain⟨σD,G,Q',rs,rg,h,cl⟩:=zz;refine⟨σD,G,_,rs,rg,h,fun x G1 zz H1 x1 rg1 v dv=>?_⟩;obtain⟨p,ep,⟨kvs,eg⟩,h1⟩:=zz;subst ep;cases dv;obtain⟨ks,eh,_⟩:=rg1 p _ eg;refine⟨p,rfl,.inl ⟨ks,.inl eh⟩,σD,G1,_,rs.ext x1,rg1,h1,fun y G2 h2 H2 x2 rg2 v2 dv2=>?_⟩;refine⟨σD,G2,_,(rs.ext x1).ext x2,rg2,h2,fun z G3 zz H3 x3 rg3 v3 dv3=>?_⟩;obtain⟨kvs3,eg3,hl,k,ek,q1,q2⟩:=zz;obtain⟨ks3,eh3,r3⟩:=rg3 p _ eg3;refine⟨ks3,k,eh3,by rw[←Es r3];exact hl,Bx ek (dv2.ext x3),fun v ev=>?_,fun ev=>?_⟩
 ·rcases Ci (k:=k) r3 with ⟨e1,e2⟩|⟨d',w,e1,e2,dw⟩
  ·rw[e2] at ev;cases ev
  ·rw[e2] at ev;cases ev;exact cl _ _ (q1 _ e1) _ ((x1.trans x2).trans x3) rg3 _ dw
 ·rcases Ci (k:=k) r3 with ⟨e1,e2⟩|⟨d',w,e1,e2,dw⟩
  ·exact cl _ _ (q2 e1) _ (((x1.trans x2).trans x3).trans (Cw eh3)) (rg3.dkW eh3 (Er dv3 r3)) _ (dv3.ext (Cw eh3))
  ·rw[e2] at ev;cases ev
end
section
variable{P:Program}{w:World}{K:W.Frag}{mg:Str→Option Value}{base:Heap}{x:Str}{q:Str}{scope:Scope}{f c:Addr}{A:Around}{outer:List Env}{s:Shared}{H:Hp}{E:XK}{k:Nat}{v:V}{u:Value}{Q:VK}{t:TE}{params:Arguments}{body:Expr}{pm ctv:Value}
theorem Wp(hr:Room k A)(e0:Env0 P w K mg base A outer s H)(ho:s.heap.get? f=some (lamO q params body scope [] pm (.ref c) ctv))(hcd:s.heap.CodeRec (.ref c) q)(S:LamScope scope)(hbind:bindArgs (W.kla_fn "<lambda>" q params body scope [] pm (.ref c) ctv) ⟨[u],[]⟩=pure [(x,u)])(hx:scope.names.lookup x=some .local)(hfree:∀y∈scope.names,y.2≠.free)(rv:RelV v u)(hbody:PE (Mh (CX1 P w) P w K mg base [x] q scope f (.ref c) [] A outer s H E) body t)(h:t [some v] H Q):codeAny (model P w) A (.call (.ref f) ⟨[u],[]⟩) (CR (CX1 P w) outer P w H s Q E) s:=by
 have lim:s.heap.NoLimit:=e0.mod.nolimit.keeps fun b o e=>(e0.bs b o e).1;refine W.kla_callFunE (by have:=hr.dp;omega) ho rfl S.co S.gen rfl hcd ?_
 rw[hbind];refine wpAny_pure (wpAny_newFunctionEnv S.cell (by simpa using hx) (fun h₁ hns hsb=>⟨lim.fresh _ hsb,?_⟩) S.kind)
 show codeAny _ _ (.expr body (W.envX q scope s.heap.objs.size f (.ref c) [])) _ _;have kp:∀b o,s.heap.get? b=some o→h₁.get? b=some o:=fun b o e=>hsb.extBut b o (Nat.ne_of_lt (Heap.lt_size e)) (Heap.get?_push_of_some _ e);have ok:(Mh (CX1 P w) P w K mg base [x] q scope f (.ref c) [] A outer s H E).Ok:=by
  refine⟨e0.mod,S.kind,rfl,rfl,Nat.le_refl _,fun x y c' h1 h2=>(by cases h1),fun x hx=>?_,fun x c' hf=>(by cases hf),fun _=>hr.hd,Around.frames_deeper e0.frames,.inr ⟨rfl,rfl⟩,fun b z=>absurd (show b∈([]:List Addr) from z) (by simp),e0.bs,e0.bsz,fun b _ _ z=>absurd (show b∈([]:List Addr) from z) (by simp),fun b z=>absurd (show b∈([]:List Addr) from z) (by simp),e0.funs,e0.frf⟩
  rcases hx with hx|hx
  ·exact absurd rfl (S.cell _ (PySem.mem_of_lookup (show scope.names.lookup x=some .cell from hx)))
  ·exact absurd rfl (hfree _ (PySem.mem_of_lookup (show scope.names.lookup x=some .free from hx)))
 have I:Inv (Mh (CX1 P w) P w K mg base [x] q scope f (.ref c) [] A outer s H E) [] [some v] H { s with heap:=h₁,toks:=s.toks+([(x,u)]:List (Str×Value)).length }:=by
  refine⟨ok,rfl,e0.bare,Un.kept kp,⟨_,hns,fun i y v' h1 h2 _=>?_⟩,fun x c' hx=>(by cases hx),e0.hok.fresh (Nat.le_refl _),fun x c' hx=>(by cases hx),fun p hp=>absurd (show p∈([]:List (Addr×Obj)) from hp) (by simp),e0.hok.kept kp,rfl⟩
  match i,h1,h2 with
  |0,h1,h2=>
   cases h1;cases h2;exact⟨u,rv,.inl ⟨hx,by simp⟩⟩
  |i+1,h1,_=>cases h1
 refine W.kla_codeExpr (wpAny_mono (hbody [] _ [some v] H Q I h) (fun u s' hs=>?_) fun _ _ y=>y);obtain⟨v,H',J,rv,z⟩:=hs;exact⟨v,H',J.os,J.bare,J.base,J.hok,rv,z⟩
end
set_option maxHeartbeats 2000000
section
variable{X:Cx}{pins:List (Addr×Obj)}{σ:L2.St}{H:Hp}{s:Shared}{a b:Addr}
theorem adopt{o:HO}(I:Inv X pins σ H s)(f:Di X pins H a)(hs:X.s₀.heap.objs.size≤a)(new:ObjOk X.prog X.w (upd H a o) s.heap a o):Inv X pins σ (upd H a o) s:=by
 obtain⟨hn,hL,hf,_,hc,hp⟩:=f;have ne:∀b u,H b=some u→b≠a:=fun b u e z=>by rw[z,hn] at e;cases e
 refine⟨I.ok,I.os,I.bare,⟨I.base.keep,I.base.slot,fun b o q n hx=>?_,I.base.there,fun b xs q=>?_,fun b o u q=>?_,fun b ps q=>?_⟩,I.loc,I.cell,?_,fun x c e=>?_,fun p hp'=>?_,fun b u e=>?_,I.len⟩
 ·rw[Ad (Nat.ne_of_lt (Nat.lt_of_lt_of_le (Heap.lt_size q) hs))];exact I.base.free b o q n hx
 ·have:=I.base.tups b xs q;rw[Ad (ne _ _ this)];exact this
 ·have:=I.base.frzs b o u q;rw[Ad (ne _ _ this)];exact this
 ·obtain⟨m,h⟩:=I.base.tbls b ps q;exact⟨m,by rw[Ad (ne _ _ h)];exact h⟩
 ·rw[Ad hL.symm];exact I.free
 ·rw[Ad (hc x c e)];exact I.freeC x c e
 ·obtain⟨h1,h2,h3⟩:=I.pin p hp';exact⟨h1,by rw[Ad (hp p hp')];exact h2,h3⟩
 ·by_cases hb:b=a
  ·subst hb;rw[Ah] at e;cases e;exact new
  ·rw[Ad hb] at e;exact(I.hok b u e).stay (fun c v _ q=>q) (fun c q=>by rw[Ad (ne _ _ q)];exact q) fun c xs q=>by rw[Ad (ne _ _ q)];exact q
structure Own(X:Cx)(pins:List (Addr×Obj))(b:Addr):Prop where
 loc:b≠X.env.locals
 fs:b ∉ X.fs
 new:X.s₀.heap.objs.size≤b
 cell:∀x c,X.env.cells.lookup x=some c→c≠b
 pin:∀p∈X.pn++pins,p.1≠b
theorem Own.fp(o:Own X pins b)(hn:H b=none):Di X pins H b:=⟨hn,o.loc,o.fs,.inr o.new,o.cell,o.pin⟩
theorem Qw(I:Inv X pins σ H s)(hb:s.heap.objs.size≤b):Own X pins b:=by
 obtain⟨_,h1,h2,_,h4,h5⟩:=I.fpOk (H':=fun _=>none) hb rfl;exact⟨h1,h2,Nat.le_trans I.sz hb,h4,h5⟩
theorem Gr{pl pl':List (Addr×Obj)}{ob:Obj}{h':Heap}{t':Nat}(I:Inv X (pins++pl) σ H s)(o:Own X pins b)(hn:H b=none)(hp:∀p∈pl',p=(b,ob)∨(p∈pl∧p.1≠b))(hs:∀c u,c≠b→s.heap.get? c=some u→h'.get? c=some u)(hw:h'.get? b=some ob)(hc:∀v,ob.data≠.cell v):Inv X (pins++pl') σ H { s with heap:=h',toks:=t' }:=by
 have I0:Inv X pins σ H s:=I.unpinned;have I1:Inv X pins σ H { s with heap:=h',toks:=t' }:=I0.turned hs hn o.loc (.inr o.new) o.cell o.pin;refine I1.pins_of fun p hm=>?_;rcases List.mem_append.mp hm with hm|hm
 ·exact I1.pin p (List.mem_append_right _ hm)
 ·rcases hp p hm with rfl|⟨h1,h2⟩
  ·exact⟨hw,hn,o.loc,o.fs,hc⟩
  ·obtain⟨q1,q2⟩:=I.pin p (List.mem_append_right _ (List.mem_append_right _ h1));exact⟨hs _ _ h2 q1,q2⟩
end
theorem F4{α β:Type}{R:α→β→Prop}{l l':List α}(p:l'.Perm l):∀{r:List β},Paired R l r→∃r',r'.Perm r∧Paired R l' r':=by
 induction p with
 |nil=>intro r h;cases h;exact⟨[],.nil,.nil⟩
 |cons x _ ih=>
  intro r h;cases h with
  |cons h t=>obtain⟨r',p',q⟩:=ih t;exact⟨_::r',p'.cons _,.cons h q⟩
 |swap x y l=>
  intro r h;cases h with
  |cons h1 t=>
   cases t with
   |cons h2 t=>exact⟨_,.swap _ _ _,.cons h2 (.cons h1 t)⟩
 |trans _ _ ih1 ih2=>
  intro r h;obtain⟨r1,p1,q1⟩:=ih2 h;obtain⟨r2,p2,q2⟩:=ih1 q1;exact⟨r2,p2.trans p1,q2⟩
section
variable{P:Program}{w:World}{A:Around}{E:Value→Shared→Prop}{s:Shared}
theorem Gd{kA:List Value}{us:List Value}{Q:Unit×SortSt→Shared→Prop}(hl:kA.length=us.length)(hp:∀v∈kA,A4 s.heap v (Ak s.heap v))(hb:∀v∈kA,0≤(Ak s.heap v).2∧(Ak s.heap v).2<1000)(nd:(kA.map (Ak s.heap)).Nodup)(h63:us.length≤63)(h2:2≤us.length)(h:∀st,(arrOf st).toList.Perm (kA.zip us)→failedOf st=none→((arrOf st).toList.Pairwise fun x y=>rkP (Ak s.heap) x<rkP (Ak s.heap) y)→Q ((),st) s) :
  wpAny (model P w) A (sortRuns'.run (SortSt.mk' (tuples' true) (kA.toArray.zip us.toArray) #[] 7 none)) Q E s:=by
 have e0:(kA.toArray.zip us.toArray).toList=kA.zip us:=by simp
 have hd:((kA.toArray.zip us.toArray).toList.map (rkP (Ak s.heap))).Nodup:=by
  rw[e0];have e1:(kA.zip us).map (rkP (Ak s.heap))=kA.map fun v=>(Ak s.heap v).1*1000+(Ak s.heap v).2:=by
   have:(kA.zip us).map (rkP (Ak s.heap))=((kA.zip us).map Prod.fst).map fun v=>(Ak s.heap v).1*1000+(Ak s.heap v).2:=by rw[List.map_map];rfl
   rw[this,List.map_fst_zip (by omega)]
  rw[e1]
  have:(kA.map fun v=>(Ak s.heap v).1*1000+(Ak s.heap v).2)=(kA.map (Ak s.heap)).map fun m=>m.1*1000+m.2:=by rw[List.map_map];rfl
  rw[this];have hb':∀m∈kA.map (Ak s.heap),0≤m.2∧m.2<1000:=fun m hm=>by
   obtain⟨v,hv,rfl⟩:=List.mem_map.mp hm;exact hb v hv
  generalize kA.map (Ak s.heap)=ms at *;rw[List.Nodup,List.pairwise_map];refine List.Pairwise.imp_of_mem (fun {x y} hx hy ne=>?_) nd;intro z;have b1:=hb' x hx;have b2:=hb' y hy;exact ne (Prod.ext (by omega) (by omega))
 refine wpAny_mono (E8 (a0:=kA.toArray.zip us.toArray) (st:=SortSt.mk' (tuples' true) (kA.toArray.zip us.toArray) #[] 7 none) (rk:=rkP (Ak s.heap)) (ok:=fun x=>x.1∈kA) (kd:=tuples' true)
  (Q:=fun _ st'=>(arrOf st').Perm (kA.toArray.zip us.toArray)∧failedOf st'=none∧Bs (rkP (Ak s.heap)) (arrOf st') 0 (kA.toArray.zip us.toArray).size) (Ia hp hb) ⟨rfl,Array.Perm.refl _,rfl,fun x hx=>?_,hd⟩ (by simp;omega) (by simp;omega) rfl fun st' b' u=>⟨b'.perm,b'.fail,u⟩) ?_ fun _ _ e=>e
 ·have hx:x∈(kA.toArray.zip us.toArray).toList:=by simpa using hx
  rw[e0] at hx;obtain⟨x1,x2⟩:=x;exact(List.of_mem_zip hx).1
 rintro⟨⟨⟩,st'⟩ s' ⟨rfl,hp',hf,hu⟩;have pl:(arrOf st').toList.Perm (kA.zip us):=by rw[←e0];exact Array.perm_iff_toList_perm.mp hp'
 refine h st' pl hf ?_;have hnd:((arrOf st').toList.map (rkP (Ak s'.heap))).Nodup:=((pl.map _).nodup_iff).mpr (by rw[←e0];exact hd)
 have hsz:(kA.toArray.zip us.toArray).size=(arrOf st').size:=hp'.size_eq.symm;rw[List.pairwise_iff_getElem];intro i j hi hj hij;have hi':i<(arrOf st').size:=by simpa using hi
 have hj':j<(arrOf st').size:=by simpa using hj
 have key:∀k (hk:k<(arrOf st').size),A2 (rkP (Ak s'.heap)) (arrOf st') k=rkP (Ak s'.heap) (arrOf st')[k]:=fun k hk=>by
  unfold A2;rw[Array.getD_eq_getD_getElem?,Array.getElem?_eq_getElem hk,Option.getD_some]
 have le:=hu i j (Nat.zero_le _) (Nat.le_of_lt hij) (by omega)
 rw[key i hi',key j hj'] at le;have ne:=List.pairwise_iff_getElem.mp hnd i j (by simpa using hi') (by simpa using hj') hij
 simp only[List.getElem_map,Array.getElem_toList] at ne ⊢;omega
end
section
variable{X:Cx}{pins:List (Addr×Obj)}{σ:L2.St}{H:Hp}{s:Shared}{a f:Addr}{A:Around}{E:Value→Shared→Prop}
noncomputable abbrev F0(m:Int×Int):D:=.tup [.int m.1,.int m.2]
noncomputable abbrev Ki(X:Cx)(σ:L2.St)(H0:Hp)(A:Around)(f:Addr)(G:Gp)(d:D)(m:Int×Int):Prop:=
 ∀pins' s' H' v u,Ext H0 H'→Inv X pins' σ H' s'→RelG X.K H' G→DV X.K H' d v→RelV v u→wpAny (model X.prog X.w) A (call (.ref f) [u]) (EP X pins' σ fun z H''=>Ext H' H''∧RelG X.K H'' G∧DV X.K H'' (F0 m) z) (fun _ _=>False) s'
theorem V7{m:Int×Int}{v:V}{u:Value}(I:Inv X pins σ H s)(dv:DV X.K H (F0 m) v)(rv:RelV v u):A4 s.heap u m:=by
 cases dv with
 |@tup _ b xs e ds=>
  cases rv;cases ds with
  |cons d1 t=>
   cases t with
   |cons d2 t=>
    cases t;cases d1;cases d2;exact V8 I e
theorem M8{K:W.Frag}{H:Hp}{d:D}{v:V}(hd:DV K H d v):∀{ds:List D} {vs:List V},DVs K H ds vs→DVs K H (ds++[d]) (vs++[v])
 |_,_,.nil=>.cons hd .nil
 |_,_,.cons h t=>.cons h (M8 hd t)
theorem Jg{v:V}{u:Value}(h:RelV v u):∀{vs:List V} {us:List Value},Vals vs us→Vals (vs++[v]) (us++[u])
 |_,_,.nil=>.cons h .nil
 |_,_,.cons a t=>.cons a (Jg h t)
theorem Uz{K:W.Frag}{H:Hp}:∀{ds:List D} {vs:List V} {i:Nat} {v:V},DVs K H ds vs→vs[i]? = some v→∃d,ds[i]? = some d∧DV K H d v
 |_,_,0,_,.cons h _,e=>by cases e;exact⟨_,rfl,h⟩
 |_,_,i+1,_,.cons _ t,e=>Uz (i:=i) t e
 |_,_,0,_,.nil,e=>by cases e
 |_,_,_+1,_,.nil,e=>by cases e
theorem Xo{i:Nat}{u:Value}:∀{vs:List V} {us:List Value},Vals vs us→us[i]? = some u→∃v,vs[i]? = some v∧RelV v u:=by
 induction i with
 |zero=>intro vs us h e;cases h with|nil=>cases e|cons h t=>cases e;exact⟨_,rfl,h⟩
 |succ i ih=>intro vs us h e;cases h with|nil=>cases e|cons h t=>exact ih t e
theorem Wq{us:List Value}{xs:List V}{ds:List D}{ms:List (Int×Int)}{G:Gp}{n:Nat}{P:Fin→Shared→Prop}(I:Inv X pins σ H s)(ho:s.heap.get? a=some (seqObj "list" us.toArray n))(oa:Own X pins a)(ha:H a=none)(rg:RelG X.K H G)(dv:DVs X.K H ds xs)(rv:Vals xs us)(hz:us.length≤63)(hm:ms.length=ds.length)(nd:ms.Nodup)(hb:∀m∈ms,0≤m.2∧m.2<1000)(turn:∀(i:Nat) (d:D) (m:Int×Int),ds[i]? = some d→ms[i]? = some m→Ki X σ H A f G d m)(h:∀H' s' (zs:List ((Int×Int)×D)) xs' out n',Inv X pins σ H' s'→Ext H H'→RelG X.K H' G→s'.heap.get? a=some (seqObj "list" (out:List Value).toArray n')→H' a=none→zs.Perm (ms.zip ds)→(zs.Pairwise fun x y=>Aw x.1 y.1)→DVs X.K H' (zs.map (·.2)) xs'→Vals xs' out→P (.done (.ret .none)) s') :
  wpAny (model X.prog X.w) A (ksk_tree a (.ref f) false) P E s:=by
 have hlen:us.length=ds.length:=by rw[←rv.length,←dv.length]
 have hsl:us.toArray.size≤sizeLine:=by rw[List.size_toArray,sizeLine_eq];omega
 have la:a<s.heap.objs.size:=Heap.lt_size ho;obtain⟨e1,ho1⟩:∃e1,(s.heap.update a (Obj.mapSeq fun _=>(#[]:Array Value))).get? a=some (seqObj "list" #[] e1):=⟨_,get?_update_seq ho fun _=>#[]⟩;unfold ksk_tree;refine wpAny_bind (listItems_at ho rfl ?_);refine wpAny_bind (listUpdate_at ho rfl ?_ hsl (Nat.zero_le _));refine wpAny_bind (seqEpoch_at ho1 rfl ?_);refine wpAny_bind (wpAny_newTuple ?_ (by show us.length≤_;rw[sizeLine_eq];omega))
 refine wpAny_bind (wpAny_newList ?_ (Nat.zero_le _));refine wpAny_holding ?_;generalize hk:((s.heap.update a (Obj.mapSeq fun _=>(#[]:Array Value))).push (seqObj "tuple" us.toArray 0)).objs.size=kS;have hkS:kS=s.heap.objs.size+1:=by rw[←hk,size_push',Heap.size_update]
 have hka:a≠kS:=by rw[hkS];exact Nat.ne_of_lt (Nat.lt_succ_of_lt la)
 have okS:Own X pins kS:=Qw I (by omega)
 have hkn:H kS=none:=I.hok.fresh (by omega)
 have I0:Inv X (pins++[(a,seqObj "list" #[] e1),(kS,seqObj "list" #[] 0)]) σ H { s with heap:=((s.heap.update a (Obj.mapSeq fun _=>(#[]:Array Value))).push (seqObj "tuple" us.toArray 0)).push (seqObj "list" #[] 0),toks:=s.toks }:=by
  have J:Inv X (pins++[]) σ H s:=by simpa using I
  have J1:=Gr (t':=s.toks) (pl':=[(a,seqObj "list" #[] e1)]) (h':=((s.heap.update a (Obj.mapSeq fun _=>(#[]:Array Value))).push (seqObj "tuple" us.toArray 0)).push (seqObj "list" #[] 0)) J oa ha (fun p hp=>.inl (List.mem_singleton.mp hp)) (fun c u hc e=>?_) (Heap.get?_push_of_some _ (Heap.get?_push_of_some _ ho1)) (fun v z=>by cases z)
  ·refine J1.pins_of fun p hp=>?_;rcases List.mem_append.mp hp with hp|hp
   ·exact J1.pin p (List.mem_append_right _ (List.mem_append_left _ hp))
   ·simp only[List.mem_cons,List.not_mem_nil,or_false] at hp;rcases hp with rfl|rfl
    ·exact J1.pin _ (List.mem_append_right _ (List.mem_append_right _ (by simp)))
    ·refine⟨?_,hkn,okS.loc,okS.fs,fun v z=>by cases z⟩
     show(((s.heap.update a (Obj.mapSeq fun _=>(#[]:Array Value))).push (seqObj "tuple" us.toArray 0)).push (seqObj "list" #[] 0)).get? kS=_;rw[←hk];exact Heap.get?_push_size _ rfl
  ·refine Heap.get?_push_of_some _ (Heap.get?_push_of_some _ ?_);rw[Heap.get?_update_ne _ _ _ _ hc];exact e
 show wpAny (model X.prog X.w) A _ P E { s with heap:=((s.heap.update a (Obj.mapSeq fun _=>(#[]:Array Value))).push (seqObj "tuple" us.toArray 0)).push (seqObj "list" #[] 0),toks:=s.toks };generalize ({ s with heap:=((s.heap.update a (Obj.mapSeq fun _=>(#[]:Array Value))).push (seqObj "tuple" us.toArray 0)).push (seqObj "list" #[] 0),toks:=s.toks }:Shared)=s0 at *;unfold ksk_rest;refine wpAny_bind (wpAny_rule ?_)
 first
  |rw[List.forIn_toArray]
  |(rw[←Array.forIn_toList];simp only[List.toList_toArray])
  |rw[←Array.forIn_toList]
 refine wpAny_bind (ksk_fold (fun i s'=>∃H' kA kv e,Inv X (pins++[(a,seqObj "list" #[] e1),(kS,seqObj "list" kA e)]) σ H' s'∧Ext H H'∧RelG X.K H' G∧DVs X.K H' ((ms.take i).map F0) kv∧Vals kv kA.toList) us 0 s0
  ⟨H,#[],[],0,I0,Ext.refl H,rg,by simpa using DVs.nil,.nil⟩ ?step ?done)
 case step=>
  rintro j u s' hu ⟨H',kA,kv,e,I',x',rg',dk,vk⟩;simp only[Nat.zero_add] at dk ⊢;have hj:j<us.length:=(List.getElem?_eq_some_iff.mp hu).1;obtain⟨v,hv,rvu⟩:=Xo rv hu;obtain⟨d,hd,dvv⟩:=Uz dv hv;obtain⟨m,hmj⟩:∃m,ms[j]? = some m:=⟨_,List.getElem?_eq_getElem (by omega)⟩
  have hks:kA.size≤us.length:=by
   have h1:kv.length=kA.size:=by rw[vk.length,Array.length_toList]
   have h2:min j ms.length=kv.length:=by rw[←dk.length,List.length_map,List.length_take]
   omega
  refine wpAny_bind (wpAny_attempt (wpAny_mono (turn j d m hd hmj _ s' H' v u x' I' rg' (dvv.ext x') rvu) (fun z s'' he=>?_) fun _ _ hF=>hF.elim));obtain⟨zv,H'',I'',rz,x'',rg'',dz⟩:=he;dsimp only;obtain⟨nk,nk2⟩:=I''.pin (kS,seqObj "list" kA e) (List.mem_append_right _ (List.mem_append_right _ (by simp)))
  obtain⟨c2,hc2⟩:∃c2,(s''.heap.update kS (Obj.mapSeq (·.push z))).get? kS=some (seqObj "list" (kA.push z) c2):=⟨_,get?_update_seq nk (·.push z)⟩;refine wpAny_bind (listUpdate_at nk rfl ?_ (by rw[sizeLine_eq];omega) (Nat.le_trans (Nat.le_of_eq (Array.size_push ..)) (by rw[sizeLine_eq];omega)))
  have ek:ms.take (j+1)=ms.take j++[m]:=by rw[List.take_add_one,hmj];rfl
  refine wpAny_pure ⟨rfl,H'',kA.push z,kv++[zv],c2,?_,x'.trans x'',rg'',?_,?_⟩
  ·exact Gr (t':=s''.toks) I'' okS nk2.1 (fun p hp=>by
    simp only[List.mem_cons,List.not_mem_nil,or_false] at hp;rcases hp with rfl|rfl
    ·exact .inr ⟨by simp,hka⟩
    ·exact .inl rfl) (fun c u hc e=>by rw[Heap.get?_update_ne _ _ _ _ hc];exact e) hc2 (fun v z=>by cases z)
  ·rw[ek,List.map_append];exact M8 dz (dk.ext x'')
  ·rw[Array.toList_push];exact Jg rz vk
 case done=>
  rintro s' ⟨H',kA,kv,e,I',x',rg',dk,vk⟩;have e3:ms.take (0+us.length)=ms:=List.take_of_length_le (by omega)
  rw[e3] at dk;obtain⟨nk,nk2⟩:=I'.pin (kS,seqObj "list" kA e) (List.mem_append_right _ (List.mem_append_right _ (by simp)))
  obtain⟨na,na2⟩:=I'.pin (a,seqObj "list" #[] e1) (List.mem_append_right _ (List.mem_append_right _ (by simp)))
  refine wpAny_bind (listItems_at nk rfl ?_);have hkl:kA.toList.length=us.length:=by
   have h1:=vk.length;have h2:=dk.length;rw[List.length_map] at h2;omega
  have prs:Paired (fun(u:Value) (m:Int×Int)=>A4 s'.heap u m) kA.toList ms:=by
   have go:∀{ms:List (Int×Int)} {kv:List V} {ks:List Value},DVs X.K H' (ms.map F0) kv→Vals kv ks→Paired (fun(u:Value) (m:Int×Int)=>A4 s'.heap u m) ks ms:=fun {ms}=>by
    induction ms with
    |nil=>intro kv ks d v;cases d;cases v;exact .nil
    |cons m r ih=>
     intro kv ks d v;cases d with
     |cons d1 d2=>cases v with|cons v1 v2=>exact .cons (V7 I' d1 v1) (ih d2 v2)
   exact go dk vk
  have key:∀{u:Value} {m:Int×Int},A4 s'.heap u m→Ak s'.heap u=m:=fun x=>E2 x;have ekm:kA.toList.map (Ak s'.heap)=ms:=by
   have go:∀{ks:List Value} {ms:List (Int×Int)},Paired (fun(u:Value) (m:Int×Int)=>A4 s'.heap u m) ks ms→ks.map (Ak s'.heap)=ms:=fun {ks ms} h=>by
    induction h with
    |nil=>rfl
    |cons x _ ih=>rw[List.map_cons,key x,ih]
   exact go prs
  have hpa:∀v∈kA.toList,A4 s'.heap v (Ak s'.heap v):=by
   have go:∀{ks:List Value} {ms:List (Int×Int)},Paired (fun(u:Value) (m:Int×Int)=>A4 s'.heap u m) ks ms→∀v∈ks,A4 s'.heap v (Ak s'.heap v):=fun {ks ms} h=>by
    induction h with
    |nil=>intro v hv;cases hv
    |cons x _ ih=>
     intro v hv;rcases List.mem_cons.mp hv with rfl|hv
     ·rw[key x];exact x
     ·exact ih v hv
   exact go prs
  have hba:∀v∈kA.toList,0≤(Ak s'.heap v).2∧(Ak s'.heap v).2<1000:=fun v hv=>hb _ (by rw[←ekm];exact List.mem_map_of_mem hv)
  have hnd:(kA.toList.map (Ak s'.heap)).Nodup:=by rw[ekm];exact nd
  have dv':DVs X.K H' ds xs:=dv.ext x'
  -- what the sorted pairs are
  have all:Paired (fun(p:Keyed) (q:(Int×Int)×D)=>Ak s'.heap p.1=q.1∧∃v,DV X.K H' q.2 v∧RelV v p.2) (kA.toList.zip us) (ms.zip ds):=by
   have go:∀{ks:List Value} {ms:List (Int×Int)},Paired (fun(u:Value) (m:Int×Int)=>A4 s'.heap u m) ks ms→∀{us:List Value} {xs:List V} {ds:List D},Vals xs us→DVs X.K H' ds xs→Paired (fun(p:Keyed) (q:(Int×Int)×D)=>Ak s'.heap p.1=q.1∧∃v,DV X.K H' q.2 v∧RelV v p.2) (ks.zip us) (ms.zip ds):=fun {ks ms} h=>by
    induction h with
    |nil=>intro us xs ds _ _;exact .nil
    |cons x _ ih=>
     intro us xs ds v d;cases v with
     |nil=>cases d;exact .nil
     |cons v1 v2=>cases d with|cons d1 d2=>exact .cons ⟨key x,_,d1,v1⟩ (ih v2 d2)
   exact go prs rv dv'
  have tail:∀st:SortSt,(arrOf st).toList.Perm (kA.toList.zip us)→failedOf st=none→((arrOf st).toList.Pairwise fun x y=>rkP (Ak s'.heap) x<rkP (Ak s'.heap) y)→wpAny (model X.prog X.w) A (ksk_tail a false e1 (.ref kS) st) P E s':=fun st pm hf so=>by
   have hsz:(arrOf st).size=us.length:=by
    have:=pm.length_eq
    rw[Array.length_toList,List.length_zip,hkl,Nat.min_self] at this;exact this
   have hks:kA.size=us.length:=by rw[←hkl,Array.length_toList]
   have s1:=Heap.SameBut.update s'.heap kS (Obj.mapSeq fun _=>(#[]:Array Value));obtain⟨c1,hc1⟩:∃c1,(s'.heap.update kS (Obj.mapSeq fun _=>(#[]:Array Value))).get? kS=some (seqObj "list" #[] c1):=⟨_,get?_update_seq nk fun _=>#[]⟩;have na1:(s'.heap.update kS (Obj.mapSeq fun _=>(#[]:Array Value))).get? a=some (seqObj "list" #[] e1):=(s1.2 a hka).trans na;obtain⟨c2,hc2⟩:∃c2,((s'.heap.update kS (Obj.mapSeq fun _=>(#[]:Array Value))).update a (Obj.mapSeq fun _=>(arrOf st).map (·.2))).get? a=some (seqObj "list" ((arrOf st).map (·.2)) c2):=⟨_,get?_update_seq na1 fun _=>(arrOf st).map (·.2)⟩;unfold ksk_tail;dsimp only;refine wpAny_bind (listUpdate_at nk rfl ?_ (by rw[sizeLine_eq];omega) (Nat.zero_le _))
   refine wpAny_bind (wpAny_letGo ?_);refine wpAny_bind (seqEpoch_at na1 rfl ?_);refine wpAny_bind (listUpdate_at na1 rfl ?_ (Nat.zero_le _) (by rw[if_neg (by decide),Array.size_map,sizeLine_eq];omega))
   rw[hf];simp only[bne_self_eq_false,Bool.false_eq_true,if_false];obtain⟨zs,pz,qz⟩:=F4 pm all;have I1:=Gr (t':=s'.toks) (pl':=[(a,seqObj "list" #[] e1),(kS,seqObj "list" #[] c1)]) (h':=s'.heap.update kS (Obj.mapSeq fun _=>(#[]:Array Value))) I' okS nk2.1 (fun p hp=>by
    simp only[List.mem_cons,List.not_mem_nil,or_false] at hp;rcases hp with rfl|rfl
    ·exact .inr ⟨by simp,hka⟩
    ·exact .inl rfl) (fun c u hc e=>by rw[Heap.get?_update_ne _ _ _ _ hc];exact e) hc1 (fun v z=>by cases z)
   have I2:=Gr (t':=s'.toks) (pl':=[]) (ob:=seqObj "list" ((arrOf st).map (·.2)) c2) (h':=(s'.heap.update kS (Obj.mapSeq fun _=>(#[]:Array Value))).update a (Obj.mapSeq fun _=>(arrOf st).map (·.2))) I1 oa na2.1 (fun p hp=>by cases hp) (fun c u hc e=>by rw[Heap.get?_update_ne _ _ _ _ hc];exact e) hc2 (fun v z=>by cases z)
   have I3:Inv X pins σ H' _:=I2.unpinned;have dz:∃xs',DVs X.K H' (zs.map (·.2)) xs'∧Vals xs' ((arrOf st).toList.map (·.2)):=by
    have go:∀{l:List Keyed} {zs:List ((Int×Int)×D)},Paired (fun(p:Keyed) (q:(Int×Int)×D)=>Ak s'.heap p.1=q.1∧∃v,DV X.K H' q.2 v∧RelV v p.2) l zs→∃xs',DVs X.K H' (zs.map (·.2)) xs'∧Vals xs' (l.map (·.2)):=fun {l zs} h=>by
     induction h with
     |nil=>exact⟨[],.nil,.nil⟩
     |cons x _ ih=>
      obtain⟨_,v,d,r⟩:=x;obtain⟨xs',q1,q2⟩:=ih;exact⟨v::xs',.cons d q1,.cons r q2⟩
    exact go qz
   obtain⟨xs',q1,q2⟩:=dz;have sz:zs.Pairwise fun x y=>Aw x.1 y.1:=by
    have hbz:∀z∈zs,0≤z.1.2∧z.1.2<1000:=fun z hz=>hb _ (by
     have:=pz.mem_iff.mp hz
     obtain⟨z1,z2⟩:=z;exact(List.of_mem_zip this).1)
    have go:∀{l:List Keyed} {zs:List ((Int×Int)×D)},Paired (fun(p:Keyed) (q:(Int×Int)×D)=>Ak s'.heap p.1=q.1∧∃v,DV X.K H' q.2 v∧RelV v p.2) l zs→(l.Pairwise fun x y=>rkP (Ak s'.heap) x<rkP (Ak s'.heap) y)→(∀z∈zs,0≤z.1.2∧z.1.2<1000)→zs.Pairwise fun x y=>Aw x.1 y.1:=fun {l zs} h=>by
     induction h with
     |nil=>intro _ _;exact .nil
     |@cons p q l zs x t ih=>
      intro so hb;obtain⟨so1,so2⟩:=List.pairwise_cons.mp so;refine List.pairwise_cons.mpr ⟨fun z hz=>?_,ih so2 fun z hz=>hb z (List.mem_cons_of_mem _ hz)⟩;have hm:∀{l:List Keyed} {zs:List ((Int×Int)×D)},Paired (fun(p:Keyed) (q:(Int×Int)×D)=>Ak s'.heap p.1=q.1∧∃v,DV X.K H' q.2 v∧RelV v p.2) l zs→∀z∈zs,∃y∈l,Ak s'.heap y.1=z.1:=fun {l zs} h=>by
       induction h with
       |nil=>intro z hz;cases hz
       |cons x _ ih=>
        intro z hz;rcases List.mem_cons.mp hz with rfl|hz
        ·exact⟨_,List.mem_cons_self ..,x.1⟩
        ·obtain⟨y,hy,e⟩:=ih z hz;exact⟨y,List.mem_cons_of_mem _ hy,e⟩
      obtain⟨y,hy,e⟩:=hm t z hz
      have:=so1 y hy
      unfold rkP at this;rw[x.1,e] at this;have b1:=hb q (List.mem_cons_self ..);have b2:=hb z (List.mem_cons_of_mem _ hz);unfold Aw;omega
    exact go qz so hbz
   refine wpAny_pure (h H' _ zs xs' ((arrOf st).toList.map (·.2)) c2 I3 x' rg' ?_ na2.1 pz sz q1 q2);show((s'.heap.update kS (Obj.mapSeq fun _=>(#[]:Array Value))).update a (Obj.mapSeq fun _=>(arrOf st).map (·.2))).get? a=_;rw[hc2,←Array.toList_map,Array.toArray_toList]
  unfold ksk_end;dsimp only;rw[if_neg (show ¬(false=true) by decide)]
  simp only[Bool.false_eq_true,if_false]
  by_cases h2:us.toArray.size<2
  ·rw[if_pos h2,if_pos h2];refine wpAny_bind (wpAny_pure ?_);rw[StateT.run_pure];refine wpAny_bind (wpAny_pure ?_);dsimp only;have e0:(arrOf (SortSt.mk' general' (kA.zip us.toArray) #[] 7 none)).toList=kA.toList.zip us:=by
    show(kA.zip us.toArray).toList=_;rw[ksk_zip]
   refine tail _ (by rw[e0]) rfl ?_
   rw[e0]
   have:(kA.toList.zip us).length<2:=by rw[List.length_zip,hkl,Nat.min_self];simpa using h2
   match kA.toList.zip us,this with
   |[],_=>exact .nil
   |[x],_=>exact List.pairwise_singleton _ _
   |x::y::r,z=>exact absurd z (by simp)
  ·rw[if_neg h2,if_neg h2];have h2':2≤us.length:=by rw[List.size_toArray] at h2;omega
   have ekA:kA=kA.toList.toArray:=by rw[Array.toArray_toList]
   rw[ekA];refine wpAny_bind (Hx (key:=Ak s'.heap) hpa (by omega) ?_)
   refine wpAny_bind (Gd hkl hpa hba hnd (by have:=rv.length;omega) h2' fun st pm hf so=>?_)
   exact tail st pm hf so
end
end D3
set_option maxHeartbeats 2000000
namespace D3
open PySem PySem.Spec
open PyProof.Rows hiding St
open L2 hiding St
open PySem.W (KdlSrc kdl_values)
theorem Xx{K:W.Frag}{T:Addr}{q:Str}{params:Arguments}{body:Expr}{scope:Scope}{clos:List (Str×Addr)}{pm:Value}{lp:Pos}{σ:L2.St}{H:Hp}{Q:VK}{G:Gp}(rg:RelG K H G)(eT:G T=some (.tbl q))(key:∀H1 f c oc u ctv,Ext H H1→RelG K H1 G→H1 f=some (.frz (lamO q params body scope clos pm (.ref c) ctv) Cs)→H1 c=some (.frz oc u)→Kx oc q→Q (.ref f) H1):tLam T q params body scope clos pm lp σ H Q:=by
 obtain⟨ps,e,ht,ok⟩:=rg T _ eT;refine⟨ps,e,ht,fun cv ctv f hf hn=>?_,fun c o ctv f hf hc hn hne hci=>?_⟩
 ·obtain⟨c,oc,u,rfl,hcH,hci⟩:=ok _ _ hf;exact key _ f c oc u ctv (Ext.fresh hn) (rg.tup hn) Ah ((Ext.fresh hn).frz _ _ _ hcH) hci
 ·have nT:∀{b:Addr},H b=none→b≠T:=fun {b} n z=>by rw[z,e] at n;cases n
  have x1:Ext H (upd H T (.tbl (ps ++ #[rawInt lp.line,rawInt lp.col,.ref c]))):=Ext.tbl e;have c1:(upd H T (.tbl (ps ++ #[rawInt lp.line,rawInt lp.col,.ref c]))) c=none:=by rw[Ad (nT hc)];exact hc
  have x2:Ext _ (upd (upd H T (.tbl (ps ++ #[rawInt lp.line,rawInt lp.col,.ref c]))) c (.frz o Cs)):=Ext.fresh c1;have f2:(upd (upd H T (.tbl (ps ++ #[rawInt lp.line,rawInt lp.col,.ref c]))) c (.frz o Cs)) f=none:=by rw[Ad hne.symm,Ad (nT hn)];exact hn
  have x12:=x1.trans x2;have rg2:RelG K (upd (upd H T (.tbl (ps ++ #[rawInt lp.line,rawInt lp.col,.ref c]))) c (.frz o Cs)) G:=fun b u eb=>by
   by_cases hb:b=T
   ·subst hb;rw[eT] at eb;cases eb;refine⟨ps ++ #[rawInt lp.line,rawInt lp.col,.ref c],by rw[Ad (nT hc).symm,Ah],by simpa using TriplesOk_snoc _ _ _ _ ht,fun p cv q=>?_⟩
    rcases Tq _ ht (by simpa using q) with q|q
    ·obtain⟨c',o',u',a1,a2,a3⟩:=ok p cv q;exact⟨c',o',u',a1,x12.frz _ _ _ a2,a3⟩
    ·exact⟨c,o,Cs,q,Ah,hci⟩
   ·exact((rg b u eb).upd x1 (.inr hb)).upd x2 (.inl c1)
  exact key _ f c o Cs ctv (x12.trans (Ext.fresh f2)) (rg2.tup f2) Ah ((Ext.fresh f2).frz _ _ _ Ah) hci
theorem Aah{k:Nat}{A:Around}(r:Room (k+1) A):Room k A.in1.in1:=
 ⟨r.hd,by have:=r.dp;show A.depth+3*k+5<_;omega,by have:=r.un;show A.units+1+1+16*k+200<_;omega,r.gd⟩
section
variable{X:Cx}{σ:L2.St}{H:Hp}{f c:Addr}{x q:Str}{params:Arguments}{body:Expr}{scope:Scope}{pm ctv:Value}{oc:Obj}{uo:HO}{G:Gp}{d:D}{m:Int×Int}{k:Nat}{tb:DTE}
theorem U8(hr:Room (k+1) X.A)(hf:H f=some (.frz (lamO q params body scope [] pm (.ref c) ctv) Cs))(hc:H c=some (.frz oc uo))(hci:Kx oc q)(S:LamScope scope)(hbind:∀u pm cv ctv,bindArgs (W.kla_fn "<lambda>" q params body scope [] pm cv ctv) ⟨[u],[]⟩=pure [(x,u)])(hx:scope.names.lookup x=some .local)(hfree:∀y∈scope.names,y.2≠.free)(hb:∀f c A outer s H,Room k A→QE (Mh (CX1 X.prog X.w) X.prog X.w X.K X.mg X.base [x] q scope f (.ref c) [] A outer s H (El X.K noX)) body tb)(ht:∀Q':DK,Q' (F0 m) G→tb [some d] G Q'):Ki X σ H X.A.in1.in1 f G d m:=by
 intro pins s H' v u x' I rg dv rv;have fo:s.heap.get? f=some (lamO q params body scope [] pm (.ref c) ctv):=(I.hok f _ (x'.frz _ _ _ hf)).1;have co:s.heap.get? c=some oc:=(I.hok c _ (x'.frz _ _ _ hc)).1;obtain⟨vs,t,hd1,hd2⟩:=hci;refine wpAny_call (codeAny_mono (Wp (E:=El X.K noX) (t:=Bp X.K tb) (v:=v) (x:=x) (Q:=fun z H''=>Ext H' H''∧RelG X.K H'' G∧DV X.K H'' (F0 m) z) (Aah hr) I.env0.in1.in1 fo ⟨c,oc,vs,t,rfl,co,hd1,hd2⟩ S (hbind u pm (.ref c) ctv) hx hfree rv (hb f c _ _ s H' (Aah hr)) ?_) fun r s' hq=>?_)
 ·refine⟨[some d],G,fun e G'=>e=F0 m∧G'=G,⟨rfl,fun i d' e=>?_⟩,rg,ht _ ⟨rfl,rfl⟩,fun e G' ⟨e1,e2⟩ H2 x2 rg2 z dz=>?_⟩
  ·match i,e with
   |0,e=>cases e;exact⟨v,rfl,dv⟩
   |i+1,e=>cases e
  ·subst e1 e2;exact⟨x2,rg2,dz⟩
 ·cases r with
  |error e=>
   obtain⟨a,C,t,H',B,_,_,_,_,_,_,_,_,_,G',_,z⟩:=hq;exact z.elim
  |ok fl=>
   cases fl with
   |ret u=>exact I.after hq
   |next=>exact False.elim hq
   |brk=>exact False.elim hq
   |cont=>exact False.elim hq
end
section
variable{X:Cx}{pins:List (Addr×Obj)}{σ:L2.St}{H:Hp}{s:Shared}{f:Addr}{E:Value→Shared→Prop}
theorem O3{x:Value}{xs:List V}{ds:List D}{ms:List (Int×Int)}{G:Gp}{Q:Value→Shared→Prop}(hcol:∀Q':List Value→Shared→Prop,(∀us s',Inv X pins σ H s'→Vals xs us→Q' us s')→wpAny (model X.prog X.w) X.A.in1 (collect x) Q' E s)(rg:RelG X.K H G)(dv:DVs X.K H ds xs)(hz:ds.length≤63)(hm:ms.length=ds.length)(nd:ms.Nodup)(hb:∀m∈ms,0≤m.2∧m.2<1000)(turn:∀(i:Nat) (d:D) (m:Int×Int),ds[i]? = some d→ms[i]? = some m→Ki X σ H X.A.in1.in1 f G d m)(h:∀H' s' a (zs:List ((Int×Int)×D)) xs',Inv X pins σ (upd H' a (.lst xs')) s'→Ext H H'→H' a=none→RelG X.K H' G→zs.Perm (ms.zip ds)→(zs.Pairwise fun x y=>Aw x.1 y.1)→DVs X.K H' (zs.map (·.2)) xs'→Q (.ref a) s') :
  wpAny (model X.prog X.w) X.A (call (.builtin "sorted") [x] [(Str.ofString "key",.ref f)]) Q E s:=by
 refine call_function_entry_kw kind_sorted plain_sorted entry_sorted (ksk_s1 _ _) ?_;unfold Builtin.«sorted»;refine wpAny_bind (m:=checkCount "sorted" 1 1 _) (wpAny_pure ?_);refine wpAny_bind (hcol _ fun us s1 I1 rv=>?_);have hlen:us.length=ds.length:=by rw[←rv.length,←dv.length]
 refine wpAny_bind (wpAny_newList ?_ (by rw[sizeLine_eq];omega))
 have hoL:(s1.heap.push (seqObj "list" us.toArray 0)).get? s1.heap.objs.size=some (seqObj "list" us.toArray 0):=Heap.get?_push_size _ rfl;show wpAny _ _ _ _ _ { s1 with heap:=s1.heap.push (seqObj "list" us.toArray 0) };have ow:Own X pins s1.heap.objs.size:=Qw I1 (Nat.le_refl _);have I2:Inv X pins σ H { s1 with heap:=s1.heap.push (seqObj "list" us.toArray 0),toks:=s1.toks }:=I1.kept fun b o e=>Heap.get?_push_of_some _ e;have hn:H s1.heap.objs.size=none:=I1.hok.fresh (Nat.le_refl _);refine wpAny_bind (wpAny_holding (wpAny_call_entry_kw slot_list_sort ⟨_,hoL,rfl⟩ entry_list_sort ?_ (ksk_l1 _ _)));show wpAny (model X.prog X.w) _ (Builtin.«list.sort» ⟨[.ref s1.heap.objs.size],[(Str.ofString "key",.ref f)]⟩) _ _ _;rw[ksk_t1];refine Wq (s:={ s1 with heap:=s1.heap.push (seqObj "list" us.toArray 0),toks:=s1.toks }) I2 hoL ow hn rg dv rv (by omega) hm nd hb turn fun H' s' zs xs' out n' I3 x3 rg3 ho3 hn3 pz sz dz vz=>⟨_,rfl,?_⟩
 refine wpAny_pure ⟨_,rfl,h H' s' _ zs xs' (adopt I3 (ow.fp hn3) ow.new ?_) x3 hn3 rg3 pz sz dz⟩;refine⟨?_,out,n',vz,ho3⟩;rw[←dz.length,List.length_map,pz.length_eq,List.length_zip,sizeLine_eq];omega
end
set_option maxHeartbeats 2000000
section
variable{X:Cx}{e:Expr}{pos p:Pos}
noncomputable def Ue(X:Cx)(σ:L2.St)(H:Hp)(f:Addr)(xs:List V)(Q:VK):Prop:=∃(ds:List D) (ms:List (Int×Int)) (G:Gp),RelG X.K H G∧DVs X.K H ds xs∧ds.length≤63∧ms.length=ds.length∧ms.Nodup∧(∀m∈ms,0≤m.2∧m.2<1000)∧
 (∀(i:Nat) (d:D) (m:Int×Int),ds[i]? = some d→ms[i]? = some m→Ki X σ H X.A.in1.in1 f G d m)∧
 ∀H' a (zs:List ((Int×Int)×D)) xs',Ext H H'→H' a=none→RelG X.K H' G→zs.Perm (ms.zip ds)→(zs.Pairwise fun x y=>Aw x.1 y.1)→DVs X.K H' (zs.map (·.2)) xs'→Q (.ref a) (upd H' a (.lst xs'))
noncomputable def Xv(X:Cx)(te tk:TE):TE:=fun σ H Q=>te σ H fun x H1=>tk σ H1 fun y H2=>∃v a f,∃kvs:List (Key×V),[x]=[.ref v]∧[y]=[.ref f]∧H2 v=some (.frz (Fz a) Cs)∧H2 a=some (.dK kvs)∧Ue X σ H2 f (kvs.map (·.2)) Q
theorem Q6:∀{kvs:List (Key×V)} {vs:List (Key×Value)},KV kvs vs→Vals (kvs.map (·.2)) (vs.map (·.2))
 |_,_,.nil=>.nil
 |_,_,.cons h t=>.cons h.2 (Q6 t)
theorem Pj{kvs:List (Key×Value)}{acc:Array Value}(h:ItemsOf (fun i v=>∃k,kvs[i]? = some (k,v)) acc kvs.length):acc.toList=kvs.map (·.2):=by
 obtain⟨h1,h2⟩:=h;refine List.ext_getElem (by simp[h1]) fun i hi hj=>?_
 have hi':i<acc.size:=by simpa using hi
 obtain⟨k,e⟩:=h2 i acc[i] (Array.getElem?_eq_getElem hi');rw[List.getElem_map,Array.getElem_toList]
 have:=(List.getElem?_eq_some_iff.mp e).2
 rw[this]
theorem R7{lam:Expr}{te tk:TE}{kp:Pos}(hc:X.calm=true)(hg:Gl X "sorted")(hm:X.mg "sorted" = none)(he:PE X e te)(hk:PE X lam tk)(hs:starEach [e] X.env=[(false,eval e X.env)]:=by rfl):PE X (.Call (.Name "sorted" p) [e] [⟨some "key",lam,kp⟩] pos) (Xv X te tk):=by
 intro pins s σ H Q I h;refine wpAny_Call_Name_kw (Ha I hg hm boot_sorted ?_ (by decide) (by decide))
 have ha:PA X [e] (P6 te Xi):=Qv he pa_nil hs;have hkw:PK X [⟨some "key",lam,kp⟩] (P6 tk Xi):=Ys hk Ac8;refine PyProof.Rows.callWith_kw (thn (ha pos pins s σ H (fun vs H1=>tk σ H1 fun y H2=>∃v a f,∃kvs:List (Key×V),vs=[.ref v]∧[y]=[.ref f]∧H2 v=some (.frz (Fz a) Cs)∧H2 a=some (.dK kvs)∧Ue X σ H2 f (kvs.map fun k:Key×V=>k.2) Q) I h) fun us s1 ⟨vs,H1,I1,r1,q1⟩=>?_) (by rw[hs];rfl) (by rw[hs];rfl) rfl rfl
 refine thn (hkw pos pins s1 σ H1 (fun zs H2=>∃v a f,∃kvs:List (Key×V),vs=[.ref v]∧zs=[.ref f]∧H2 v=some (.frz (Fz a) Cs)∧H2 a=some (.dK kvs)∧Ue X σ H2 f (kvs.map fun k:Key×V=>k.2) Q) I1 q1) fun ws s2 zz=>?_;obtain⟨zs,H2,I2,r2,q2⟩:=zz;obtain⟨v,a,f,kvs,rfl,rfl,ev,ea,ds,ms,G,rg,dv,hz,hml,nd,hb,turn,q⟩:=q2;obtain⟨u,rfl,rx⟩:=Vals.one r1;obtain⟨z,rfl,ry⟩:=Vals.one r2;obtain rfl:u=Value.ref v:=rx;obtain rfl:z=Value.ref f:=ry;obtain⟨_,hd,ks,rel,dd⟩:=D6 I2.hok ea;obtain⟨ep,hat⟩:=dd.dictAt;have hv:s2.heap.get? v=some (Fz a):=(show ObjOk X.prog X.w H2 s2.heap v (.frz (Fz a) Cs) from I2.hok v _ ev).1;have hkl:ks.length≤sizeLine:=by
  have h1:kvs.length=ks.length:=Paired.length rel;have h2:=dv.length;rw[List.length_map] at h2;rw[sizeLine_eq];omega
 refine O3 (fun Q' hQ=>Nv (A:=X.A.in1) (kdl_values (knd:=Al X.prog X.w) (kvs:=ks) (r:=v) (d:=a) (ep:=ep)) (I2.ok.hd hc) ⟨⟨_,hv,rfl,rfl⟩,hat⟩ hkl fun h' tk acc keep hI=>?_) rg dv hz hml nd hb turn fun H' s' b zs xs' I' x' hn rg' pz sz dz=>⟨.ref b,_,I',rfl,q H' b zs xs' x' hn rg' pz sz dz⟩;refine hQ _ _ (I2.kept keep) ?_;rw[Pj hI];exact Q6 rel
noncomputable def nSortVK(T:Addr)(q:Str)(tb:DTE)(to:DTE):DTE:=fun σ G Q=>to σ G fun x G1=>∃a,x=.ref a∧∃kvs,G1 a=some (.dkk kvs)∧G1 T=some (.tbl q)∧kvs.length≤63∧∃ms:List (Int×Int),ms.length=kvs.length∧ms.Nodup∧(∀m∈ms,0≤m.2∧m.2<1000)∧
 (∀(i:Nat) (d:D) (m:Int×Int),(kvs.map (·.2))[i]? = some d→ms[i]? = some m→∀Q':DK,Q' (F0 m) G1→tb [some d] G1 Q')∧
 ∀l (zs:List ((Int×Int)×D)),G1 l=none→zs.Perm (ms.zip (kvs.map (·.2)))→(zs.Pairwise fun x y=>Aw x.1 y.1)→Q (.ref l) (Ab G1 l (.lst (zs.map (·.2))))
theorem M5{K:W.Frag}{H:Hp}:∀{kvs:List (Key×D)} {ks:List (Key×V)},Paired (Ent Key K H) kvs ks→DVs K H (kvs.map (·.2)) (ks.map (·.2))
 |_,_,.nil=>.nil
 |_,_,.cons h t=>.cons h.2 (M5 t)
theorem Vl{T c0:Addr}{k:Nat}{x:Str}{o:Expr}{to tb:DTE}{apos cpos:Pos}{params:Arguments}{body:Expr}{scope:Scope}{lpos kp:Pos}(hr:Room (k+1) X.A)(hc:X.calm=true)(hm:X.mg "sorted" = none)(ho:QE X o to)(hcode:X.env.code=.ref c0)(hC:W.codeHdIn X.K c0 T=true)(hb:∀f c A outer s H,Room k A→QE (Mh (CX1 X.prog X.w) X.prog X.w X.K X.mg X.base [x] (X.env.qual ++ "<lambda>") scope f (.ref c) [] A outer s H (El X.K noX)) body tb)(hcl:closureFor scope X.env=pure [])(hS:LamScope scope)(hx:scope.names.lookup x=some .local)(hfree:(scope.names.all fun p=>p.2 != .free)=true)(hbind:∀q u pm cv ctv,bindArgs (W.kla_fn "<lambda>" q params body scope [] pm cv ctv) ⟨[u],[]⟩=pure [(x,u)])(hg:Gl X "sorted":=by rfl)(hdef:defaultsOf params X.env=([],[]):=by rfl)(hbase:attributeBase o "values" X.env (eval o X.env)=eval o X.env:=by rfl)(hline:(apos.endLine == cpos.line)=true:=by rfl)(hs:starEach [.Call (.Attribute o "values" apos) [] [] cpos] X.env=[(false,eval (.Call (.Attribute o "values" apos) [] [] cpos) X.env)]:=by rfl) :
  QE X (.Call (.Name "sorted" p) [.Call (.Attribute o "values" apos) [] [] cpos] [⟨some "key",.Lambda params body scope lpos,kp⟩] pos) (nSortVK T (X.env.qual ++ "<lambda>") tb to):=
 (R7 (kp:=kp) hc hg hm (R6 ho hbase hline) (Adk (pos:=lpos) hdef hcl hcode hC) hs).imp fun σ H Q zz=>by
  obtain⟨σD,G,Q',rs,rg,h,cl⟩:=zz;refine⟨σD,G,_,rs,rg,h,fun x G1 zz H1 x1 rg1 v dv=>?_⟩;obtain⟨a,ex,kvs,ea,eT,hz,ms,h1,h2,h3,h4,q⟩:=zz;subst ex;cases dv;obtain⟨ks,eh,r⟩:=rg1 a _ ea;refine⟨a,ks,rfl,eh,fun w hw=>?_⟩;refine Xx (rg1.tup hw) eT fun H2 f c oc u ctv x2 rg2 hf hcc hci=>?_;obtain⟨ks2,eh2,r2⟩:=rg2 a _ ea;have e12:H2 w=some (.frz (Fz a) Cs):=x2.frz _ _ _ Ah;refine⟨w,a,f,ks2,rfl,rfl,e12,eh2,kvs.map (·.2),ms,G1,rg2,M5 r2,by rw[List.length_map];exact hz,by rw[List.length_map];exact h1,h2,h3,fun i d m hd hm'=>?_,fun H3 l zs xs' x3 hl rg3 pz sz dz=>?_⟩
  ·exact U8 hr hf hcc hci hS (hbind _) hx (fun y hy=>by simpa using List.all_eq_true.mp hfree y hy) hb (h4 i d m hd hm')
  ·exact cl _ _ (q l zs (rg3.free hl) pz sz) _ ((x1.trans (Ext.fresh hw)).trans (x2.trans (x3.trans (Ext.fresh hl)))) (rg3.lst hl dz) _ (.ref l)
end
end D3
namespace K2
open PySem L2 D3
def zzM:List Lean.Term×List (Array Lean.Term)→String→Lean.MacroM (List Lean.Term×List (Array Lean.Term))
 |(x,a::s),w=>do
  let p t:=(x.tail,a.push t::s)
  let h:Lean.Term:=x.headD ⟨.missing⟩
  match w with
  |"{"=>return(x,#[]::a::s)
  |")"=>return(x,match s with|b::s=>b.push (Lean.Syntax.mkApp (a[0]?.getD h) (a.extract 1 a.size))::s|_=>[])
  |"}"=>
   let f←`(fun _ _ _=>$(a[0]?.getD h))
   return(x,match s with|b::s=>b.push f::s|_=>[])
  |"$"=>return p h
  |"/"=>return p (←`(($h).mono (by decide)))
  |":"=>return p (←`(($h).blt (by decide)))
  |"="=>return p (←`(by exact ($h).blt (by decide)))
  |_=>
   let i:Lean.Term:=Lean.mkIdent (w.drop 1).toName
   if w.startsWith "@" then return(x,#[←`(@$(⟨i.raw⟩))]::a::s)
   let t←match w with
   |"-"=>`(rfl)|"!"=>`(by rfl)|"?"=>`(by decide)|"+"=>`(by decide +kernel)|"*"=>`(by exact ⟨rfl,rfl,rfl,rfl⟩)|"<"=>`(by exact .inl rfl)|">"=>`(by exact .inr rfl)|"^"=>`(by intro _;rfl)|"%"=>`(by intro _ _;rfl)|"~"=>`(Ad1 _)
   |_=>if w.startsWith "&" then pure i else `(_)
   return(x,(a++List.replicate (w.toNat?.getD 1) t)::s)
 |s,_=>pure s
def zzT:List (List String):=("a,@q_v1,2,$,1,*,);b,@An,5,$,@qa_nil,1,),!,);c,@An,5,$,$,!,);d,@Mm,5,$,$,);e,@Acx,8,&noX,3,$,/,@Aan,2,),$,!,?,!,!,);f,@Gq,3,$,);g,@Qm,2,$,1,$,!,<,<,);h,@Oo,4,$,);i,@Aak,5,$,);j,@Km,4,$,2,$,$,!,<,!,<,);k,@Rk,6,$,@q_int,4,),%,);l,@Mn,5,$,$,!,);m,@Aci,3,$,^,);n,@Acj,4,$,);o,@An,5,@q_int,4,),$,!,);p,@Ch,9,@c_len,1,),:,+,$,!,?,?,!,!,);q,@P8,8,$,@Gq,3,@Oo,4,@q_bl,4,),),),@qss_nil,1,),);r,@q_fld,6,$,$,$,!,);s,@Uk,6,$,$,!,!,!,);t,@An,5,$,@An,5,@q_int,4,),@qa_nil,1,),!,),!,);u,@Yh,4,$,!,);v,@Rk,6,$,$,%,);w,@Mg,4,$,);x,@Acp,5,$,-,$,!,!,);y,@Mn,5,$,@Yi,1,),!,);z,@q_and,7,$,$,);A,@P8,8,$,$,@qss_nil,1,),);B,@q_op,8,@Ot,1,),$,$,);C,@qt_of,3,$,);D,@An,5,@Aal,4,),$,!,);E,@Yk,4,$,!,?,);F,@q_v2,2,$,1,*,);G,@q_op,8,@Ot,1,),$,@q_int,4,),);H,@qt_cmp,8,$,$,$,~,);I,@qw_or,7,$,$,);J,@Acg,4,$,);K,@Ch,9,@W3,1,),:,+,$,!,?,?,!,!,);L,@Vn,3,$,:,+,!,?,?,);M,@q_op,8,@Ot,1,),@q_int,4,),$,);N,@q_op,8,@o_mod,1,),$,@q_int,4,),);O,@q_one,5,$,);P,@Acn,8,&PassesOwn.never,-,$,$,$,^,);Q,@o_neD,2,$,);R,@Qm,2,$,1,$,!,<,>,);S,@q_op,8,@o_sub,1,),$,@q_int,4,),);T,@Mm,5,$,@Gq,3,@Oo,4,@q_bl,4,),),),);U,@Ul,7,$,$,$,^,);V,@Ez,9,@Zz,1,),:,+,$,!,?,?,!,!,);W,@Ql,3,$,);X,@q_cmp,8,@o_eq,1,),$,@q_int,4,),~,);Y,@Qk,10,&PassesOwn.never,-,:,@An,5,@q_int,4,),@qa_nil,1,),!,),$,$,!,!,^,);Z,@q_op,8,@T8,1,),$,@q_int,4,),);0,@Qo,11,$,$,-,@Hf,4,!,!,!,!,!,),$,{,$,},{,@Um,1,),},{,$,},^,);1,@q_app,7,$,$,!,!,!,!,!,);2,@Acl,4,$,$,9,-,$,$,!,!,?,!,!,!,!,);3,@Mg,4,@qa_nil,1,),);4,@Qk,10,&PassesOwn.never,-,:,$,$,$,!,!,^,);5,@An,5,$,@An,5,@q_int,4,),@An,5,@q_int,4,),@qa_nil,1,),!,),!,),!,);6,@Acv,6,$,$,%,);7,@qt_cmp,8,@o_eq,1,),$,@q_int,4,),~,);8,@q_op,8,@T8,1,),$,$,);9,@Ul,7,$,@q_int,4,),@s_list,1,),^,);aa,@Ch,9,@c_all,1,-,),:,+,$,!,?,?,!,!,);ab,@q_cmp,8,$,$,$,~,);ac,@P8,8,$,@Gq,3,@Vi,2,),),@qss_nil,1,),);ad,@qt_cmp,8,@o_ne,1,),$,@q_int,4,),~,);ae,@Ach,7,$,$,);af,@Yg,4,$,);ag,@qt_cmp,8,@o_gt,1,),$,@q_int,4,),~,);ah,@Yl,4,$,!,?,);ai,@P8,8,$,@Ack,2,),@qss_nil,1,),);aj,@K3,9,$,@K1,1,),$,);ak,@K3,9,$,$,@K1,1,),);al,@Uj,9,$,$,$,$,!,);am,@Yj,8,$,$,$,);an,@An,5,$,@An,5,@q_int,4,),@An,5,@q_int,4,),@An,5,@q_int,4,),@qa_nil,1,),!,),!,),!,),!,);ao,@q_op,8,@T8,1,),@q_int,4,),$,);ap,@Acm,8,$,$,$,);aq,@qt_cmp,8,@o_lt,1,),$,$,~,);ar,@q_op,8,@Ad0,1,),$,@q_int,4,),);as,@Ch,9,@c_abs,1,),:,+,$,!,?,?,!,!,);at,@Km,4,$,2,$,@q_int,4,),!,<,!,<,);au,@Km,4,$,2,$,@Mg,4,@qa_nil,1,),),!,<,!,<,);av,@Uk,6,@q_bl,4,),$,!,!,!,);aw,@Ch,9,@Ti,1,-,),:,+,$,!,?,?,!,!,);ax,@Rk,6,@Mg,4,@An,5,@q_int,4,),@An,5,@q_int,4,),@An,5,@q_int,4,),@An,5,@q_int,4,),@qa_nil,1,),!,),!,),!,),!,),),$,%,);ay,@Acs,8,$,$,$,%,);az,@Ym,5,$,2,&noX,3,$,/,@Aan,2,),$,!,<,?,?,!,!,);aA,@K3,9,$,@Ql,3,@q_int,4,),),@K1,1,),);aB,@Acq,9,$,$,@q_non,3,),!,!,!,!,);aC,@qt_cmp,8,@o_le,1,),$,$,~,);aD,@Uj,9,$,$,$,@Uo,2,),!,);aE,@Ch,9,@Aej,1,-,),:,+,$,!,?,?,!,!,);aF,@Rk,6,@Mg,4,@An,5,@q_int,4,),@An,5,@q_int,4,),@qa_nil,1,),!,),!,),),$,%,);aG,@Ch,9,@W4,1,),:,+,$,!,?,?,!,!,);aH,@Qo,11,$,$,-,@Hf,4,!,!,!,!,!,),$,{,$,},{,$,},{,$,},^,);aI,@Aco,4,$,4,$,@Aef,1,),@q_int,4,),!,<,<,);aJ,@Ez,9,$,:,+,$,!,?,?,!,!,);aK,@Km,4,$,2,$,@Uo,2,),!,<,!,<,);aL,@Vm,9,$,$,$,!,!,!,!,);aM,@Ez,9,@Aek,1,),:,+,$,!,?,?,!,!,);aN,@Ez,9,@Z0,1,-,),:,+,$,!,?,?,!,!,);aO,@Acr,7,$,$,!,!,!,!,);aP,@Vj,13,$,$,$,3,-,@Hf,4,!,!,!,!,!,),$,{,$,},{,$,},{,$,},{,$,},$,-,!,$,$,^,);aQ,@Vl,5,$,$,10,/,-,:,$,$,$,$,-,$,-,+,$,!,!,!,!,!,);aR,@Acu,13,$,$,/,$,$,$,!,?,!,!,);aS,@Ch,9,@W2,1,),:,+,$,!,?,?,!,!,);aT,@R4,9,$,$,$,7,-,@Hf,4,!,!,!,!,!,),:,$,{,$,},{,@Um,1,),},{,$,},$,-,!,$,$,!,!,^,);aU,@Vk,11,$,$,$,3,-,@Hf,4,!,!,!,!,!,),$,{,$,},{,$,},{,$,},$,-,!,$,$,^,);aV,@Ch,9,@Aei,1,-,),:,+,$,!,?,?,!,!,)".splitOn ";").map (·.splitOn ",")
local macro_rules|`(#[$xs,*])=>do
 let k::x:=xs.getElems.toList|Lean.Macro.throwUnsupported
 let some k:=k.raw.isStrLit?|Lean.Macro.throwUnsupported
 let some (_::t):=zzT.find? (·.head? ==some k)|Lean.Macro.throwUnsupported
 let (_,#[t]::_)←t.foldlM zzM (x,[#[]])|Lean.Macro.throwUnsupported
 return t
local macro_rules|`(tactic|simp![$xs,*])=>do
 let l←("nSeq,Md,nOp,nC,Xj,Dk,List.map_cons,List.map_nil,List.length_cons,List.length_nil,Nat.zero_add,Nat.reduceAdd,Nat.reduceSub,List.replicate,List.cons_append,List.nil_append,List.getElem?_cons_succ,List.getElem?_cons_zero,Option.some.injEq,dI,D.int.injEq,CMul,Int.reducePow,Int.reduceNeg,F2,nIfM,Qa,List.set_cons_succ,List.set_cons_zero,nCB,Ua,Xk,List.cons.injEq,and_true,dI0,D.bl.injEq,dIx,exists_eq_left',Aaw,decide_eq_true_eq,nIfS,dEq,eqS,nRet,nLst,T4,Int.reduceLT,true_and,and_assoc,Aa0,Int.reduceLE,Int.reduceToNat,Fi,and_self,true_or,or_true,mSub,Abh,D.ref.injEq,Aa,GO.lst.injEq,Cz,ix1,atI1,Kr,Aa3,mTup,D.tup.injEq,Aa5,mNil,exists_and_left,List.length_set,T2,ix0,reduceCtorEq,if_false,Aa4,D.ty.injEq,Aav,Zw,Aeh,decide_true,nOr,nNot,nTru,Ov,Ws,if_true,Bool.not_false,Zm,Wz,Abz,Aaq,Ho,dNe,nTup,nAnd,nFor,dTIn,Abg,Aa1,nApp,Uv,nAug,nPar,ty_bl,Aay,Fb,Ux,nSl,Aau,Q0,Eo,dMIn,Ab0,Aa2,Zv,Qz,nFld,dKIn,Aaz,Aeq,Abi,Aas,Aar,Aat,Uw,nSortVK,Aax,Q1,nIf,dEmp".splitOn ",").toArray.mapM fun n=>`(Lean.Parser.Tactic.simpLemma|$(Lean.mkIdent n.toName):term)
 `(tactic|simp only[$l,*,$xs,*])
theorem ln1 {α} {us:List α} (h:us.length=1):∃a,us=[a]:=by
 match us,h with | [a],_=>exact ⟨a,rfl⟩
theorem ln2 {α} {us:List α} (h:us.length=2):∃a b,us=[a,b]:=by
 match us,h with | [a,b],_=>exact ⟨a,b,rfl⟩
theorem ln3 {α} {us:List α} (h:us.length=3):∃a b c,us=[a,b,c]:=by
 match us,h with | [a,b,c],_=>exact ⟨a,b,c,rfl⟩
theorem ln4 {α} {us:List α} (h:us.length=4):∃a b c d,us=[a,b,c,d]:=by
 match us,h with | [a,b,c,d],_=>exact ⟨a,b,c,d,rfl⟩
theorem ln5 {α} {us:List α} (h:us.length=5):∃a b c d e,us=[a,b,c,d,e]:=by
 match us,h with | [a,b,c,d,e],_=>exact ⟨a,b,c,d,e,rfl⟩
noncomputable def top(i:Nat):Stmt:=PySem.Challenge.pw_laidmarks_k08_adrift_day_by_day.main.body.getD i (.Pass ⟨0,0,0,0⟩)
noncomputable abbrev Ng:List Str:=["len", "range", "abs", "divmod", "max", "min", "tuple", "int", "bool", "list", "str", "isinstance", "all", "sorted", "repr", "dict", "zip", "set", "sum", "reversed", "enumerate", "ValueError"]
theorem exPow{p:Int→Int→Prop}{i j:Int}:(∃a b,D.int i=D.int a∧D.int j=D.int b∧p a b)↔p i j:=⟨fun⟨_,_,e1,e2,h⟩=>by cases e1;cases e2;exact h,fun h=>⟨i,j,rfl,rfl,h⟩⟩
theorem Et{α:Type}{xs:List α}{i:Int}(h0:0≤i)(h1:i<xs.length):∃x,atI xs i=some x∧x∈xs:=by
 obtain⟨k,rfl⟩:=Int.eq_ofNat_of_zero_le h0;have hk:k<xs.length:=by omega
 exact⟨xs[k],B5 (List.getElem?_eq_getElem hk),List.getElem_mem hk⟩
section
variable{P:Program}{w:World}{K:W.Frag}{mg:Str→Option Value}{base:Heap}
structure Blt(mg:Str→Option Value):Prop where
 blt:∀{x:Str},x∈Ng→mg x=none
noncomputable def Dg(o:Option GO):Prop:=∃b c,o=some (.lst [.int b,.int c])
noncomputable abbrev s_L_box:Stmt:=top 70
noncomputable abbrev Aae:List Str:=["_law_script", "_law_k", "_law_here", "_law_number", "_law_j", "_law_piece"]
noncomputable abbrev p_L_box:List Str:=["_law_script", "_law_k"]
theorem sc_L_box:FnScope Aae p_L_box (defScope s_L_box):=⟨rfl,rfl,rfl,by decide +kernel,rfl,by decide +kernel,by decide +kernel⟩
noncomputable def spBox:DSp:=fun ds G Q _=>∃ns k,ds=[.lint ns,.int k]∧(0≤k∧k<1000)∧∀p,G p=none→∀b c,Q (.ref p) (Ab G p (.lst [.int b,.int c]))
theorem Adz{f:Addr}{fd:FuncData}(F:Fun K "_law_box" "_law_box" s_L_box f fd)(T:Blt mg):FnOk P w K mg base CX0 1 f fd p_L_box (liftSp K spBox):=by
 refine okD F sc_L_box (fun ds G Q E h=>?_) (fun cdv A outer s H XE ds G Q E hr h=>?_)
 ·obtain⟨ns,k,rfl,_⟩:=h;rfl
 ·obtain⟨ns,k,rfl,⟨k0,k1⟩,q⟩:=h;refine⟨_,#["d",#["j",2,sc_L_box.nd,#["G",#["ao",#["a",1]]]],#["d",#["ap",#["aq",#["a",1],#["p",T,#["b",#["a",0]]]],#["f",#["j",2,sc_L_box.nd,#["v",#["a",0],#["a",1]]]],(@qss_nil _)],#["d",#["A",#["7",#["N",#["a",2]]],#["f",#["h",#["w",#["c",#["ar",#["a",2]],#["b",#["N",#["as",T,#["b",#["a",2]]]]]]]]]],#["d",#["at",3,sc_L_box.nd],#["d",#["Y",T,#["g",4,sc_L_box.nd],#["d",#["j",5,sc_L_box.nd,#["N",#["G",#["B",#["Z",#["N",#["a",2]]],#["ao",#["a",4]]]]]],#["d",#["j",5,sc_L_box.nd,#["N",#["8",#["a",5],#["a",5]]]],#["f",#["j",3,sc_L_box.nd,#["B",#["Z",#["a",3]],#["N",#["8",#["a",5],#["G",#["a",5]]]]]]]]]],#["f",#["h",#["w",#["c",#["a",3],#["b",#["N",#["as",T,#["b",#["a",2]]]]]]]]]]]]]],?_⟩;obtain⟨k,rfl⟩:=Int.eq_ofNat_of_zero_le k0;have sz:=sz2;simp![S6,Mv];refine⟨fun σ G'=>∃n,σ=[some (.lint ns),some (.int k),some (.int n),none,none,none]∧G=G',?_,?_⟩
  ·by_cases h:k<ns.length
   ·refine it0 (by omega) ?_
    have e:ns[k]? = some ns[k]:=by simp[h]
    exact⟨_,Aeo (by rw[List.getElem?_map,e];rfl),Fs.of ⟨_,rfl,rfl⟩⟩
   ·refine it1 (by omega) ?_
    exact Fs.of ⟨_,rfl,rfl⟩
  ·rintro σ' G' ⟨n,rfl,rfl⟩;simp![sz]
   by_cases h:n % 2=0
   ·refine it0 h ?_;exact fun p hp=>Fq.of (q p hp _ _)
   ·refine it1 h ?_;refine Bl (fun i σ G'=>∃m v v',σ=[some (.lint ns),some (.int k),some (.int n),some (.int m),v,v']∧G=G') ⟨0,none,none,rfl,rfl⟩ ?_ ?_
    ·rintro i σ G' hi ⟨m,v,v',rfl,rfl⟩;simp![];have p1:∀x:Int,0≤x % 2147483647∧x % 2147483647<2147483647:=fun x=>⟨Int.emod_nonneg _ (by decide),Int.emod_lt_of_pos _ (by decide)⟩
     have p2:∀x:Int,0≤x % 2147483629∧x % 2147483629<2147483629:=fun x=>⟨Int.emod_nonneg _ (by decide),Int.emod_lt_of_pos _ (by decide)⟩
     exact⟨.inl ⟨Int.lt_of_lt_of_le (by decide) (p1 _).1,Int.lt_trans (p1 _).2 (by decide)⟩,.inl ⟨Int.lt_of_lt_of_le (by decide) (p2 _).1,Int.lt_trans (p2 _).2 (by decide)⟩,Fs.of ⟨_,_,_,rfl,rfl⟩⟩
    ·rintro σ G' ⟨m,v,v',rfl,rfl⟩;simp![sz];exact fun p hp=>Fq.of (q p hp _ _)
noncomputable abbrev s_L_more:Stmt:=top 71
noncomputable abbrev Xh:List Str:=["_law_box_here", "_law_number", "_law_j"]
noncomputable abbrev C1:List Str:=["_law_box_here"]
theorem sc_L_more:FnScope Xh C1 (defScope s_L_more):=⟨rfl,rfl,rfl,by decide +kernel,rfl,by decide +kernel,by decide +kernel⟩
noncomputable def Kj:DSp:=fun ds G Q _=>∃a,ds=[.ref a]∧∃b c,G a=some (.lst [.int b,.int c])∧∀n c',Q (.int n) (Ab G a (.lst [.int b,.int c']))
theorem Y6{f:Addr}{fd:FuncData}(F:Fun K "_law_more" "_law_more" s_L_more f fd)(T:Blt mg):FnOk P w K mg base CX0 1 f fd C1 (liftSp K Kj):=by
 refine okD F sc_L_more (fun ds G Q E h=>?_) (fun cdv A outer s H XE ds G Q E hr h=>?_)
 ·obtain⟨a,rfl,_⟩:=h;rfl
 ·obtain⟨a,rfl,b,c,hG,k⟩:=h;refine⟨_,#["d",#["at",1,sc_L_more.nd],#["d",#["Y",T,#["g",2,sc_L_more.nd],#["d",#["s",#["N",#["G",#["Z",#["k",#["a",0]]]]],#["9",#["a",0]]],#["f",#["j",1,sc_L_more.nd,#["B",#["Z",#["a",1]],#["N",#["ar",#["k",#["a",0]]]]]]]]],#["f",#["h",#["a",1]]]]],?_⟩;obtain⟨G,rfl⟩:=Uy hG;simp![];refine Bl (fun i σ G'=>∃c' n v,σ=[some (.ref a),some (.int n),v]∧G'=Ab G a (.lst [.int b,.int c'])) ⟨c,0,none,rfl,rfl⟩ ?_ ?_
  ·rintro i σ G' hi ⟨c',n,v,rfl,rfl⟩;simp![Cc Aa];exact Fs.of ⟨_,_,_,rfl,rfl⟩
  ·rintro σ G' ⟨c',n,v,rfl,rfl⟩;simp![];have k:=k n c';rw[Cz] at k;exact Fq.of k
noncomputable abbrev s_L_take:Stmt:=top 72
noncomputable abbrev Xg:List Str:=["_law_box_here", "_law_count", "_law_rest_of", "_law_digit"]
noncomputable abbrev p_L_take:List Str:=["_law_box_here", "_law_count"]
theorem sc_L_take:FnScope Xg p_L_take (defScope s_L_take):=⟨rfl,rfl,rfl,by decide +kernel,rfl,by decide +kernel,by decide +kernel⟩
noncomputable def spTake:DSp:=fun ds G Q _=>∃a c,ds=[.ref a,.int c]∧Dg (G a)∧(0<c∧c<1073741824)∧∀r b' c',0≤r→r<c→Q (.int r) (Ab G a (.lst [.int b',.int c']))
theorem Y2{f:Addr}{fd:FuncData}(F:Fun K "_law_take" "_law_take" s_L_take f fd)(T:Blt mg)(Aig:Def P w K mg base CX0 1 "_law_more" C1 Kj):FnOk P w K mg base CX0 2 f fd p_L_take (liftSp K spTake):=by
 refine okD F sc_L_take (fun ds G Q E h=>?_) (fun cdv A outer s H XE ds G Q E hr h=>?_)
 ·obtain⟨a,c,rfl,_⟩:=h;rfl
 ·obtain⟨a,c,rfl,⟨b,d,hG⟩,⟨c0,c1⟩,q⟩:=h;refine⟨_,#["d",#["A",(@qt_chain _ _ _ _ _ _ _ _ _ _ _ _ (@o_le _) (@o_lt _) (@q_int _ _ _ _) #["k",#["a",0]] #["a",1] (by with_unfolding_all rfl)),#["f",#["s",#["B",#["k",#["a",0]],#["8",#["a",1],#["e",Aig,hr,#["b",#["a",0]]]]],#["9",#["a",0]]]]],#["d",#["s",#["aG",T,#["c",#["k",#["a",0]],#["b",#["a",1]]]],#["x",2,#["l",#["g",2,sc_L_take.nd],#["y",#["g",3,sc_L_take.nd]]]]],#["d",#["s",#["a",2],#["9",#["a",0]]],#["f",#["h",#["a",3]]]]]],?_⟩
  have h2 : -18446744073709551616<c∧c<18446744073709551616:=by omega
  obtain⟨G,rfl⟩:=Uy hG;simp![Kj,c0,c1,Cc Aa,h2];have fin:∀(n d':Int),Fq Q (.int (n % c)) (Ab G a (.lst [.int (n / c),.int d'])):=fun n d'=>by
   have:=q (n % c) (n / c) d' (Int.emod_nonneg _ (by omega)) (Int.emod_lt_of_pos _ c0)
   rw[Cz] at this;exact Fq.of this
  by_cases h0:0≤b
  ·refine it0 h0 ?_
   by_cases h1:b<c
   ·refine it0 h1 ?_;intro n d';exact fin _ _
   ·refine it1 h1 ?_;exact fin _ _
  ·refine it1 h0 ?_;exact fin _ _
noncomputable def hid(G:Gp)(a:Addr):Gp:=fun b=>if b=a then none else G b
theorem Zo{G:Gp}{a:Addr}:Sub (hid G a) G:=fun b o h=>by
 unfold hid at h
 split at h
 ·cases h
 ·exact h
theorem Zp{G:Gp}{a:Addr}{o:GO}:hid (Ab G a o) a=hid G a:=by
 funext b;unfold hid Ab
 by_cases e:b=a<;>simp[e]
theorem Q8{G:Gp}{a p:Addr}{o:GO}(h:a≠p):hid (Ab G p o) a=Ab (hid G a) p o:=by
 funext b;unfold hid Ab
 by_cases e:b=a
 ·subst e;simp[h]
 ·simp[e]
theorem Hq{G:Gp}{a p:Addr}(h:G p=none):hid G a p=none:=by
 unfold hid;split<;>first|rfl|exact h
structure Step(a:Addr)(G G':Gp):Prop where
 box:Dg (G' a)
 sub:Sub (hid G a) (hid G' a)
theorem Step.trans{a:Addr}{G G1 G2:Gp}(x:Step a G G1)(y:Step a G1 G2):Step a G G2:=⟨y.box,x.sub.trans y.sub⟩
theorem Step.refl{a:Addr}{G:Gp}(h:Dg (G a)):Step a G G:=⟨h,Sub.refl _⟩
theorem Step.take{a:Addr}{G G1:Gp}(x:Step a G G1)(b c:Int):Step a G (Ab G1 a (.lst [.int b,.int c])):=⟨⟨b,c,Aa⟩,by rw[Zp];exact x.sub⟩
theorem Step.ne{a p:Addr}{G:Gp}(x:Dg (G a))(h:G p=none):a≠p:=fun e=>by subst e;obtain⟨b,c,hb⟩:=x;rw[h] at hb;cases hb
theorem Step.lay{a p:Addr}{G G1:Gp}{o:GO}(x:Step a G G1)(h:G1 p=none):Step a G (Ab G1 p o):=by
 have n:=Step.ne x.box h;obtain⟨b,c,hb⟩:=x.box;exact⟨⟨b,c,by rw[Ac n];exact hb⟩,by rw[Q8 n];exact x.sub.skip (Hq h)⟩
theorem Step.get{a p:Addr}{G G1:Gp}{o:GO}(x:Step a G G1)(n:a≠p)(h:G p=some o):G1 p=some o:=by
 have e:hid G a p=some o:=by unfold hid;rw[if_neg (Ne.symm n)];exact h
 exact Zo _ _ (x.sub p o e)
theorem Step.back{a b:Addr}{G G1:Gp}(x:Step a G G1)(h:G1 b=none):G b=none:=by
 have n:=Step.ne x.box h;have e:=x.sub.none (Hq (a:=a) h);unfold hid at e
 rwa [if_neg (Ne.symm n)] at e
theorem Step.write{a p:Addr}{G G1:Gp}{o:GO}(x:Step a G G1)(h:G p=none)(n:a≠p):Step a G (Ab G1 p o):=by
 obtain⟨b,c,hb⟩:=x.box;refine⟨⟨b,c,by rw[Ac n];exact hb⟩,?_⟩
 rw[Q8 n];intro d u e
 by_cases ed:d=p
 ·subst ed
  have:=Hq (a:=a) h
  rw[this] at e;cases e
 ·rw[Ac ed];exact x.sub d u e
theorem Au{G:Gp}{a p:Addr}{o u:GO}(g:G a=some o)(h:G p=none):Ab G p u a=some o:=by rw[Ac (gne g h)];exact g
theorem Ay{G:Gp}{a:Addr}{c:Int}{Q:DK}{E:DX}(hb:Dg (G a))(c0:0<c)(c1:c<1073741824)(h:∀r G',0≤r→r<c→Step a G G'→Q (.int r) G'):spTake [.ref a,.int c] G Q E:=
 ⟨a,c,rfl,hb,⟨c0,c1⟩,fun r b' c' h0 h1=>h r _ h0 h1 ((Step.refl hb).take b' c')⟩
noncomputable def Co(lo hi:Int):D→Bool
 |.int i=>decide (lo≤i)&&decide (i≤hi)
 |_=>false
structure Nums(mg:Str→Option Value):Prop extends Blt mg where
 LEAST_COLUMNS:∃t,mg "LEAST_COLUMNS" = some (.int 2 t)
 MOST_COLUMNS:∃t,mg "MOST_COLUMNS" = some (.int 16 t)
 LEAST_ROWS:∃t,mg "LEAST_ROWS" = some (.int 1 t)
 MOST_ROWS:∃t,mg "MOST_ROWS" = some (.int 9 t)
 LAND:∃t,mg "LAND" = some (.int 0 t)
 MOST_DEPTH:∃t,mg "MOST_DEPTH" = some (.int 9 t)
 LAST_DAY:∃t,mg "LAST_DAY" = some (.int 400 t)
noncomputable abbrev s_is_whole_within:Stmt:=top 9
noncomputable abbrev Fa:List Str:=["thing", "low", "high"]
noncomputable abbrev Ae:List Str:=["thing", "low", "high"]
theorem Eg:FnScope Fa Ae (defScope s_is_whole_within):=⟨rfl,rfl,rfl,by decide +kernel,rfl,by decide +kernel,by decide +kernel⟩
noncomputable def Bb:DSp:=fun ds G Q _=>∃d lo hi,ds=[d,.int lo,.int hi]∧Kn G d∧Q (.bl (Co lo hi d)) G
theorem Wa{f:Addr}{fd:FuncData}(F:Fun K "is_whole_within" "is_whole_within" s_is_whole_within f fd)(T:Nums mg):FnOk P w K mg base CX0 1 f fd Ae (liftSp K Bb):=by
 refine okD F Eg (fun ds G Q E h=>?_) (fun cdv A outer s H XE ds G Q E hr h=>?_)
 ·obtain⟨d,lo,hi,rfl,_⟩:=h;rfl
 ·obtain⟨d,lo,hi,rfl,⟨t,ht⟩,k⟩:=h;refine⟨_,#["f",#["h",#["z",#["K",T,#["c",#["a",0],#["b",#["L","int",T]]]],#["z",(@q_not _ _ _ _ #["K",T,#["c",#["a",0],#["b",#["L","bool",T]]]]),#["O",(@q_chain _ _ _ _ _ _ _ _ _ _ _ _ (@o_le _) (@o_le _) #["a",1] #["a",0] #["a",2] (by with_unfolding_all rfl))]]]]],?_⟩
  simp![ht];have other:(pyIs t "int" = false∨pyIs t "bool" = true)→Q (.bl false) G→if pyIs t "int" = true then if (!pyIs t "bool")=true then ∃j,d=D.int j∧if lo≤j then ∃i,d=D.int i∧Fq Q (D.bl (decide (i≤hi))) G else Fq Q (D.bl false) G else Fq Q (D.bl false) G else Fq Q (D.bl false) G:=fun h q=>by
   rcases h with h|h
   ·rw[h,if_neg Bool.false_ne_true];exact Fq.of q
   ·rw[h];split
    ·rw[if_neg (by decide)];exact Fq.of q
    ·exact Fq.of q
  cases d with
  |int i=>
   cases ht;rw[if_pos (by decide),if_pos (by decide)]
   refine⟨i,rfl,?_⟩
   by_cases h:lo≤i
   ·rw[if_pos h];refine⟨i,rfl,Fq.of ?_⟩;simpa[Co,h] using k
   ·rw[if_neg h];refine Fq.of ?_;simpa[Co,h] using k
  |bl b=>cases ht;exact other (.inr (by decide)) k
  |non=>cases ht;exact other (.inl (by decide)) k
  |str x=>cases ht;exact other (.inl (by decide)) k
  |tup ds=>cases ht;exact other (.inl (by decide)) k
  |ty n=>cases ht
  |lint ns=>cases ht
  |ref a=>
   refine other (.inl ?_) k;simp only[Cf] at ht
   split at ht<;>first|(cases ht;decide)|cases ht
noncomputable def A6(c:List Int):D:=.tup (c.map D.int)
noncomputable def seaD(s:List (List Int)):D:=.tup (s.map A6)
structure SeaOk(s:List (List Int))(h:Nat):Prop where
 wide:2≤s.length∧s.length≤16
 high:1≤h∧h≤9
 col:∀c∈s,c.length=h∧∀x∈c,0≤x∧x≤9
 few:s.length*h≤63
noncomputable def spIn(lo hi:Int):DSp:=fun ds G Q _=>∃i,ds=[.int i]∧lo≤i∧i≤hi∧Q (.bl true) G
noncomputable def spChk(lo hi:Int):DSp:=fun ds G Q _=>∃i,ds=[.int i]∧lo≤i∧i≤hi∧Q .non G
noncomputable abbrev s_is_depth:Stmt:=top 18
noncomputable abbrev P1:List Str:=["thing"]
noncomputable abbrev p_is_depth:List Str:=["thing"]
theorem Nj:FnScope P1 p_is_depth (defScope s_is_depth):=⟨rfl,rfl,rfl,by decide +kernel,rfl,by decide +kernel,by decide +kernel⟩
theorem Wh{f:Addr}{fd:FuncData}(F:Fun K "is_depth" "is_depth" s_is_depth f fd)(T:Nums mg)(Ahz:Def P w K mg base CX0 1 "is_whole_within" Ae Bb):FnOk P w K mg base CX0 2 f fd p_is_depth (liftSp K (spIn 0 9)):=by
 refine okD F Nj (fun ds G Q E h=>?_) (fun cdv A outer s H XE ds G Q E hr h=>?_)
 ·obtain⟨i,rfl,_⟩:=h;rfl
 ·obtain⟨i,rfl,h1,h2,k⟩:=h;refine⟨_,#["f",#["h",#["e",Ahz,hr,#["c",#["a",0],#["c",#["E",T.LAND],#["b",#["E",T.MOST_DEPTH]]]]]]],?_⟩;have kn:Kn G (.int i):=⟨_,rfl⟩;simp![Bb,Co,kn,h1,h2];exact Fq.of k
noncomputable abbrev s_is_day:Stmt:=top 19
noncomputable abbrev Xe:List Str:=["thing"]
noncomputable abbrev p_is_day:List Str:=["thing"]
theorem Ry:FnScope Xe p_is_day (defScope s_is_day):=⟨rfl,rfl,rfl,by decide +kernel,rfl,by decide +kernel,by decide +kernel⟩
theorem Ady{f:Addr}{fd:FuncData}(F:Fun K "is_day" "is_day" s_is_day f fd)(T:Nums mg)(Ahz:Def P w K mg base CX0 1 "is_whole_within" Ae Bb):FnOk P w K mg base CX0 2 f fd p_is_day (liftSp K (spIn 0 400)):=by
 refine okD F Ry (fun ds G Q E h=>?_) (fun cdv A outer s H XE ds G Q E hr h=>?_)
 ·obtain⟨i,rfl,_⟩:=h;rfl
 ·obtain⟨i,rfl,h1,h2,k⟩:=h;refine⟨_,#["f",#["h",#["e",Ahz,hr,#["c",#["a",0],#["o",#["b",#["E",T.LAST_DAY]]]]]]],?_⟩;have kn:Kn G (.int i):=⟨_,rfl⟩;simp![Bb,Co,kn,h1,h2];exact Fq.of k
theorem E5{α:Type}{xs:List α}:xs.filter (fun _=>true)=xs:=List.filter_eq_self.mpr fun _ _=>rfl
theorem Ht{α:Type}(c:List α):(c.map fun _=>true).all id=true:=by simp
noncomputable abbrev s_is_column:Stmt:=top 20
noncomputable abbrev N5:List Str:=["thing"]
noncomputable abbrev Bv:List Str:=["thing"]
theorem Ll:FnScope N5 Bv (defScope s_is_column):=⟨rfl,rfl,rfl,by decide +kernel,rfl,by decide +kernel,by decide +kernel⟩
theorem nd_is_column_1:((["depth"]:List Str)++(["thing"]:List Str)).Nodup:=by decide +kernel
noncomputable def Ev:DSp:=fun ds G Q _=>∃c,ds=[A6 c]∧1≤c.length∧c.length≤9∧(∀x∈c,0≤x∧x≤9)∧Q (.bl true) G
theorem Sl{f:Addr}{fd:FuncData}(F:Fun K "is_column" "is_column" s_is_column f fd)(T:Nums mg)(Ah6:Def P w K mg base CX0 2 "is_depth" p_is_depth (spIn 0 9)):FnOk P w K mg base CX0 3 f fd Bv (liftSp K Ev):=by
 refine okD F Ll (fun ds G Q E h=>?_) (fun cdv A outer s H XE ds G Q E hr h=>?_)
 ·obtain⟨c,rfl,_⟩:=h;rfl
 ·obtain⟨c,rfl,h1,h9,hx,k⟩:=h;refine⟨_,#["d",#["q",#["C",#["I",#["n",#["m",#["K",T,#["c",#["a",0],#["b",#["L","tuple",T]]]]]],#["J",#["n",(@qt_chain _ _ _ _ _ _ _ _ _ _ _ _ (@o_le _) (@o_le _) #["E",T.LEAST_ROWS] #["p",T,#["b",#["a",0]]] #["E",T.MOST_ROWS] (by with_unfolding_all rfl))]]]]],#["f",#["h",#["aa",T,#["b",#["0",["depth"],["thing"],#["a",0],#["R",0,nd_is_column_1],#["e",Ah6,hr,#["b",#["a",0]]]]]]]]],?_⟩
  unfold A6;simp![];refine⟨true,rfl,it1 (by decide) (it0 (by simp;omega) (it1 (by simp;omega) fun p hp=>?_))⟩
  have hz:(c.map D.int).length<sizeLine:=by rw[List.length_map,sizeLine_eq];omega
  refine B2 (fun x=>.bl true) (fun _=>true) hz (fun _=>by first|rfl|trivial) (by decide) (fun x ys hx' hl R1 R2 g1 _=>?_) ?_
  ·obtain⟨i,hi,rfl⟩:=List.mem_map.mp hx';simp![spIn,hl];exact⟨(hx i hi).1,(hx i hi).2,Fg.of (g1 rfl)⟩
  ·refine⟨p,rfl,c.map (fun _=>true),by rw[Aa,E5,List.map_map,List.map_map];rfl,?_⟩
   refine⟨G,Sub.new hp,?_⟩;rw[Ht];exact k
noncomputable abbrev s_is_sea:Stmt:=top 21
noncomputable abbrev Xd:List Str:=["thing"]
noncomputable abbrev C0:List Str:=["thing"]
theorem Rx:FnScope Xd C0 (defScope s_is_sea):=⟨rfl,rfl,rfl,by decide +kernel,rfl,by decide +kernel,by decide +kernel⟩
theorem nd_is_sea_1:((["column"]:List Str)++(["thing"]:List Str)).Nodup:=by decide +kernel
theorem nd_is_sea_2:((["column"]:List Str)++(["thing"]:List Str)).Nodup:=by decide +kernel
noncomputable def P7:DSp:=fun ds G Q _=>∃s h,ds=[seaD s]∧SeaOk s h∧Q (.bl true) G
theorem Adv{f:Addr}{fd:FuncData}(F:Fun K "is_sea" "is_sea" s_is_sea f fd)(T:Nums mg)(Aih:Def P w K mg base CX0 3 "is_column" Bv Ev):FnOk P w K mg base CX0 4 f fd C0 (liftSp K P7):=by
 refine okD F Rx (fun ds G Q E h=>?_) (fun cdv A outer s H XE ds G Q E hr h=>?_)
 ·obtain⟨c,_,rfl,_⟩:=h;rfl
 ·obtain⟨c,h,rfl,ok,k⟩:=h;refine⟨_,#["d",#["q",#["C",#["I",#["n",#["m",#["K",T,#["c",#["F",0],#["b",#["L","tuple",T]]]]]],#["J",#["n",(@qt_chain _ _ _ _ _ _ _ _ _ _ _ _ (@o_le _) (@o_le _) #["E",T.LEAST_COLUMNS] #["p",T,#["b",#["F",0]]] #["E",T.MOST_COLUMNS] (by with_unfolding_all rfl))]]]]],#["d",#["q",#["n",#["m",#["aa",T,#["b",#["0",["column"],["thing"],#["F",0],#["R",0,nd_is_sea_1],#["e",Aih,hr,#["b",#["a",0]]]]]]]]],#["f",#["h",#["aa",T,#["b",#["0",["column"],["thing"],#["F",0],#["R",0,nd_is_sea_2],#["ab",(@o_eq _),#["p",T,#["b",#["a",0]]],#["p",T,#["b",#["k",#["F",1]]]]]]]]]]]],?_⟩
  unfold seaD;simp![];have hw:=ok.wide;refine⟨true,rfl,it1 (by decide) (it0 (by simp;omega) (it1 (by simp;omega) fun p hp=>?_))⟩
  have hz:(c.map A6).length<sizeLine:=by rw[List.length_map,sizeLine_eq];omega
  refine B2 (fun x=>.bl true) (fun _=>true) hz (fun _=>by first|rfl|trivial) (by decide) (fun x ys hx' hl R1 R2 g1 _=>?_) ?_
  ·obtain⟨i,hi,rfl⟩:=List.mem_map.mp hx';obtain⟨e,hx⟩:=ok.col i hi;have h1:=ok.high;simp![Ev,hl];exact⟨i,rfl,by omega,by omega,hx,Fg.of (g1 rfl)⟩
  ·refine⟨p,rfl,c.map (fun _=>true),by rw[Aa,E5,List.map_map,List.map_map];rfl,true,by rw[Ht];rfl,it1 (by decide) fun p2 hp2=>?_⟩
   have at0:atI (c.map A6) 0=some (A6 (c.headD [])):=by
    cases c with
    |nil=>simp at hw
    |cons x r=>rw[List.map_cons,T2];rfl
   have hc0:(c.headD []).length=h:=(ok.col _ (by cases c with|nil=>simp at hw|cons x r=>simp)).1
   refine B2 (fun x=>.bl true) (fun _=>true) hz (fun _=>by first|rfl|trivial) (by decide) (fun x ys hx' hl R1 R2 g1 _=>?_) ?_
   ·obtain⟨i,hi,rfl⟩:=List.mem_map.mp hx';obtain⟨e,hx⟩:=ok.col i hi;simp![hl];refine⟨h,by simp[A6,Gc,e],A6 (c.headD []),at0,h,by rw[←hc0];simp only[A6,Gc,List.length_map],?_⟩
    rw[decide_eq_true rfl];exact Fg.of (g1 rfl)
   ·refine⟨p2,rfl,c.map (fun _=>true),by rw[Aa,E5,List.map_map,List.map_map];rfl,?_⟩
    refine⟨G,(Sub.new hp).trans (Sub.new hp2),?_⟩;rw[Ht];exact k
noncomputable abbrev s_check_sea:Stmt:=top 23
noncomputable abbrev N8:List Str:=["thing"]
noncomputable abbrev p_check_sea:List Str:=["thing"]
theorem Lo:FnScope N8 p_check_sea (defScope s_check_sea):=⟨rfl,rfl,rfl,by decide +kernel,rfl,by decide +kernel,by decide +kernel⟩
noncomputable def spCheckSea:DSp:=fun ds G Q _=>∃s h,ds=[seaD s]∧SeaOk s h∧Q .non G
theorem Nm{f:Addr}{fd:FuncData}(F:Fun K "check_sea" "check_sea" s_check_sea f fd)(T:Nums mg)(Aii:Def P w K mg base CX0 4 "is_sea" C0 P7):FnOk P w K mg base CX0 5 f fd p_check_sea (liftSp K spCheckSea):=by
 refine okD F Lo (fun ds G Q E h=>?_) (fun cdv A outer s H XE ds G Q E hr h=>?_)
 ·obtain⟨c,_,rfl,_⟩:=h;rfl
 ·obtain⟨c,h,rfl,ok,k⟩:=h;refine⟨_,#["f",#["ac",#["n",#["m",#["e",Aii,hr,#["b",#["a",0]]]]]]],?_⟩;simp![P7];refine⟨c,rfl,h,ok,?_⟩
  first|exact Fq.of k|exact⟨true,rfl,it1 (by decide) (Fq.of k)⟩
noncomputable abbrev s_check_day:Stmt:=top 25
noncomputable abbrev N9:List Str:=["thing"]
noncomputable abbrev p_check_day:List Str:=["thing"]
theorem Lp:FnScope N9 p_check_day (defScope s_check_day):=⟨rfl,rfl,rfl,by decide +kernel,rfl,by decide +kernel,by decide +kernel⟩
theorem Nn{f:Addr}{fd:FuncData}(F:Fun K "check_day" "check_day" s_check_day f fd)(T:Nums mg)(Ah7:Def P w K mg base CX0 2 "is_day" p_is_day (spIn 0 400)):FnOk P w K mg base CX0 3 f fd p_check_day (liftSp K (spChk 0 400)):=by
 refine okD F Lp (fun ds G Q E h=>?_) (fun cdv A outer s H XE ds G Q E hr h=>?_)
 ·obtain⟨c,rfl,_⟩:=h;rfl
 ·obtain⟨c,rfl,h1,h2,k⟩:=h;refine⟨_,#["f",#["ac",#["n",#["m",#["e",Ah7,hr,#["b",#["a",0]]]]]]],?_⟩;simp![spIn];exact⟨h1,h2,true,rfl,it1 (by decide) (Fq.of k)⟩
noncomputable def Dm(s:List (List Int))(c r:Nat):Int:=(s.getD c []).getD r 0
noncomputable abbrev s_depth_at:Stmt:=top 26
noncomputable abbrev P2:List Str:=["sea", "cell", "column", "row"]
noncomputable abbrev B1:List Str:=["sea", "cell"]
theorem sc_depth_at:FnScope P2 B1 (defScope s_depth_at):=⟨rfl,rfl,rfl,by decide +kernel,rfl,by decide +kernel,by decide +kernel⟩
noncomputable def Dz:DSp:=fun ds G Q _=>∃s c r,ds=[seaD s,.tup [.int (c:Nat),.int (r:Nat)]]∧c<s.length∧r<(s.getD c []).length∧Q (.int (Dm s c r)) G
theorem Pc{f:Addr}{fd:FuncData}(F:Fun K "depth_at" "depth_at" s_depth_at f fd)(T:Nums mg):FnOk P w K mg base CX0 1 f fd B1 (liftSp K Dz):=by
 refine okD F sc_depth_at (fun ds G Q E h=>?_) (fun cdv A outer s H XE ds G Q E hr h=>?_)
 ·obtain⟨_,_,_,rfl,_⟩:=h;rfl
 ·obtain⟨s,c,r,rfl,hc,hr',k⟩:=h;refine⟨_,#["d",#["s",#["a",1],#["x",2,#["l",#["g",2,sc_depth_at.nd],#["y",#["g",3,sc_depth_at.nd]]]]],#["f",#["h",#["v",#["v",#["a",0],#["a",2]],#["a",3]]]]],?_⟩;unfold seaD;simp![];refine⟨A6 (s.getD c []),B5 (by simp[hc]),.int (Dm s c r),?_,Fq.of k⟩
  show atI ((s.getD c []).map D.int) (r:Int)=_;unfold Dm;generalize s.getD c []=col at *;refine B5 ?_;rw[List.getElem?_map,List.getElem?_eq_getElem hr',List.getD_eq_getElem?_getD,List.getElem?_eq_getElem hr'];rfl
noncomputable abbrev Cl:=Int×Int
noncomputable def InS(s:List (List Int))(h:Nat)(c:Cl):Prop:=0≤c.1∧c.1<s.length∧0≤c.2∧c.2<h
instance (s:List (List Int)) (h:Nat) (c:Cl):Decidable (InS s h c):=inferInstanceAs (Decidable (_∧_))
theorem InS.nat{s:List (List Int)}{h:Nat}{c:Cl}(i:InS s h c):∃x y:Nat,c=((x:Int),(y:Int))∧x<s.length∧y<h:=by
 obtain⟨a,b,c',d⟩:=i;refine⟨c.1.toNat,c.2.toNat,Prod.ext ?_ ?_,?_,?_⟩<;>omega
theorem SeaOk.colD{s:List (List Int)}{h:Nat}(ok:SeaOk s h){x:Nat}(hx:x<s.length):(s.getD x []).length=h∧∀y∈s.getD x [],0≤y∧y≤9:=by
 have e:s.getD x []=s[x]:=by rw[List.getD_eq_getElem?_getD,List.getElem?_eq_getElem hx];rfl
 rw[e];exact ok.col _ (List.getElem_mem hx)
theorem SeaOk.head{s:List (List Int)}{h:Nat}(ok:SeaOk s h):atI (s.map A6) 0=some (A6 (s.getD 0 []))∧(s.getD 0 []).length=h:=by
 have hw:=ok.wide;refine⟨?_,(ok.colD (by omega)).1⟩
 cases s with
 |nil=>simp at hw
 |cons x r=>rw[List.map_cons,T2];rfl
noncomputable abbrev s_is_cell:Stmt:=top 22
noncomputable abbrev Tu:List Str:=["sea", "thing", "column", "row"]
noncomputable abbrev p_is_cell:List Str:=["sea", "thing"]
theorem sc_is_cell:FnScope Tu p_is_cell (defScope s_is_cell):=⟨rfl,rfl,rfl,by decide +kernel,rfl,by decide +kernel,by decide +kernel⟩
noncomputable def spCell:DSp:=fun ds G Q _=>∃s h c,ds=[seaD s,cellD c]∧SeaOk s h∧Q (.bl (decide (InS s h c))) G
theorem Zf{f:Addr}{fd:FuncData}(F:Fun K "is_cell" "is_cell" s_is_cell f fd)(T:Nums mg)(Ahz:Def P w K mg base CX0 1 "is_whole_within" Ae Bb):FnOk P w K mg base CX0 2 f fd p_is_cell (liftSp K spCell):=by
 refine okD F sc_is_cell (fun ds G Q E h=>?_) (fun cdv A outer s H XE ds G Q E hr h=>?_)
 ·obtain⟨_,_,_,rfl,_⟩:=h;rfl
 ·obtain⟨s,h,c,rfl,ok,k⟩:=h;refine⟨_,#["d",#["q",#["C",#["I",#["n",#["m",#["K",T,#["c",#["a",1],#["b",#["L","tuple",T]]]]]],#["J",#["ad",#["p",T,#["b",#["a",1]]]]]]]],#["d",#["s",#["a",1],#["x",2,#["l",#["g",2,sc_is_cell.nd],#["y",#["g",3,sc_is_cell.nd]]]]],#["f",#["h",#["z",#["e",Ahz,hr,#["c",#["a",2],#["o",#["b",#["S",#["p",T,#["b",#["a",0]]]]]]]],#["O",#["e",Ahz,hr,#["c",#["a",3],#["o",#["b",#["S",#["p",T,#["b",#["k",#["a",0]]]]]]]]]]]]]]],?_⟩;obtain⟨a0,hl⟩:=ok.head;have kn:∀i,Kn G (.int i):=fun i=>⟨_,rfl⟩;unfold seaD cellD;simp![Bb,a0,A6,List.length_map,kn];refine⟨true,rfl,it1 (by decide) (it1 (by decide) ?_)⟩
  by_cases h1:Co 0 (s.length-1) (.int c.1)=true
  ·refine it0 h1 ?_;have e:decide (InS s h c)=Co 0 (((s.getD 0 []).length:Nat)-1) (.int c.2):=by
    rw[hl];simp only[Co,Bool.and_eq_true,decide_eq_true_eq] at h1 ⊢;rw[Bool.eq_iff_iff,decide_eq_true_iff];simp only[decide_eq_true_eq,Bool.and_eq_true,InS];omega
   rw[e] at k;exact Fq.of k
  ·refine it1 h1 ?_;have e:decide (InS s h c)=false:=by
    simp only[Co,Bool.and_eq_true,decide_eq_true_eq] at h1;rw[decide_eq_false_iff_not];unfold InS;omega
   rw[e] at k;exact Fq.of k
noncomputable abbrev s_check_cell:Stmt:=top 24
noncomputable abbrev Ma:List Str:=["sea", "thing"]
noncomputable abbrev Bo:List Str:=["sea", "thing"]
theorem Iu:FnScope Ma Bo (defScope s_check_cell):=⟨rfl,rfl,rfl,by decide +kernel,rfl,by decide +kernel,by decide +kernel⟩
noncomputable def Cr:DSp:=fun ds G Q _=>∃s h c,ds=[seaD s,cellD c]∧SeaOk s h∧InS s h c∧Q .non G
theorem Ls{f:Addr}{fd:FuncData}(F:Fun K "check_cell" "check_cell" s_check_cell f fd)(T:Nums mg)(Ah1:Def P w K mg base CX0 2 "is_cell" p_is_cell spCell):FnOk P w K mg base CX0 3 f fd Bo (liftSp K Cr):=by
 refine okD F Iu (fun ds G Q E h=>?_) (fun cdv A outer s H XE ds G Q E hr h=>?_)
 ·obtain⟨_,_,_,rfl,_⟩:=h;rfl
 ·obtain⟨s,h,c,rfl,ok,hc,k⟩:=h;refine⟨_,#["f",#["ac",#["n",#["m",#["e",Ah1,hr,#["c",#["a",0],#["b",#["a",1]]]]]]]],?_⟩;simp![spCell];refine⟨s,rfl,h,c,rfl,ok,?_⟩;rw[decide_eq_true hc];exact⟨true,rfl,it1 (by decide) (Fq.of k)⟩
noncomputable def Ej(s:List (List Int))(c:Cl):Int:=Dm s c.1.toNat c.2.toNat
theorem C3{G:Gp}{s:List (List Int)}{i:Int}:Bh G (seaD s) i=atI (s.map A6) i:=rfl
theorem Q3{G:Gp}{s:List (List Int)}:Gc G (seaD s)=some s.length:=congrArg some (List.length_map ..)
theorem Q4{G:Gp}{c:List Int}:Gc G (A6 c)=some c.length:=congrArg some (List.length_map ..)
theorem My{G:Gp}{c:List Int}{i:Int}:Bh G (A6 c) i=atI (c.map D.int) i:=rfl
theorem Dd{G:Gp}{o:Cl}:Bh G (cellD o) 0=some (.int o.1):=rfl
theorem Dc{G:Gp}{o:Cl}:Bh G (cellD o) 1=some (.int o.2):=rfl
theorem Ol{s:List (List Int)}{h:Nat}(ok:SeaOk s h){o:Cl}(ho:InS s h o):atI (s.map A6) o.1=some (A6 (s.getD o.1.toNat []))∧atI ((s.getD o.1.toNat []).map D.int) o.2=some (.int (Ej s o))∧0≤Ej s o∧Ej s o≤9:=by
 obtain⟨x,y,rfl,hx,hy⟩:=ho.nat;have hc:=ok.colD hx;have hy':y<(s.getD x []).length:=by rw[hc.1];exact hy
 have e:(s.getD x [])[y]? = some (Dm s x y):=by unfold Dm;rw[List.getD_eq_getElem?_getD (l:=s.getD x []),List.getElem?_eq_getElem hy'];rfl
 refine⟨B5 (by simp[hx]),?_,hc.2 _ (List.mem_of_getElem? e)⟩
 show atI ((s.getD x []).map D.int) (y:Int)=some (.int (Dm s x y));exact B5 (by rw[List.getElem?_map,e];rfl)
noncomputable def wat(s:List (List Int))(h:Nat)(c:Cl):Bool:=decide (InS s h c)&&decide (Ej s c≠0)
theorem Eb{s:List (List Int)}{h:Nat}{c:Cl}(w:wat s h c=true):InS s h c:=by
 unfold wat at w;simp only[Bool.and_eq_true,decide_eq_true_eq] at w;exact w.1
noncomputable abbrev s_is_water:Stmt:=top 27
noncomputable abbrev Pz:List Str:=["sea", "cell"]
noncomputable abbrev p_is_water:List Str:=["sea", "cell"]
theorem Nh:FnScope Pz p_is_water (defScope s_is_water):=⟨rfl,rfl,rfl,by decide +kernel,rfl,by decide +kernel,by decide +kernel⟩
noncomputable def spWater:DSp:=fun ds G Q _=>∃s h c,ds=[seaD s,cellD c]∧SeaOk s h∧InS s h c∧Q (.bl (wat s h c)) G
theorem Wb{f:Addr}{fd:FuncData}(F:Fun K "is_water" "is_water" s_is_water f fd)(T:Nums mg)(Aij:Def P w K mg base CX0 1 "depth_at" B1 Dz):FnOk P w K mg base CX0 2 f fd p_is_water (liftSp K spWater):=by
 refine okD F Nh (fun ds G Q E h=>?_) (fun cdv A outer s H XE ds G Q E hr h=>?_)
 ·obtain⟨_,_,_,rfl,_⟩:=h;rfl
 ·obtain⟨s,h,c,rfl,ok,hc,k⟩:=h;refine⟨_,#["f",#["h",#["ab",(@o_ne _),#["e",Aij,hr,#["c",#["a",0],#["b",#["a",1]]]],#["E",T.LAND]]]],?_⟩;obtain⟨x,y,rfl,hx,hy⟩:=hc.nat;simp![cellD,Dz];refine⟨s,rfl,x,rfl,y,rfl,hx,by rw[(ok.colD hx).1];exact hy,?_⟩
  have e:wat s h ((x:Int),(y:Int)) = !decide (Dm s x y=0):=by
   unfold wat Ej;rw[decide_eq_true hc,Bool.true_and,decide_not];rfl
  rw[e] at k
  first|exact Fq.of k|exact⟨_,rfl,Fq.of k⟩
noncomputable def Rl:D→Cl
 |.tup [.int x,.int y]=>(x,y)
 |_=>(0,0)
theorem J6{c:Cl}:Rl (cellD c)=c:=rfl
theorem Jz{q:Cl→Bool}{l:List Cl}:((l.map cellD).filter fun d=>q (Rl d))=(l.filter q).map cellD:=by
 rw[List.filter_map];rfl
noncomputable def beside(c:Cl):List Cl:=[(c.1-1,c.2),(c.1,c.2-1),(c.1,c.2+1),(c.1+1,c.2)]
noncomputable def B8(s:List (List Int))(h:Nat)(c:Cl):List Cl:=(beside c).filter (wat s h)
noncomputable abbrev s_waters_beside:Stmt:=top 28
noncomputable abbrev Gk:List Str:=["sea", "cell", "column", "row", "beside"]
noncomputable abbrev A5:List Str:=["sea", "cell"]
theorem sc_waters_beside:FnScope Gk A5 (defScope s_waters_beside):=⟨rfl,rfl,rfl,by decide +kernel,rfl,by decide +kernel,by decide +kernel⟩
theorem nd_waters_beside_1:((["other"]:List Str)++(["sea", "cell", "column", "row", "beside"]:List Str)).Nodup:=by decide +kernel
noncomputable def Ew:DSp:=fun ds G Q _=>∃s h c,ds=[seaD s,cellD c]∧SeaOk s h∧∀p,G p=none→Q (.ref p) (Ab G p (.lst ((B8 s h c).map cellD)))
theorem Su{f:Addr}{fd:FuncData}(F:Fun K "waters_beside" "waters_beside" s_waters_beside f fd)(T:Nums mg)(Ah1:Def P w K mg base CX0 2 "is_cell" p_is_cell spCell)(Ah5:Def P w K mg base CX0 2 "is_water" p_is_water spWater):FnOk P w K mg base CX0 3 f fd A5 (liftSp K Ew):=by
 refine okD F sc_waters_beside (fun ds G Q E h=>?_) (fun cdv A outer s H XE ds G Q E hr h=>?_)
 ·obtain⟨_,_,_,rfl,_⟩:=h;rfl
 ·obtain⟨s,h,c,rfl,ok,k⟩:=h;refine⟨_,#["d",#["s",#["a",1],#["x",2,#["l",#["g",2,sc_waters_beside.nd],#["y",#["g",3,sc_waters_beside.nd]]]]],#["d",#["j",4,sc_waters_beside.nd,#["w",#["c",#["i",#["c",#["S",#["a",2]],#["b",#["a",3]]]],#["c",#["i",#["c",#["a",2],#["b",#["S",#["a",3]]]]],#["c",#["i",#["c",#["a",2],#["b",#["G",#["a",3]]]]],#["b",#["i",#["c",#["G",#["a",2]],#["b",#["a",3]]]]]]]]]],#["f",#["h",#["aH",["other"],["sea", "cell", "column", "row", "beside"],#["a",4],#["R",0,nd_waters_beside_1],(@qf_one _ _ _ #["C",#["ae",#["m",#["e",Ah1,hr,#["c",#["F",1],#["b",#["a",0]]]]],#["af",#["m",#["e",Ah5,hr,#["c",#["F",1],#["b",#["a",0]]]]]]]]),#["a",0]]]]]],?_⟩;unfold cellD;have sz4:4≤sizeLine:=szl (by decide)
  have sz2:=sz2;simp![sz2,sz4];intro p hp;have e:[D.tup [.int (c.1-1),.int c.2],.tup [.int c.1,.int (c.2-1)],.tup [.int c.1,.int (c.2+1)],.tup [.int (c.1+1),.int c.2]]=(beside c).map cellD:=rfl;rw[e,Af Aa];refine⟨_,rfl,fun p2 hp2=>?_⟩;have hz:((beside c).map cellD).length<sizeLine:=by rw[List.length_map,sizeLine_eq];exact(by decide:4<16777216)
  refine B2 id (fun d=>wat s h (Rl d)) hz (fun _=>Af (Au Aa hp2)) (by decide) (fun x ys hx' hl R1 R2 g1 g2=>?_) ?_
  ·obtain⟨o,ho,rfl⟩:=List.mem_map.mp hx';simp![spCell,spWater,hl];simp only[J6,id] at g1 g2;refine⟨s,rfl,h,o,rfl,ok,_,rfl,?_⟩
   by_cases hi:InS s h o
   ·refine it0 (decide_eq_true hi) ⟨s,rfl,h,o,rfl,ok,hi,_,rfl,?_⟩
    by_cases hw:wat s h o=true
    ·exact it0 hw (Fg.of (g1 hw))
    ·exact it1 hw (Fg.of (g2 (by simpa using hw)))
   ·refine it1 (by simpa using hi) (Fg.of (g2 ?_))
    cases e:wat s h o with
    |false=>rfl
    |true=>exact absurd (Eb e) hi
  ·rw[List.map_id,Jz];have hp3:=Ep hp2;refine⟨_,?_,k p2 hp3.2⟩;exact Sub.upd (Sub.new hp) _ _
end
noncomputable def Ball(s:List (List Int))(h:Nat)(c:Cl):Nat→Cl→Prop
 |0,x=>x=c
 |n+1,x=>Ball s h c n x∨∃y,Ball s h c n y∧x∈B8 s h y
theorem Gn{s:List (List Int)}{h:Nat}{x y:Cl}(hx:x∈B8 s h y):InS s h x:=Eb (List.mem_filter.mp hx).2
theorem Ball.inS{s:List (List Int)}{h:Nat}{c:Cl}(hc:InS s h c):∀{n:Nat} {x:Cl},Ball s h c n x→InS s h x
 |0,_,e=>by cases e;exact hc
 |_+1,_,.inl e=>Ball.inS hc e
 |_+1,_,.inr ⟨_,_,hx⟩=>Gn hx
theorem Ball.stop{s:List (List Int)}{h:Nat}{c:Cl}{n:Nat}{rs:List Cl}(he:∀x,x∈rs↔Ball s h c n x)(cl:∀y∈rs,∀x∈B8 s h y,x∈rs):∀(k:Nat) (x:Cl),x∈rs↔Ball s h c (n+k) x
 |0,x=>he x
 |k+1,x=>by
  have ih:=Ball.stop he cl k;show x∈rs↔Ball s h c (n+k) x∨∃y,Ball s h c (n+k) y∧x∈B8 s h y;refine⟨fun hx=>.inl ((ih x).mp hx),fun hx=>?_⟩;rcases hx with hx|⟨y,hy,hx⟩
  ·exact(ih x).mpr hx
  ·exact cl y ((ih y).mpr hy) x hx
noncomputable def Drift(s:List (List Int))(h:Nat)(c:Cl)(n:Nat)(x:Cl):Prop:=if wat s h c=true then Ball s h c n x else x=c
theorem Drift.inS{s:List (List Int)}{h:Nat}{c x:Cl}{n:Nat}(hc:InS s h c)(hx:Drift s h c n x):InS s h x:=by
 unfold Drift at hx
 split at hx
 ·exact Ball.inS hc hx
 ·subst hx;exact hc
theorem K7{a:Cl}:¬Aw a a:=by unfold Aw;omega
theorem Wo{a b:Cl}(h:Aw a b):¬Aw b a:=by unfold Aw at *;omega
theorem Fh:∀{a b:List Cl},a.Pairwise Aw→b.Pairwise Aw→(∀x,x∈a↔x∈b)→a=b
 |[],[],_,_,_=>rfl
 |[],y::q,_,_,h=>absurd ((h y).mpr (by simp)) (by simp)
 |x::r,[],_,_,h=>absurd ((h x).mp (by simp)) (by simp)
 |x::r,y::q,ha,hb,h=>by
  obtain⟨a1,a2⟩:=List.pairwise_cons.mp ha;obtain⟨b1,b2⟩:=List.pairwise_cons.mp hb;have exy:x=y:=by
   rcases List.mem_cons.mp ((h x).mp (by simp)) with e|e
   ·exact e
   ·rcases List.mem_cons.mp ((h y).mpr (by simp)) with e'|e'
    ·exact e'.symm
    ·exact absurd (b1 x e) (Wo (a1 y e'))
  subst exy
  have:r=q:=Fh a2 b2 fun z=>by
   have hz:=h z;rw[List.mem_cons,List.mem_cons] at hz;constructor
   ·intro hr;rcases hz.mp (.inr hr) with e|e
    ·subst e;exact absurd (a1 z hr) K7
    ·exact e
   ·intro hr;rcases hz.mpr (.inr hr) with e|e
    ·subst e;exact absurd (b1 z hr) K7
    ·exact e
  rw[this]
theorem K6:∀(n:Nat) (l:List Nat),l.Nodup→(∀x∈l,x<n)→l.length≤n
 |0,l,_,h=>by
  cases l with
  |nil=>exact Nat.le_refl _
  |cons x r=>exact absurd (h x (by simp)) (by omega)
 |n+1,l,nd,h=>by
  by_cases hn:n∈l
  ·have:=K6 n (l.erase n) (nd.erase n) fun x hx=>by
    have:=nd.mem_erase_iff.mp hx
    have:=h x this.2
    omega
   rw[List.length_erase_of_mem hn] at this;omega
  ·have:=K6 n l nd fun x hx=>by
    have:=h x hx
    have:x≠n:=fun e=>hn (e ▸ hx)
    omega
   omega
theorem Te{s:List (List Int)}{h:Nat}{l:List Cl}(nd:l.Nodup)(hl:∀x∈l,InS s h x):l.length≤s.length*h:=by
 have e:=K6 (s.length*h) (l.map fun x=>x.1.toNat*h+x.2.toNat) (Ou nd fun x hx y hy e=>?_) fun z hz=>?_
 ·rwa [List.length_map] at e
 ·obtain⟨a,b,c,d⟩:=hl x hx;obtain⟨a',b',c',d'⟩:=hl y hy;have e:=(show x.1.toNat*h+x.2.toNat=y.1.toNat*h+y.2.toNat from e);have hd:x.2.toNat<h:=by omega
  have hd':y.2.toNat<h:=by omega
  have e1:x.1.toNat=y.1.toNat:=by
   have h1:(x.1.toNat*h+x.2.toNat) / h=x.1.toNat:=by rw[Nat.mul_comm,Nat.mul_add_div (by omega),Nat.div_eq_of_lt hd];omega
   have h2:(y.1.toNat*h+y.2.toNat) / h=y.1.toNat:=by rw[Nat.mul_comm,Nat.mul_add_div (by omega),Nat.div_eq_of_lt hd'];omega
   rw[←h1,←h2,e]
  rw[e1] at e;exact Prod.ext (by omega) (by omega)
 ·obtain⟨x,hx,rfl⟩:=List.mem_map.mp hz;obtain⟨a,b,c,d⟩:=hl x hx;have h1:x.1.toNat+1≤s.length:=by omega
  have h2:(x.1.toNat+1)*h≤s.length*h:=Nat.mul_le_mul_right _ h1;have h3:(x.1.toNat+1)*h=x.1.toNat*h+h:=by rw[Nat.add_mul,Nat.one_mul]
  have h4:x.2.toNat<h:=by omega
  show x.1.toNat*h+x.2.toNat<_;omega
theorem C6{s:List (List Int)}{h:Nat}(ok:SeaOk s h){l:List Cl}(nd:l.Nodup)(hl:∀x∈l,InS s h x):l.length≤63:=by
 have h1:=Te nd hl;have h2:=ok.few;omega
theorem Ju{l:List Cl}(h:l.Pairwise Aw):l.Nodup:=h.imp fun {a b} h e=>by subst e;exact K7 h
noncomputable def B0(a:List Cl×List Cl)(o:Cl):List Cl×List Cl:=if o∈a.1 then a else (a.1++[o],a.2++[o])
noncomputable def Ke(s:List (List Int))(h:Nat)(a:List Cl×List Cl)(c:Cl):List Cl×List Cl:=(B8 s h c).foldl B0 a
noncomputable def Dx(s:List (List Int))(h:Nat)(edge rs:List Cl):List Cl×List Cl:=edge.foldl (Ke s h) (rs,[])
structure Stepped(r0:List Cl)(L:Cl→Prop)(a:List Cl×List Cl):Prop where
 eq:a.1=r0++a.2
 nd:a.1.Nodup
 mem:∀x,x∈a.1↔x∈r0∨L x
theorem Stepped.congr{r0:List Cl}{L L':Cl→Prop}{a:List Cl×List Cl}(S:Stepped r0 L a)(h:∀x,L x↔L' x):Stepped r0 L' a:=⟨S.eq,S.nd,fun x=>by rw[S.mem,h]⟩
theorem Stepped.step{r0:List Cl}{L:Cl→Prop}{a:List Cl×List Cl}(S:Stepped r0 L a)(o:Cl):Stepped r0 (fun x=>L x∨x=o) (B0 a o):=by
 unfold B0
 by_cases ho:o∈a.1
 ·rw[if_pos ho];refine⟨S.eq,S.nd,fun x=>?_⟩;rw[S.mem];constructor
  ·rintro(h|h)
   ·exact .inl h
   ·exact .inr (.inl h)
  ·rintro(h|h|h)
   ·exact .inl h
   ·exact .inr h
   ·subst h;exact(S.mem x).mp ho
 ·rw[if_neg ho];refine⟨by rw[S.eq,List.append_assoc],?_,fun x=>?_⟩
  ·rw[List.nodup_append];refine⟨S.nd,by simp,fun x hx y hy e=>?_⟩
   rw[List.mem_singleton] at hy;subst hy;subst e;exact ho hx
  ·rw[List.mem_append,List.mem_singleton,S.mem,or_assoc]
theorem Stepped.fold{r0:List Cl}:∀(l:List Cl) {L:Cl→Prop} {a:List Cl×List Cl},Stepped r0 L a→Stepped r0 (fun x=>L x∨x∈l) (l.foldl B0 a)
 |[],_,_,S=>S.congr fun x=>by simp
 |o::l,L,a,S=>((S.step o).fold l).congr fun x=>by rw[List.mem_cons,or_assoc]
theorem Stepped.one{s:List (List Int)}{h:Nat}{r0:List Cl}:∀(edge:List Cl) {L:Cl→Prop} {a:List Cl×List Cl},Stepped r0 L a→Stepped r0 (fun x=>L x∨∃y∈edge,x∈B8 s h y) (edge.foldl (Ke s h) a)
 |[],_,_,S=>S.congr fun x=>by simp
 |o::l,L,a,S=>(Stepped.one l (S.fold (B8 s h o))).congr fun x=>by
  rw[or_assoc];simp only[List.mem_cons,exists_eq_or_imp]
theorem O9{s:List (List Int)}{h:Nat}{r0:List Cl}(nd:r0.Nodup)(edge:List Cl):Stepped r0 (fun x=>∃y∈edge,x∈B8 s h y) (Dx s h edge r0):=
 (Stepped.one (s:=s) (h:=h) edge (L:=fun _=>False) (a:=(r0,[])) ⟨by simp,nd,fun x=>by simp⟩).congr fun x=>by simp
structure Bfs(s:List (List Int))(h:Nat)(c:Cl)(n:Nat)(rs edge:List Cl):Prop where
 nd:rs.Nodup
 mem:∀x,x∈rs↔Ball s h c n x
 sub:∀x∈edge,x∈rs
 len:edge.length≤rs.length
 old:∀y∈rs,y ∉ edge→∀x∈B8 s h y,x∈rs
theorem Bfs.start{s:List (List Int)}{h:Nat}{c:Cl}:Bfs s h c 0 [c] [c]:=⟨by simp,fun x=>by rw[List.mem_singleton];exact Iff.rfl,fun x h=>h,Nat.le_refl _,fun y hy hn=>absurd hy hn⟩
theorem Bfs.step{s:List (List Int)}{h:Nat}{c:Cl}{n:Nat}{rs edge:List Cl}(b:Bfs s h c n rs edge):Bfs s h c (n+1) (Dx s h edge rs).1 (Dx s h edge rs).2:=by
 have S:=O9 (s:=s) (h:=h) b.nd edge;have all:∀x,x∈(Dx s h edge rs).1↔x∈rs∨∃y∈rs,x∈B8 s h y:=fun x=>by
  rw[S.mem];constructor
  ·rintro(h|⟨y,hy,hx⟩)
   ·exact .inl h
   ·exact .inr ⟨y,b.sub y hy,hx⟩
  ·rintro(h|⟨y,hy,hx⟩)
   ·exact .inl h
   ·by_cases he:y∈edge
    ·exact .inr ⟨y,he,hx⟩
    ·exact .inl (b.old y hy he x hx)
 refine⟨S.nd,fun x=>?_,fun x hx=>?_,?_,fun y hy hn x hx=>?_⟩
 ·rw[all,b.mem];show _↔_∨_;constructor
  ·rintro(h|⟨y,hy,hx⟩)
   ·exact .inl h
   ·exact .inr ⟨y,(b.mem y).mp hy,hx⟩
  ·rintro(h|⟨y,hy,hx⟩)
   ·exact .inl h
   ·exact .inr ⟨y,(b.mem y).mpr hy,hx⟩
 ·rw[S.eq];exact List.mem_append_right _ hx
 ·rw[S.eq,List.length_append];omega
 ·have hr:y∈rs:=by
   rw[S.eq] at hy;exact(List.mem_append.mp hy).resolve_right hn
  exact(all x).mpr (.inr ⟨y,hr,hx⟩)
theorem Bfs.stop{s:List (List Int)}{h:Nat}{c:Cl}{n:Nat}{rs:List Cl}(b:Bfs s h c n rs [])(k:Nat)(x:Cl):x∈rs↔Ball s h c (n+k) x:=Ball.stop b.mem (fun y hy=>b.old y hy (by simp)) k x
theorem Bfs.inS{s:List (List Int)}{h:Nat}{c:Cl}{n:Nat}{rs edge:List Cl}(b:Bfs s h c n rs edge)(hc:InS s h c):∀x∈rs,InS s h x:=fun x hx=>Ball.inS hc ((b.mem x).mp hx)
theorem Rq(a:List Cl×List Cl)(o:Cl):(B0 a o).1.length≤a.1.length+1∧(B0 a o).2.length≤a.2.length+1:=by
 unfold B0
 split
 ·omega
 ·simp
theorem Sub.over{G0 G:Gp}(s:Sub G0 G){p:Addr}(h:G0 p=none)(o:GO):Sub G0 (Ab G p o):=fun a u e=>by rw[Ac (gne e h)];exact s a u e
noncomputable def Av(c:Cl):PyData:=.tuple [.int c.1,.int c.2]
theorem Cb{G:Gp}{c:Cl}:RepD G (cellD c) (Av c):=.tup (.cons (.int _) (.cons (.int _) .nil))
theorem C4{G:Gp}:∀{cs:List Cl},RepDs G (cs.map cellD) (cs.map Av)
 |[]=>.nil
 |_::_=>.cons Cb C4
theorem Dp(c:Cl):(Av c).canLay0=true:=by simp[Av,PyData.canLay0,PyData.canLayAll0]
theorem Be:∀cs:List Cl,PyData.canLayAll0 (cs.map Av)=true
 |[]=>rfl
 |c::r=>by rw[List.map_cons,PyData.canLayAll0,Dp,Be r];rfl
theorem E7(c:Cl):(Av c).depth=1:=by simp[Av,PyData.depth,PyData.depthAll]
theorem C5:∀cs:List Cl,PyData.depthAll (cs.map Av)≤1
 |[]=>Nat.zero_le _
 |c::r=>by
  rw[List.map_cons,PyData.depthAll,E7];exact Nat.max_le.mpr ⟨Nat.le_refl _,C5 r⟩
theorem Hs(a b:Cl):PyData.eqv (Av a) (Av b)=decide (a=b):=by
 unfold Av;simp only[PyData.eqv,PyData.eqvAll];show((a.1 == b.1)&&((a.2 == b.2)&&true))=_;rw[Bool.and_true,Bool.eq_iff_iff];simp only[Bool.and_eq_true,beq_iff_eq,decide_eq_true_eq];exact⟨fun h=>Prod.ext h.1 h.2,fun h=>by rw[h];exact⟨rfl,rfl⟩⟩
theorem D2:∀a b:List Cl,PyData.eqvAll (a.map Av) (b.map Av)=decide (a=b)
 |[],[]=>by simp[PyData.eqvAll]
 |[],y::r=>by simp[PyData.eqvAll]
 |x::r,[]=>by simp[PyData.eqvAll]
 |x::r,y::q=>by
  simp only[List.map_cons,PyData.eqvAll,D2 r q,Hs];rw[Bool.eq_iff_iff];simp
theorem S0{G:Gp}{p q:Addr}{a b:List Cl}{Q:DK}(hp:G p=some (.lst (a.map cellD)))(hq:G q=some (.lst (b.map cellD)))(h:Q (.bl (!decide (a=b))) G):Oe (.ref p) (.ref q) G Q:=
 ⟨_,_,.lst hp C4,.lst hq C4,by rw[PyData.canLay0];exact Be a,by rw[PyData.canLay0];exact Be b,by rw[PyData.depth,PyData.depth];have:=C5 a;omega,by rw[PyData.eqv,D2];exact h⟩
theorem Sz{G:Gp}{p:Addr}{a:List Cl}{Q:DK}(hp:G p=some (.lst (a.map cellD)))(h:Q (.bl true) G):Oe (.ref p) .non G Q:=
 ⟨_,_,.lst hp C4,.non,by rw[PyData.canLay0];exact Be a,rfl,by rw[PyData.depth];have:=C5 a;omega,by simpa[PyData.eqv] using h⟩

section
variable{P:Program}{w:World}{K:W.Frag}{mg:Str→Option Value}{base:Heap}
theorem Hr:∀(l:List Cl) (a:List Cl×List Cl),(l.foldl B0 a).1.length≤a.1.length+l.length∧(l.foldl B0 a).2.length≤a.2.length+l.length
 |[],a=>⟨Nat.le_refl _,Nat.le_refl _⟩
 |o::l,a=>by
  have h1:=Rq a o;have h2:=Hr l (B0 a o);rw[List.foldl_cons,List.length_cons];omega
theorem Mj(s:List (List Int))(h:Nat)(c:Cl):(B8 s h c).length≤4:=Nat.le_trans (List.length_filter_le _ _) (Nat.le_refl _)
theorem Qx(s:List (List Int))(h:Nat):∀(l:List Cl) (a:List Cl×List Cl),(l.foldl (Ke s h) a).1.length≤a.1.length+4*l.length∧(l.foldl (Ke s h) a).2.length≤a.2.length+4*l.length
 |[],a=>⟨Nat.le_refl _,Nat.le_refl _⟩
 |o::l,a=>by
  have h1:=Hr (B8 s h o) a;have h0:=Mj s h o;have h2:=Qx s h l (Ke s h a o);rw[List.foldl_cons,List.length_cons];have e:Ke s h a o=(B8 s h o).foldl B0 a:=rfl;rw[e] at h2 ⊢;omega
theorem Ft{α β:Type}{f:β→α→β}{l:List α}{i:Nat}{x:α}{b:β}(h:l[i]? = some x):(l.take (i+1)).foldl f b=f ((l.take i).foldl f b) x:=by
 rw[List.take_add_one,h,Option.toList_some,List.foldl_append];rfl
theorem D1{l:List Cl}{i:Nat}{x:D}(h:(l.map cellD)[i]? = some x):∃c,l[i]? = some c∧x=cellD c:=by
 rw[List.getElem?_map] at h;cases e:l[i]? with
 |none=>rw[e] at h;cases h
 |some c=>rw[e] at h;cases h;exact⟨c,rfl,rfl⟩
theorem szm{n:Nat}(h:n<20000):n<sizeLine:=by rw[sizeLine_eq];omega
noncomputable abbrev s_one_step_on:Stmt:=top 29
noncomputable abbrev Ja:List Str:=["sea", "edge", "reached", "beyond", "cell", "other"]
noncomputable abbrev Bf:List Str:=["sea", "edge", "reached"]
theorem sc_one_step_on:FnScope Ja Bf (defScope s_one_step_on):=⟨rfl,rfl,rfl,by decide +kernel,rfl,by decide +kernel,by decide +kernel⟩
noncomputable def Fl:DSp:=fun ds G Q _=>∃s h e p edge r0,ds=[seaD s,.ref e,.ref p]∧SeaOk s h∧G e=some (.lst (edge.map cellD))∧G p=some (Bi r0)∧r0.length+4*edge.length<10000∧
 ∀q,G q=none→Q (.ref q) (Ab (Ab G p (Bi (Dx s h edge r0).1)) q (.lst ((Dx s h edge r0).2.map cellD)))
theorem Pa{f:Addr}{fd:FuncData}(F:Fun K "one_step_on" "one_step_on" s_one_step_on f fd)(T:Nums mg)(Aik:Def P w K mg base CX0 3 "waters_beside" A5 Ew):FnOk P w K mg base CX0 4 f fd Bf (liftSp K Fl):=by
 refine okD F sc_one_step_on (fun ds G Q E h=>?_) (fun cdv A outer s H XE ds G Q E hr h=>?_)
 ·obtain⟨_,_,_,_,_,_,rfl,_⟩:=h;rfl
 ·obtain⟨s,h,e,p,edge,r0,rfl,ok,he,hp,hz,k⟩:=h;refine⟨_,#["d",#["au",3,sc_one_step_on.nd],#["d",#["P",#["a",1],#["g",4,sc_one_step_on.nd],#["f",#["P",#["e",Aik,hr,#["c",#["a",0],#["b",#["a",4]]]],#["g",5,sc_one_step_on.nd],#["f",#["A",(@qt_cmp _ _ _ _ _ _ _ _ (@o_tnotin _ _ hr) #["a",5] #["a",2] (by with_unfolding_all rfl)),#["d",#["av",#["U",#["a",2],#["a",5],(@s_dictT _ _ hr)]],#["f",#["u",#["1",#["a",3],#["a",5]]]]]]]]]],#["f",#["h",#["a",3]]]]],?_⟩
  have sz0:0≤sizeLine:=Nat.zero_le _;simp![sz0];intro q hq;have nep:e≠p:=fun z=>by rw[z,hp] at he;cases he
  have neq:e≠q:=gne he hq;have npq:p≠q:=gne hp hq
  let GG:=fun(a:List Cl×List Cl)=>Ab (Ab G p (Bi a.1)) q (.lst (a.2.map cellD))
  have g0:∀a,A3 (GG a) (.ref e)=some (edge.map cellD):=fun a=>Af (by show Ab (Ab G _ _) _ _ _=_;rw[Ac neq,Ac nep];exact he)
  refine⟨edge.map cellD,Af (Au he hq),?_⟩;refine Bn (fun i σ G'=>∃v4 v5,σ=[some (seaD s),some (.ref e),some (.ref p),some (.ref q),v4,v5]∧GG ((edge.take i).foldl (Ke s h) (r0,[]))=G') ⟨none,none,rfl,?_⟩ ?_ ?_ ?_
  ·show Ab (Ab G p (Bi r0)) q _=_;rw[Ji hp];rfl
  ·rintro i σ _ _ ⟨v4,v5,rfl,rfl⟩;exact g0 _
  ·rintro i x σ _ hx ⟨v4,v5,rfl,rfl⟩;obtain⟨c,hc,rfl⟩:=D1 hx;have hi:i<edge.length:=(List.getElem?_eq_some_iff.mp hc).1;have ea:=Ft (f:=Ke s h) (b:=(r0,[])) hc;have hal:=Qx s h (edge.take i) (r0,[]);rw[List.length_take,Nat.min_eq_left (Nat.le_of_lt hi)] at hal;generalize (edge.take i).foldl (Ke s h) (r0,[])=a at *;rw[ea];simp![Ew];refine⟨s,rfl,h,c,rfl,ok,fun l hl=>?_⟩;have hl0:=Ep hl;have hl1:=Ep hl0.2;refine⟨_,Af Aa,?_⟩;refine Bn (fun j σ G'=>∃v5,σ=[some (seaD s),some (.ref e),some (.ref p),some (.ref q),some (cellD c),v5]∧Ab (GG (((B8 s h c).take j).foldl B0 a)) l (.lst ((B8 s h c).map cellD))=G') ⟨_,rfl,rfl⟩ ?_ ?_ ?_
   ·rintro j σ _ _ ⟨v5,rfl,rfl⟩;exact Af Aa
   ·rintro j x σ _ hx ⟨v5,rfl,rfl⟩;obtain⟨o,ho,rfl⟩:=D1 hx;have hj:j<(B8 s h c).length:=(List.getElem?_eq_some_iff.mp ho).1;have hw:=Mj s h c;have eb:=Ft (f:=B0) (b:=a) ho;have hbl:=Hr ((B8 s h c).take j) a;rw[List.length_take,Nat.min_eq_left (Nat.le_of_lt hj)] at hbl;generalize ((B8 s h c).take j).foldl B0 a=b at *;have gp:Ab (GG b) l (.lst ((B8 s h c).map cellD)) p=some (Bi b.1):=by
     show Ab (Ab (Ab G _ _) _ _) _ _ _=_;rw[Ac hl1.1,Ac npq,Aa]
    have sz1:(b.1.map fun c=>(Ar c,D.bl true)).length<sizeLine:=by rw[List.length_map];exact szm (by simp at hal;omega)
    simp![Db,gp,Bi];refine⟨_,rfl,?_⟩;rw[Jh,eb]
    by_cases hm:o∈b.1
    ·refine it1 (by simp[hm]) ?_
     have e2:B0 b o=b:=by unfold B0;rw[if_pos hm]
     rw[e2];exact Fs.of ⟨_,rfl,rfl⟩
    ·refine it0 (by simp[hm]) ?_
     have gq:∀u,Ab (Ab (GG b) l (.lst ((B8 s h c).map cellD))) p u q=some (.lst (b.2.map cellD)):=fun u=>by
      show Ab (Ab (Ab (Ab G _ _) _ _) _ _) _ _ _=_;rw[Ac npq.symm,Ac hl0.1,Aa]
     refine⟨_,rfl,sz1,⟨_,gq _⟩,_,gq _,by rw[List.length_map];exact szm (by simp at hal;omega),?_⟩
     rw[Fm];have e2:B0 b o=(b.1++[o],b.2++[o]):=by unfold B0;rw[if_neg hm]
     have e3:C7 b.1 o=b.1++[o]:=by unfold C7;rw[if_neg hm]
     rw[e2,e3];refine Fs.of ⟨_,rfl,?_⟩;show Ab (Ab (Ab G p (Bi (b.1++[o]))) q (.lst ((b.2++[o]).map cellD))) l _=Ab (Ab (Ab (Ab (Ab G p (Bi b.1)) q (.lst (b.2.map cellD))) l _) p (Bi (b.1++[o]))) q (.lst (b.2.map cellD++[cellD o]));rw[Fj (a:=l) (b:=p) hl1.1.symm,Fj (a:=q) (b:=p) npq.symm,Cz,Fj (a:=l) (b:=q) hl0.1.symm,Cz,List.map_append];rfl
   ·rintro σ _ ⟨v5,rfl,rfl⟩;rw[List.length_map,List.take_length];exact⟨_,Sub.new (by show Ab (Ab G _ _) _ _ _=_;rw[Ac hl0.1.symm,Ac hl1.1.symm];exact hl1.2),_,_,rfl,rfl⟩
  ·rintro σ _ ⟨v4,v5,rfl,rfl⟩;rw[List.length_map,List.take_length];simp![];exact Fq.of (k q hq)
noncomputable abbrev s_drift:Stmt:=top 30
noncomputable abbrev Aaa:List Str:=["sea", "cell", "days", "reached", "edge", "left"]
noncomputable abbrev Dw:List Str:=["sea", "cell", "days"]
theorem sc_drift:FnScope Aaa Dw (defScope s_drift):=⟨rfl,rfl,rfl,by decide +kernel,rfl,by decide +kernel,by decide +kernel⟩
noncomputable def spDrift:DSp:=fun ds G Q _=>∃s h c days,ds=[seaD s,cellD c,.int days]∧SeaOk s h∧InS s h c∧0≤days∧days≤400∧∀ms:List Cl,ms.Pairwise Aw→(∀x,x∈ms↔Drift s h c days.toNat x)→Q (.tup (ms.map cellD)) G
noncomputable def WDr(s:List (List Int))(h:Nat)(c:Cl)(days:Int)(p:Addr)(G:Gp)(m:Nat)(σ:DSt)(G':Gp):Prop:=∃(n:Nat) (left:Int) (rs edge:List Cl) (e:Addr),σ=[some (seaD s),some (cellD c),some (.int days),some (.ref p),some (.ref e),some (.int left)]∧
 G' p=some (Bi rs)∧G' e=some (.lst (edge.map cellD))∧Bfs s h c n rs edge∧left+n=days∧0≤left∧m=left.toNat∧Sub G G'
theorem Wg{f:Addr}{fd:FuncData}(F:Fun K "drift" "drift" s_drift f fd)(T:Nums mg)(Ah8:Def P w K mg base CX0 5 "check_sea" p_check_sea spCheckSea)(Ail:Def P w K mg base CX0 3 "check_cell" Bo Cr)(Ah9:Def P w K mg base CX0 3 "check_day" p_check_day (spChk 0 400))(Ah5:Def P w K mg base CX0 2 "is_water" p_is_water spWater)(Aim:Def P w K mg base CX0 4 "one_step_on" Bf Fl) :
  FnOk P w K mg base CX0 6 f fd Dw (liftSp K spDrift):=by
 refine okD F sc_drift (fun ds G Q E h=>?_) (fun cdv A outer s H XE ds G Q E hr h=>?_)
 ·obtain⟨_,_,_,_,rfl,_⟩:=h;rfl
 ·obtain⟨s,h,c,days,rfl,ok,hc,d0,d1,k⟩:=h;refine⟨_,#["d",#["u",#["e",Ah8,hr,#["b",#["a",0]]]],#["d",#["u",#["e",Ail,hr,#["c",#["a",0],#["b",#["a",1]]]]],#["d",#["u",#["e",Ah9,hr,#["b",#["a",2]]]],#["d",#["A",#["n",#["m",#["e",Ah5,hr,#["c",#["a",0],#["b",#["a",1]]]]]],#["f",#["h",#["i",#["b",#["a",1]]]]]],#["d",#["j",3,sc_drift.nd,(@q_disp1 _ _ _ _ _ _ _ hr #["a",1] (@q_bl _ _ _ _))],#["d",#["j",4,sc_drift.nd,#["w",#["b",#["a",1]]]],#["d",#["j",5,sc_drift.nd,#["a",2]],#["d",(@qs_while _ _ _ _ _ _ PassesOwn.never #["C",#["ae",#["m",#["a",4]],#["af",#["ag",#["a",5]]]]] #["d",#["j",4,sc_drift.nd,#["e",Aim,hr,#["c",#["a",0],#["c",#["a",4],#["b",#["a",3]]]]]],#["f",#["aI",5,sc_drift.nd]]]),#["f",#["h",#["V",T,#["b",#["aw",T,#["b",#["a",3]]]]]]]]]]]]]]],?_⟩;have sz1:1≤sizeLine:=szl (by decide)
  simp![spCheckSea,Cr,spChk,spWater,sz1];refine⟨s,rfl,h,ok,s,rfl,h,c,rfl,ok,hc,d0,d1,s,rfl,h,c,rfl,ok,hc,?_⟩;refine⟨_,rfl,?_⟩
  by_cases hw:wat s h c=true
  ·refine it1 (by simp[hw]) fun p hp=>⟨_,Db,fun q hq=>?_⟩
   have hq0:=Ep hq;refine⟨WDr s h c days p G,⟨days.toNat,0,days,[c],[c],q,rfl,by rw[Ac hq0.1,Aa];rfl,Aa,Bfs.start,by omega,d0,rfl,(Sub.new hp).trans (Sub.new hq)⟩,?_⟩
   rintro m σ G' ⟨n,left,rs,edge,e,rfl,gp,ge,B,hn,hl,rfl,sb⟩;have te:Rj G' (.ref e)=some (!(edge.map cellD).isEmpty):=by simp only[Rj,ge]
   have h144:rs.length≤63:=C6 ok B.nd (B.inS hc);have hlen:=B.len;have fin:(∀x,x∈rs↔Ball s h c days.toNat x)→∃ks:List ((Int×Int)×D),G' p=some (.dct (ks.map fun k=>(Ar k.1,k.2)))∧ks.length≤63∧(∀k∈ks,0≤k.1.2∧k.1.2<1000)∧∀(l:Addr) (ms:List (Int×Int)),G' l=none→ms.Perm (ks.map (·.1))→ms.Pairwise Aw→∃es,A3 (Ab G' l (.lst (ms.map cellD))) (.ref l)=some es∧Fq Q (.tup es) (Ab G' l (.lst (ms.map cellD))):=fun hall=>by
    refine⟨rs.map fun x=>(x,D.bl true),by rw[gp,List.map_map];rfl,by rw[List.length_map];omega,fun k hk=>?_,fun l ms hl hm hp=>?_⟩
    ·obtain⟨x,hx,rfl⟩:=List.mem_map.mp hk;obtain⟨_,_,a3,a4⟩:=B.inS hc x hx
     have:=ok.high
     exact⟨a3,by show x.2<1000;omega⟩
    ·refine⟨_,Af Aa,G,sb.trans (Sub.new hl),k ms hp fun x=>?_⟩;have e1:(rs.map fun x=>(x,D.bl true)).map (·.1)=rs:=by rw[List.map_map];exact List.map_id _
     rw[e1] at hm;rw[hm.mem_iff,hall,Drift,if_pos hw]
   simp![te];cases edge with
   |nil=>
    refine it1 (by simp) (fin fun x=>?_)
    have:=B.stop left.toNat x
    rw[show n+left.toNat=days.toNat by omega] at this;exact this
   |cons e0 er=>
    refine it0 (by simp) ?_
    by_cases h0:0<left
    ·refine it0 h0 ⟨WDr s h c days p G (left-1).toNat,fun σ' G'' hW=>⟨_,by omega,hW⟩,s,h,e,p,e0::er,rs,rfl,ok,ge,gp,by omega,fun q2 hq2=>?_⟩
     exact Fs.of ⟨n+1,left-1,_,_,q2,rfl,by rw[Ac (gne gp hq2),Aa],Aa,B.step,by omega,by omega,rfl,Sub.over (Sub.over sb hp _) (sb.none hq2) _⟩
    ·refine it1 h0 (fin fun x=>?_);rw[B.mem,show n=days.toNat by omega]
  ·refine it0 (by simpa using hw) (Fq.of ?_)
   have:=k [c] (List.pairwise_singleton _ _) fun x=>by rw[List.mem_singleton,Drift,if_neg hw]
   exact this
noncomputable abbrev s_L_sea:Stmt:=top 73
noncomputable abbrev Aac:List Str:=["_law_box_here", "_law_wide", "_law_high", "_law_columns", "_law_rows", "_law_way", "_law_found", "_law_column", "_law_depths", "_law_row", "_law_depth"]
noncomputable abbrev p_L_sea:List Str:=["_law_box_here", "_law_wide", "_law_high"]
theorem sc_L_sea:FnScope Aac p_L_sea (defScope s_L_sea):=⟨rfl,rfl,rfl,by decide +kernel,rfl,by decide +kernel,by decide +kernel⟩
noncomputable def spLSea:DSp:=fun ds G Q _=>∃a wide high,ds=[.ref a,.int wide,.int high]∧Dg (G a)∧(2≤wide∧wide≤16∧1≤high∧high≤9∧wide.toNat*high.toNat≤63)∧∀s h G',SeaOk s h→Step a G G'→Q (seaD s) G'
theorem Y8{f:Addr}{fd:FuncData}(F:Fun K "_law_sea" "_law_sea" s_L_sea f fd)(T:Blt mg)(Ah0:Def P w K mg base CX0 2 "_law_take" p_L_take spTake):FnOk P w K mg base CX0 3 f fd p_L_sea (liftSp K spLSea):=by
 refine okD F sc_L_sea (fun ds G Q E h=>?_) (fun cdv A outer s H XE ds G Q E hr h=>?_)
 ·obtain⟨a,wide,high,rfl,_⟩:=h;rfl
 ·obtain⟨a,wide,high,rfl,hb,⟨w0,w1,g0,g1,few⟩,k⟩:=h;refine⟨_,#["d",#["2",3,4,sc_L_sea.nd,#["c",#["M",#["e",Ah0,hr,#["c",#["a",0],#["b",#["S",#["a",1]]]]]],#["b",#["M",#["e",Ah0,hr,#["c",#["a",0],#["b",#["a",2]]]]]]]],#["d",#["2",5,6,sc_L_sea.nd,#["c",#["e",Ah0,hr,#["t",#["a",0]]],#["c",#["3"],(@qa_nil _)]]],#["d",#["4",T,#["b",#["a",3]],#["g",7,sc_L_sea.nd],#["d",#["au",8,sc_L_sea.nd],#["d",#["4",T,#["b",#["a",4]],#["g",9,sc_L_sea.nd],#["d",#["j",10,sc_L_sea.nd,#["v",#["w",#["o",#["o",#["o",#["b",#["M",#["e",Ah0,hr,#["t",#["a",0]]]]]]]]],#["e",Ah0,hr,#["t",#["a",0]]]]],#["d",#["ap",#["7",#["e",Ah0,hr,#["c",#["a",0],#["b",#["ax",#["a",5]]]]]],#["f",#["j",10,sc_L_sea.nd,#["ax",#["e",Ah0,hr,#["t",#["a",0]]]]]],(@qss_nil _)],#["f",#["u",#["1",#["a",8],#["a",10]]]]]]],#["f",#["u",#["1",#["a",6],#["V",T,#["b",#["a",8]]]]]]]]],#["f",#["h",#["V",T,#["b",#["a",6]]]]]]]],?_⟩;have sz0:0≤sizeLine:=Nat.zero_le _;have sz4:4≤sizeLine:=szl (by decide)
  simp![sz0];refine Ay hb (by omega) (by omega) fun r1 G1 r1l r1h s1=>?_
  rw[Fi];refine Ay s1.box (by omega) (by omega) fun r2 G2 r2l r2h s2=>?_
  have s2:=s1.trans s2;rw[Fi];refine Ay s2.box (by omega) (by omega) fun r3 G3 r3l r3h s3=>?_
  have s3:=s2.trans s3;intro p hp;have s4:=s3.lay (o:=.lst []) hp;have nap:=Step.ne s3.box hp;have hpG:=s3.back hp;have gp:Ab G3 p (.lst []) p=some (.lst []):=Aa;generalize Ab G3 p (.lst [])=G4 at *;refine⟨_,rfl,by omega,by omega,?_⟩
  refine Bl (fun i σ G'=>∃(cols:List (List Int)) (v7 v8 v9 v10:Option D),σ=[some (.ref a),some (.int wide),some (.int high),some (.int (2+r1)),some (.int (1+r2)),some (.int r3),some (.ref p),v7,v8,v9,v10]∧
   cols.length=i∧(∀c∈cols,c.length=(1+r2).toNat∧∀x∈c,0≤x∧x≤9)∧Step a G G'∧G' p=some (.lst (cols.map A6))) ⟨[],none,none,none,none,rfl,rfl,by simp,s4,gp⟩ ?_ ?_
  ·rintro i σ G5 hi ⟨cols,v7,v8,v9,v10,rfl,hcl,hco,s5,gp5⟩;simp![sz0];intro d hd;have s6:=s5.lay (o:=.lst []) hd;have nad:=Step.ne s5.box hd;have hdG:=s5.back hd;have npd:=gne gp5 hd;have gp6:=Au (u:=.lst []) gp5 hd;have gd6:Ab G5 d (.lst []) d=some (.lst []):=Aa;generalize Ab G5 d (.lst [])=G6 at *;refine⟨by omega,by omega,?_⟩
   refine Bl (fun j σ G'=>∃(col:List Int) (v9 v10:Option D),σ=[some (.ref a),some (.int wide),some (.int high),some (.int (2+r1)),some (.int (1+r2)),some (.int r3),some (.ref p),some (.int i),some (.ref d),v9,v10]∧
    col.length=j∧(∀x∈col,0≤x∧x≤9)∧Step a G G'∧G' p=some (.lst (cols.map A6))∧G' d=some (.lst (col.map D.int))) ⟨[],_,_,rfl,rfl,by simp,s6,gp6,gd6⟩ ?_ ?_
   ·rintro j σ G7 hj ⟨col,v9,v10,rfl,hcl2,hco2,s7,gp7,gd7⟩;simp![sz4];refine Ay s7.box (by decide) (by decide) fun t1 G8 t1l t1h s8=>?_
    have gp8:=s8.get nap gp7;have gd8:=s8.get nad gd7;have s8:=s7.trans s8;rw[Fi];intro q1 hq1;have s9:=s8.lay (o:=.lst [.int 9,.int 5,.int 3,.int (1+t1)]) hq1;have n9:=Step.ne s8.box hq1;have gp9:=Au (u:=.lst [.int 9,.int 5,.int 3,.int (1+t1)]) gp8 hq1;have gd9:=Au (u:=.lst [.int 9,.int 5,.int 3,.int (1+t1)]) gd8 hq1;have gq9:Ab G8 q1 (.lst [.int 9,.int 5,.int 3,.int (1+t1)]) q1=some (.lst [.int 9,.int 5,.int 3,.int (1+t1)]):=Aa;generalize Ab G8 q1 (.lst [.int 9,.int 5,.int 3,.int (1+t1)])=G9 at *;refine Ay s9.box (by decide) (by decide) fun t2 G10 t2l t2h s10=>?_
    have gp10:=s10.get nap gp9;have gd10:=s10.get nad gd9;have gq10:=s10.get n9 gq9;have s10:=s9.trans s10;obtain⟨d1,hd1,hm1⟩:=Et (xs:=[D.int 9,.int 5,.int 3,.int (1+t1)]) t2l (by simpa using t2h)
    obtain⟨x1,rfl,hx1⟩:∃x,d1=.int x∧0≤x∧x≤9:=by
     simp only[List.mem_cons,List.not_mem_nil,or_false] at hm1;rcases hm1 with rfl|rfl|rfl|rfl<;>exact⟨_,rfl,by omega,by omega⟩
    refine⟨t2,rfl,.int x1,(Cc gq10).trans hd1,?_⟩;refine⟨fun σ G'=>∃x,σ=[some (.ref a),some (.int wide),some (.int high),some (.int (2+r1)),some (.int (1+r2)),some (.int r3),some (.ref p),some (.int i),some (.ref d),some (.int j),some (.int x)]∧0≤x∧x≤9∧Step a G G'∧G' p=some (.lst (cols.map A6))∧G' d=some (.lst (col.map D.int)),fun q2 hq2=>?_,?_⟩
    ·obtain⟨d2,hd2,hm2⟩:=Et (xs:=[D.int 9,.int 4,.int 30,.int 2]) r3l (by simpa using r3h)
     obtain⟨x2,rfl,hx2⟩:∃x,d2=.int x∧0<x∧x≤30:=by
      simp only[List.mem_cons,List.not_mem_nil,or_false] at hm2;rcases hm2 with rfl|rfl|rfl|rfl<;>exact⟨_,rfl,by omega,by omega⟩
     refine⟨_,(Cc Aa).trans hd2,?_⟩;have s11:=s10.lay (o:=.lst [.int 9,.int 4,.int 30,.int 2]) hq2;have gp11:=Au (u:=.lst [.int 9,.int 4,.int 30,.int 2]) gp10 hq2;have gd11:=Au (u:=.lst [.int 9,.int 4,.int 30,.int 2]) gd10 hq2;generalize Ab G10 q2 (.lst [.int 9,.int 4,.int 30,.int 2])=G11 at *;refine Ay s11.box (by omega) (by omega) fun t3 G12 t3l t3h s12=>?_
     have gp12:=s12.get nap gp11;have gd12:=s12.get nad gd11;have s12:=s11.trans s12;refine⟨_,rfl,?_⟩
     by_cases hz:t3=0
     ·refine it0 (by simpa using hz) fun q3 hq3=>?_
      have s13:=s12.lay (o:=.lst [.int 0,.int 0,.int 1,.int 2]) hq3;have n13:=Step.ne s12.box hq3;have gp13:=Au (u:=.lst [.int 0,.int 0,.int 1,.int 2]) gp12 hq3;have gd13:=Au (u:=.lst [.int 0,.int 0,.int 1,.int 2]) gd12 hq3;have gq13:Ab G12 q3 (.lst [.int 0,.int 0,.int 1,.int 2]) q3=some (.lst [.int 0,.int 0,.int 1,.int 2]):=Aa;generalize Ab G12 q3 (.lst [.int 0,.int 0,.int 1,.int 2])=G13 at *;refine Ay s13.box (by decide) (by decide) fun t4 G14 t4l t4h s14=>?_
      obtain⟨d3,hd3,hm3⟩:=Et (xs:=[D.int 0,.int 0,.int 1,.int 2]) t4l (by simpa using t4h)
      obtain⟨x3,rfl,hx3⟩:∃x,d3=.int x∧0≤x∧x≤9:=by
       simp only[List.mem_cons,List.not_mem_nil,or_false] at hm3;rcases hm3 with rfl|rfl|rfl|rfl<;>exact⟨_,rfl,by omega,by omega⟩
      exact⟨t4,rfl,_,(Cc (s14.get n13 gq13)).trans hd3,Fs.of ⟨x3,rfl,hx3.1,hx3.2,s13.trans s14,s14.get nap gp13,s14.get nad gd13⟩⟩
     ·exact it1 (by simpa using hz) (Fs.of ⟨x1,rfl,hx1.1,hx1.2,s12,gp12,gd12⟩)
    ·rintro σ' G15 ⟨x,rfl,hx0,hx9,s15,gp15,gd15⟩;simp![gd15];refine⟨⟨_,rfl⟩,by rw[List.length_map];exact szm (by omega),Fs.of ?_⟩
     refine⟨col++[x],_,_,rfl,by simp[hcl2],fun y hy=>?_,s15.write hdG nad,by rw[Ac npd];exact gp15,by rw[Aa,List.map_append];rfl⟩
     rcases List.mem_append.mp hy with hy|hy
     ·exact hco2 y hy
     ·rw[List.mem_singleton] at hy;subst hy;exact⟨hx0,hx9⟩
   ·rintro σ G7 ⟨col,v9,v10,rfl,hcl2,hco2,s7,gp7,gd7⟩;simp![Af gd7,gp7];refine⟨⟨_,rfl⟩,by rw[List.length_map];exact szm (by omega),Fs.of ?_⟩
    refine⟨cols++[col],_,_,_,_,rfl,by simp[hcl],fun c hc=>?_,s7.write hpG nap,by rw[Aa,List.map_append];rfl⟩
    rcases List.mem_append.mp hc with hc|hc
    ·exact hco c hc
    ·rw[List.mem_singleton] at hc;subst hc;exact⟨hcl2,hco2⟩
  ·rintro σ G5 ⟨cols,v7,v8,v9,v10,rfl,hcl,hco,s5,gp5⟩;simp![Af gp5];exact Fq.of (k cols (1+r2).toNat G5 ⟨by omega,by omega,hco,Nat.le_trans (Nat.mul_le_mul (by omega) (by omega)) few⟩ s5)
noncomputable abbrev s_L_cell_of:Stmt:=top 74
noncomputable abbrev Oa:List Str:=["_law_box_here", "_law_sea_here"]
noncomputable abbrev p_L_cell_of:List Str:=["_law_box_here", "_law_sea_here"]
theorem Lq:FnScope Oa p_L_cell_of (defScope s_L_cell_of):=⟨rfl,rfl,rfl,by decide +kernel,rfl,by decide +kernel,by decide +kernel⟩
noncomputable def spCellOf:DSp:=fun ds G Q _=>∃a s h,ds=[.ref a,seaD s]∧Dg (G a)∧SeaOk s h∧∀c G',InS s h c→Step a G G'→Q (cellD c) G'
theorem Ss{f:Addr}{fd:FuncData}(F:Fun K "_law_cell_of" "_law_cell_of" s_L_cell_of f fd)(T:Blt mg)(Ah0:Def P w K mg base CX0 2 "_law_take" p_L_take spTake):FnOk P w K mg base CX0 3 f fd p_L_cell_of (liftSp K spCellOf):=by
 refine okD F Lq (fun ds G Q E h=>?_) (fun cdv A outer s H XE ds G Q E hr h=>?_)
 ·obtain⟨_,_,_,rfl,_⟩:=h;rfl
 ·obtain⟨a,s,h,rfl,hb,ok,k⟩:=h;refine⟨_,#["f",#["h",#["i",#["c",#["e",Ah0,hr,#["c",#["a",0],#["b",#["p",T,#["b",#["a",1]]]]]],#["b",#["e",Ah0,hr,#["c",#["a",0],#["b",#["p",T,#["b",#["k",#["a",1]]]]]]]]]]]],?_⟩;obtain⟨a0,hl⟩:=ok.head;have hw:=ok.wide;have hh:=ok.high;have sz2:=sz2;unfold seaD;simp![sz2,a0,A6,List.length_map];refine Ay hb (by omega) (by omega) fun r1 G1 r1l r1h s1=>?_
  rw[hl];refine Ay s1.box (by omega) (by omega) fun r2 G2 r2l r2h s2=>?_
  exact Fq.of (k (r1,r2) G2 ⟨r1l,r1h,r2l,r2h⟩ (s1.trans s2))
noncomputable def Ee(c:Cl):List Cl:=[(c.1-1,c.2),(c.1+1,c.2),(c.1,c.2-1),(c.1,c.2+1)]
theorem Px{s:List (List Int)}{h:Nat}{c x:Cl}:x∈B8 s h c↔x∈Ee c∧wat s h x=true:=by
 unfold B8;rw[List.mem_filter];unfold beside Ee;simp only[List.mem_cons,List.not_mem_nil,or_false];constructor
 ·rintro⟨h1,h2⟩;refine⟨?_,h2⟩;rcases h1 with h1|h1|h1|h1<;>simp[h1]
 ·rintro⟨h1,h2⟩;refine⟨?_,h2⟩;rcases h1 with h1|h1|h1|h1<;>simp[h1]
theorem Mu{rs:List Cl}{c x:Cl}:x∈C7 rs c↔x∈rs∨x=c:=by
 unfold C7
 by_cases h:c∈rs
 ·rw[if_pos h];exact⟨.inl,fun z=>z.elim id fun e=>e ▸ h⟩
 ·rw[if_neg h,List.mem_append,List.mem_singleton]
theorem Qp{rs:List Cl}{c:Cl}(h:rs.Nodup):(C7 rs c).Nodup:=by
 unfold C7;split
 ·exact h
 ·exact List.nodup_append.mpr ⟨h,List.pairwise_singleton _ _,fun a ha b hb e=>by rw[List.mem_singleton] at hb;subst hb;subst e;contradiction⟩
theorem F6:∀(cs acc:List Cl),Ks (acc.map fun c=>(Ar c,D.bl true)) (cs.map fun c=>(Ar c,D.bl true))=(cs.foldl C7 acc).map fun c=>(Ar c,D.bl true)
 |[],_=>rfl
 |c::r,acc=>by
  show Ks (Cg _ _ _) _=_;rw[Fm];exact F6 r (C7 acc c)
theorem Jq{x:Cl}:∀{cs acc:List Cl},x∈cs.foldl C7 acc↔x∈acc∨x∈cs
 |[],acc=>by simp
 |c::r,acc=>by rw[List.foldl_cons,Jq,Mu,List.mem_cons,or_assoc]
theorem M3:∀(cs acc:List Cl),acc.Nodup→(cs.foldl C7 acc).Nodup
 |[],_,h=>h
 |c::r,acc,h=>M3 r _ (Qp h)
theorem Rz{s:List (List Int)}{h:Nat}(ok:SeaOk s h){cells rs:List Cl}{L:Cl→Prop}(nd:rs.Nodup)(hin:∀x∈cells,InS s h x)(hm:∀x,x∈rs↔x∈cells∨L x)(hL:∀x,L x→InS s h x):rs.length≤63:=C6 ok nd fun x hx=>((hm x).mp hx).elim (hin x) (hL x)
theorem F5:∀cs:List Cl,Ec (cs.map fun c=>D.tup [cellD c,.bl true])=some (cs.map fun c=>(Ar c,D.bl true))
 |[]=>rfl
 |c::r=>by simp only[List.map_cons,Ec,Db,F5 r]
noncomputable def InR(s:List (List Int))(h:Nat)(l p1 q:Addr)(c:Cl)(G:Gp)(rs:List Cl)(j:Nat)(σ:DSt)(G':Gp):Prop:=∃(rs':List Cl) (v5:Option D),σ=[some (seaD s),some (.ref l),some (.ref p1),some (.int c.1),some (.int c.2),v5]∧Sub G G'∧G' p1=some (Bi rs')∧G' q=some (.lst ((Ee c).map cellD))∧rs'.Nodup∧∀x,x∈rs'↔x∈rs∨(x∈(Ee c).take j∧wat s h x=true)
noncomputable def OutR(s:List (List Int))(h:Nat)(l p1:Addr)(cells:List Cl)(G:Gp)(i:Nat)(σ:DSt)(G':Gp):Prop:=∃(rs:List Cl) (v3 v4 v5:Option D),σ=[some (seaD s),some (.ref l),some (.ref p1),v3,v4,v5]∧Sub G G'∧G' p1=some (Bi rs)∧rs.Nodup∧∀x,x∈rs↔x∈cells∨∃y∈cells.take i,x∈B8 s h y
noncomputable abbrev s_L_round:Stmt:=top 75
noncomputable abbrev Tx:List Str:=["_law_sea_here", "_law_cells", "_law_found", "_law_column", "_law_row", "_law_other"]
noncomputable abbrev Cm:List Str:=["_law_sea_here", "_law_cells"]
theorem sc_L_round:FnScope Tx Cm (defScope s_L_round):=⟨rfl,rfl,rfl,by decide +kernel,rfl,by decide +kernel,by decide +kernel⟩
theorem nd_L_round_1:((["_law_cell"]:List Str)++(["_law_sea_here", "_law_cells", "_law_found", "_law_column", "_law_row", "_law_other"]:List Str)).Nodup:=by decide +kernel
noncomputable def Go:DSp:=fun ds G Q _=>∃s h l,∃cells:List Cl,ds=[seaD s,.ref l]∧SeaOk s h∧G l=some (.lst (cells.map cellD))∧cells.length≤63∧(∀x∈cells,InS s h x)∧
 ∀l2 (ms:List Cl),G l2=none→ms.Pairwise Aw→(∀x,x∈ms↔x∈cells∨∃y∈cells,x∈B8 s h y)→Q (.ref l2) (Ab G l2 (.lst (ms.map cellD)))
theorem Wd{f:Addr}{fd:FuncData}(F:Fun K "_law_round" "_law_round" s_L_round f fd)(T:Blt mg):FnOk P w K mg base CX0 1 f fd Cm (liftSp K Go):=by
 refine okD F sc_L_round (fun ds G Q E h=>?_) (fun cdv A outer s H XE ds G Q E hr h=>?_)
 ·obtain⟨_,_,_,_,rfl,_⟩:=h;rfl
 ·obtain⟨s,h,l,cells,rfl,ok,gl,hcl,hin,k⟩:=h;have hin':=hin;refine⟨_,#["d",#["j",2,sc_L_round.nd,#["aJ",(@c_dictT _ _ rfl hr),T,#["b",#["0",["_law_cell"],["_law_sea_here", "_law_cells", "_law_found", "_law_column", "_law_row", "_law_other"],#["a",1],#["R",0,nd_L_round_1],#["i",#["c",#["a",0],#["c",(@q_bl _ _ _ _),(@qa_nil _)]]]]]]],#["d",#["P",#["a",1],#["x",2,#["l",#["g",3,sc_L_round.nd],#["y",#["g",4,sc_L_round.nd]]]],#["f",#["P",#["w",#["c",#["i",#["c",#["S",#["a",3]],#["b",#["a",4]]]],#["c",#["i",#["c",#["G",#["a",3]],#["b",#["a",4]]]],#["c",#["i",#["c",#["a",3],#["b",#["S",#["a",4]]]]],#["b",#["i",#["c",#["a",3],#["b",#["G",#["a",4]]]]]]]]]],#["g",5,sc_L_round.nd],#["f",#["A",#["C",#["ae",(@qt_chain _ _ _ _ _ _ _ _ _ _ _ _ (@o_le _) (@o_lt _) (@q_int _ _ _ _) #["k",#["a",5]] #["p",T,#["b",#["a",0]]] (by with_unfolding_all rfl)),#["af",(@qt_chain _ _ _ _ _ _ _ _ _ _ _ _ (@o_le _) (@o_lt _) (@q_int _ _ _ _) #["k",#["a",5]] #["p",T,#["b",#["k",#["a",0]]]] (by with_unfolding_all rfl))]]],#["f",#["A",#["ag",#["v",#["v",#["a",0],#["k",#["a",5]]],#["k",#["a",5]]]],#["f",#["av",#["U",#["a",2],#["a",5],(@s_dictT _ _ hr)]]]]]]]]]],#["f",#["h",#["aw",T,#["b",#["a",2]]]]]]],?_⟩
  have sz2:=sz2;have sz4:4≤sizeLine:=szl (by decide)
  simp![Af gl];intro p hp;have hz:(cells.map cellD).length<sizeLine:=by rw[List.length_map];exact szm (by omega)
  refine B2 (fun d=>.tup [d,.bl true]) (fun _=>true) hz (fun _=>Af (Au gl hp)) (by decide) (fun x ys hx' hl R1 R2 g1 _=>?_) ?_
  ·simp![sz2,hl];exact Fg.of (g1 rfl)
  ·rw[E5,List.map_map];have pr:Ec (cells.map ((fun d=>D.tup [d,.bl true]) ∘ cellD))=some (cells.map fun c=>(Ar c,D.bl true)):=F5 cells;refine⟨p,rfl,_,Aa,_,pr,by rw[List.length_map];exact szm (by omega),fun p1 hp1=>?_⟩
   have mc:=F6 cells [];rw[List.map_nil] at mc;rw[mc,show GO.dct ((cells.foldl C7 []).map fun c=>(Ar c,D.bl true))=Bi (cells.foldl C7 []) from rfl];have hpG:G p1=none:=(Ep hp1).2;have sb:Sub G (Ab (Ab G p (.lst (cells.map ((fun d=>D.tup [d,.bl true]) ∘ cellD)))) p1 (Bi (cells.foldl C7 []))):=(Sub.new hp).trans (Sub.new hp1);have g1:Ab (Ab G p (.lst (cells.map ((fun d=>D.tup [d,.bl true]) ∘ cellD)))) p1 (Bi (cells.foldl C7 [])) p1=some (Bi (cells.foldl C7 [])):=Aa;generalize Ab (Ab G p (.lst (cells.map ((fun d=>D.tup [d,.bl true]) ∘ cellD)))) p1 (Bi (cells.foldl C7 []))=G1 at *;refine⟨_,Af (sb _ _ gl),?_⟩;refine Bn (OutR s h l p1 cells G)
    ⟨_,none,none,none,rfl,sb,g1,M3 cells [] List.nodup_nil,fun x=>by rw[Jq];simp⟩ ?_ ?_ ?_
   ·rintro i σ G2 _ ⟨rs,v3,v4,v5,rfl,sb2,_⟩;exact Af (sb2 _ _ gl)
   ·rintro i x σ G2 hx ⟨rs,v3,v4,v5,rfl,sb2,g2,hrl,hrm⟩;obtain⟨c,hc,rfl⟩:=D1 hx;have hi:i<cells.length:=(List.getElem?_eq_some_iff.mp hc).1;simp![cellD,sz2,sz4];rw[show [D.tup [.int (c.1-1),.int c.2],.tup [.int (c.1+1),.int c.2],.tup [.int c.1,.int (c.2-1)],.tup [.int c.1,.int (c.2+1)]]=(Ee c).map cellD from rfl];intro q hq;have npq:=gne g2 hq;have hqG:=sb2.none hq;refine⟨_,Af Aa,?_⟩;refine Bn (InR s h l p1 q c G rs)
     ⟨rs,_,rfl,sb2.trans (Sub.new hq),Au g2 hq,Aa,hrl,fun x=>by simp⟩ ?_ ?_ ?_
    ·rintro j σ G3 _ ⟨rs',v5,rfl,_,_,gq,_⟩;exact Af gq
    ·rintro j x σ G3 hx ⟨rs',v5,rfl,sb3,g3,gq3,hl3,hm3⟩;obtain⟨o,ho,rfl⟩:=D1 hx;have hj:j<4:=(List.getElem?_eq_some_iff.mp ho).1;have tk:(Ee c).take (j+1)=(Ee c).take j++[o]:=by rw[List.take_add_one,ho];rfl
     obtain⟨a0,hl⟩:=ok.head;have nw:wat s h o≠true→Fs (InR s h l p1 q c G rs (j+1)) [some (seaD s),some (.ref l),some (.ref p1),some (.int c.1),some (.int c.2),some (cellD o)] G3:=fun hn=>by
      refine Fs.of ⟨rs',_,rfl,sb3,g3,gq3,hl3,fun x=>?_⟩;rw[hm3,tk,List.mem_append,List.mem_singleton];constructor
      ·rintro(h|⟨h,h'⟩)
       ·exact .inl h
       ·exact .inr ⟨.inl h,h'⟩
      ·rintro(h|⟨h|h,h'⟩)
       ·exact .inl h
       ·exact .inr ⟨h,h'⟩
       ·subst h;exact absurd h' hn
     simp![Db,g3,Dc,Dd,C3,a0,Q4,hl,Q3]
     by_cases h1:0≤o.1
     ·refine it0 h1 ?_
      by_cases h2:o.1<s.length
      ·refine it0 h2 ?_
       by_cases h3:0≤o.2
       ·refine it0 h3 ?_
        by_cases h4:o.2<h
        ·refine it0 h4 ?_;have hin:InS s h o:=⟨h1,h2,h3,h4⟩;obtain⟨e1,e2,e3,e4⟩:=Ol ok hin;refine⟨_,e1,_,e2,_,rfl,?_⟩;have hwo:wat s h o=true↔0<Ej s o:=by
          unfold wat;simp only[Bool.and_eq_true,decide_eq_true_eq];exact⟨fun z=>by have:=z.2;omega,fun z=>⟨hin,by omega⟩⟩
         by_cases h5:0<Ej s o
         ·refine it0 h5 ⟨_,rfl,by rw[List.length_map];exact szm (by have:=C6 ok hl3 fun x hx=>((hm3 x).mp hx).elim (fun z=>((hrm x).mp z).elim (hin' x) fun⟨_,_,z⟩=>Gn z) fun z=>Eb z.2;omega),?_⟩
          rw[Fm];refine Fs.of ⟨C7 rs' o,_,rfl,Sub.over sb3 hpG _,Aa,by rw[Ac npq.symm];exact gq3,Qp hl3,fun x=>?_⟩
          rw[Mu,hm3,tk,List.mem_append,List.mem_singleton];constructor
          ·rintro((h|⟨h,h'⟩)|h)
           ·exact .inl h
           ·exact .inr ⟨.inl h,h'⟩
           ·subst h;exact .inr ⟨.inr rfl,hwo.mpr h5⟩
          ·rintro(h|⟨h|h,h'⟩)
           ·exact .inl (.inl h)
           ·exact .inl (.inr ⟨h,h'⟩)
           ·exact .inr h
         ·exact it1 h5 (nw fun z=>h5 (hwo.mp z))
        ·exact it1 h4 (nw fun z=>h4 (Eb z).2.2.2)
       ·exact it1 h3 (nw fun z=>h3 (Eb z).2.2.1)
      ·exact it1 h2 (nw fun z=>h2 (Eb z).2.1)
     ·exact it1 h1 (nw fun z=>h1 (Eb z).1)
    ·rintro σ G3 ⟨rs',v5,rfl,sb3,g3,gq3,hl3,hm3⟩;rw[List.length_map] at hm3;refine Fs.of ⟨rs',_,_,_,rfl,sb3,g3,hl3,fun x=>?_⟩;rw[hm3,List.take_length,hrm,List.take_add_one,hc,Option.toList_some,or_assoc];simp only[List.mem_append,List.mem_singleton,or_and_right,exists_or,exists_eq_left,Px]
   ·rintro σ G2 ⟨rs,v3,v4,v5,rfl,sb2,g2,hrl,hrm⟩;rw[List.length_map] at hrm;rw[List.take_length] at hrm;simp![];refine⟨rs.map fun x=>(x,D.bl true),by rw[g2,List.map_map];rfl,by rw[List.length_map];exact Nat.le_trans (Rz ok hrl hin hrm fun x ⟨_,_,z⟩=>Gn z) (by decide),fun k hk=>?_,fun l2 ms hl2 hm hpw=>?_⟩
    ·obtain⟨x,hx,rfl⟩:=List.mem_map.mp hk;have hin:InS s h x:=by
      rcases(hrm x).mp hx with hx|⟨y,_,hx⟩
      ·exact hin x hx
      ·exact Gn hx
     obtain⟨_,_,a3,a4⟩:=hin
     have:=ok.high
     exact⟨a3,by show x.2<1000;omega⟩
    ·have e1:(rs.map fun x=>(x,D.bl true)).map (·.1)=rs:=by rw[List.map_map];exact List.map_id _
     rw[e1] at hm;exact⟨_,Sub.upd sb2 _ _,k l2 ms (sb2.none hl2) hpw fun x=>by rw[hm.mem_iff,hrm]⟩
end
section
variable{P:Program}{w:World}{K:W.Frag}{mg:Str→Option Value}{base:Heap}{aD f0 f1 f2 f3 f4:Addr}
inductive Deed where
 |lay (m:Int) (c:Cl) (sh co si:Int) (lit:Bool)
 |lift (m:Int)
 |gale (g:Int)
 |seen (m:Int) (c:Cl)
 |depth (c:Cl) (d:Int)
 deriving DecidableEq
noncomputable def Deed.word:Deed→Str
 |.lay ..=>"lay"
 |.lift ..=>"lift"
 |.gale ..=>"gale"
 |.seen ..=>"seen"
 |.depth ..=>"depth"
noncomputable def Deed.parts:Deed→List D
 |.lay m c sh co si lit=>[.int m,cellD c,.int sh,.int co,.int si,.bl lit]
 |.lift m=>[.int m]
 |.gale g=>[.int g]
 |.seen m c=>[.int m,cellD c]
 |.depth c d=>[cellD c,.int d]
noncomputable def Gy(d:Deed):D:=.tup (.str d.word::d.parts)
structure Ntc where
 num:Int
 day:Int
 deed:Deed
 deriving DecidableEq
noncomputable def As(n:Ntc):D:=.tup [.int n.num,.int n.day,Gy n.deed]
noncomputable def C9(s:List (List Int))(h:Nat):Deed→Prop
 |.lay m c sh co si _=>(1≤m∧m≤12)∧InS s h c∧(0≤sh∧sh≤2)∧(0≤co∧co≤2)∧1≤si∧si≤9
 |.lift m=>1≤m∧m≤12
 |.gale g=>1≤g∧g≤9
 |.seen m c=>(1≤m∧m≤12)∧InS s h c
 |.depth c d=>InS s h c∧0≤d∧d≤9
structure NtcOk(s:List (List Int))(h:Nat)(n:Ntc):Prop where
 num:1≤n.num∧n.num≤99
 day:0≤n.day∧n.day≤400
 deed:C9 s h n.deed
structure NtsOk(s:List (List Int))(h:Nat)(ns:List Ntc):Prop where
 len:ns.length≤30
 ok:∀n∈ns,NtcOk s h n
 like:∀n∈ns,∀m∈ns,n.num=m.num→n=m
structure Sn(mg:Str→Option Value):Prop extends Nums mg where
 LAST_NUMBER:∃t,mg "LAST_NUMBER" = some (.int 99 t)
 LAST_MARK:∃t,mg "LAST_MARK" = some (.int 12 t)
 MOST_NOTICES:∃t,mg "MOST_NOTICES" = some (.int 30 t)
noncomputable abbrev Oy(f0 f1 f2 f3 f4:Addr):List (Key×D):=[(.inr "lay",.ref f0),(.inr "lift",.ref f1),(.inr "gale",.ref f2),(.inr "seen",.ref f3),(.inr "depth",.ref f4)]
structure Sd(P:Program)(w:World)(K:W.Frag)(mg:Str→Option Value)(aD f0 f1 f2 f3 f4:Addr):Prop extends Sn mg where
 DEEDS:mg "DEEDS" = some (.ref aD)
 K_DEEDS:KD P w K aD (Oy f0 f1 f2 f3 f4)
theorem Gv{lo hi i:Int}(h1:lo≤i)(h2:i≤hi):Co lo hi (.int i)=true:=by simp[Co,h1,h2]
noncomputable abbrev s_is_number:Stmt:=top 35
noncomputable abbrev N3:List Str:=["thing"]
noncomputable abbrev p_is_number:List Str:=["thing"]
theorem Lk:FnScope N3 p_is_number (defScope s_is_number):=⟨rfl,rfl,rfl,by decide +kernel,rfl,by decide +kernel,by decide +kernel⟩
theorem Sg{f:Addr}{fd:FuncData}(F:Fun K "is_number" "is_number" s_is_number f fd)(T:Sn mg)(Ahz:Def P w K mg base CX0 1 "is_whole_within" Ae Bb):FnOk P w K mg base CX0 2 f fd p_is_number (liftSp K (spIn 1 99)):=by
 refine okD F Lk (fun ds G Q E h=>?_) (fun cdv A outer s H XE ds G Q E hr h=>?_)
 ·obtain⟨_,rfl,_⟩:=h;rfl
 ·obtain⟨i,rfl,h1,h2,k⟩:=h;refine⟨_,#["f",#["h",#["e",Ahz,hr,#["c",#["a",0],#["o",#["b",#["E",T.LAST_NUMBER]]]]]]],?_⟩;simp![];exact⟨_,_,_,rfl,⟨_,rfl⟩,by rw[Gv h1 h2];exact Fq.of k⟩
noncomputable abbrev s_is_mark:Stmt:=top 36
noncomputable abbrev Ts:List Str:=["thing"]
noncomputable abbrev p_is_mark:List Str:=["thing"]
theorem O5:FnScope Ts p_is_mark (defScope s_is_mark):=⟨rfl,rfl,rfl,by decide +kernel,rfl,by decide +kernel,by decide +kernel⟩
theorem Y7{f:Addr}{fd:FuncData}(F:Fun K "is_mark" "is_mark" s_is_mark f fd)(T:Sn mg)(Ahz:Def P w K mg base CX0 1 "is_whole_within" Ae Bb):FnOk P w K mg base CX0 2 f fd p_is_mark (liftSp K (spIn 1 12)):=by
 refine okD F O5 (fun ds G Q E h=>?_) (fun cdv A outer s H XE ds G Q E hr h=>?_)
 ·obtain⟨_,rfl,_⟩:=h;rfl
 ·obtain⟨i,rfl,h1,h2,k⟩:=h;refine⟨_,#["f",#["h",#["e",Ahz,hr,#["c",#["a",0],#["o",#["b",#["E",T.LAST_MARK]]]]]]],?_⟩;simp![];exact⟨_,_,_,rfl,⟨_,rfl⟩,by rw[Gv h1 h2];exact Fq.of k⟩
noncomputable abbrev s_is_shape:Stmt:=top 37
noncomputable abbrev P0:List Str:=["thing"]
noncomputable abbrev p_is_shape:List Str:=["thing"]
theorem Ni:FnScope P0 p_is_shape (defScope s_is_shape):=⟨rfl,rfl,rfl,by decide +kernel,rfl,by decide +kernel,by decide +kernel⟩
theorem Wc{f:Addr}{fd:FuncData}(F:Fun K "is_shape" "is_shape" s_is_shape f fd)(T:Sn mg)(Ahz:Def P w K mg base CX0 1 "is_whole_within" Ae Bb):FnOk P w K mg base CX0 2 f fd p_is_shape (liftSp K (spIn 0 2)):=by
 refine okD F Ni (fun ds G Q E h=>?_) (fun cdv A outer s H XE ds G Q E hr h=>?_)
 ·obtain⟨_,rfl,_⟩:=h;rfl
 ·obtain⟨i,rfl,h1,h2,k⟩:=h;refine⟨_,#["f",#["h",#["e",Ahz,hr,#["5",#["a",0]]]]],?_⟩;simp![];exact⟨_,_,_,rfl,⟨_,rfl⟩,by rw[Gv h1 h2];exact Fq.of k⟩
noncomputable abbrev s_is_colour:Stmt:=top 38
noncomputable abbrev N6:List Str:=["thing"]
noncomputable abbrev p_is_colour:List Str:=["thing"]
theorem Lm:FnScope N6 p_is_colour (defScope s_is_colour):=⟨rfl,rfl,rfl,by decide +kernel,rfl,by decide +kernel,by decide +kernel⟩
theorem Sm{f:Addr}{fd:FuncData}(F:Fun K "is_colour" "is_colour" s_is_colour f fd)(T:Sn mg)(Ahz:Def P w K mg base CX0 1 "is_whole_within" Ae Bb):FnOk P w K mg base CX0 2 f fd p_is_colour (liftSp K (spIn 0 2)):=by
 refine okD F Lm (fun ds G Q E h=>?_) (fun cdv A outer s H XE ds G Q E hr h=>?_)
 ·obtain⟨_,rfl,_⟩:=h;rfl
 ·obtain⟨i,rfl,h1,h2,k⟩:=h;refine⟨_,#["f",#["h",#["e",Ahz,hr,#["5",#["a",0]]]]],?_⟩;simp![];exact⟨_,_,_,rfl,⟨_,rfl⟩,by rw[Gv h1 h2];exact Fq.of k⟩
noncomputable abbrev s_is_sinker:Stmt:=top 39
noncomputable abbrev N2:List Str:=["thing"]
noncomputable abbrev p_is_sinker:List Str:=["thing"]
theorem Lj:FnScope N2 p_is_sinker (defScope s_is_sinker):=⟨rfl,rfl,rfl,by decide +kernel,rfl,by decide +kernel,by decide +kernel⟩
theorem Sf{f:Addr}{fd:FuncData}(F:Fun K "is_sinker" "is_sinker" s_is_sinker f fd)(T:Sn mg)(Ahz:Def P w K mg base CX0 1 "is_whole_within" Ae Bb):FnOk P w K mg base CX0 2 f fd p_is_sinker (liftSp K (spIn 1 9)):=by
 refine okD F Lj (fun ds G Q E h=>?_) (fun cdv A outer s H XE ds G Q E hr h=>?_)
 ·obtain⟨_,rfl,_⟩:=h;rfl
 ·obtain⟨i,rfl,h1,h2,k⟩:=h;refine⟨_,#["f",#["h",#["e",Ahz,hr,#["5",#["a",0]]]]],?_⟩;simp![];exact⟨_,_,_,rfl,⟨_,rfl⟩,by rw[Gv h1 h2];exact Fq.of k⟩
noncomputable abbrev s_is_strength:Stmt:=top 40
noncomputable abbrev Jb:List Str:=["thing"]
noncomputable abbrev p_is_strength:List Str:=["thing"]
theorem Ic:FnScope Jb p_is_strength (defScope s_is_strength):=⟨rfl,rfl,rfl,by decide +kernel,rfl,by decide +kernel,by decide +kernel⟩
theorem Nl{f:Addr}{fd:FuncData}(F:Fun K "is_strength" "is_strength" s_is_strength f fd)(T:Sn mg)(Ahz:Def P w K mg base CX0 1 "is_whole_within" Ae Bb):FnOk P w K mg base CX0 2 f fd p_is_strength (liftSp K (spIn 1 9)):=by
 refine okD F Ic (fun ds G Q E h=>?_) (fun cdv A outer s H XE ds G Q E hr h=>?_)
 ·obtain⟨_,rfl,_⟩:=h;rfl
 ·obtain⟨i,rfl,h1,h2,k⟩:=h;refine⟨_,#["f",#["h",#["e",Ahz,hr,#["5",#["a",0]]]]],?_⟩;simp![];exact⟨_,_,_,rfl,⟨_,rfl⟩,by rw[Gv h1 h2];exact Fq.of k⟩
theorem Abj{xs:List D}{x:D}:Ct (x::xs) (some 1) none=xs:=by
 simp[Ct,HT.sIx]
noncomputable def spParts(x:Str):DSp:=fun ds G Q _=>∃s h d,ds=[seaD s,.tup d.parts]∧SeaOk s h∧C9 s h d∧d.word=x∧Q (.bl true) G
theorem Kz{G:Gp}{s:List (List Int)}{h:Nat}{c:Cl}{Q:DK}{E:DX}(ok:SeaOk s h)(hc:InS s h c)(q:Q (.bl true) G):spCell [seaD s,cellD c] G Q E:=⟨s,h,c,rfl,ok,by rw[decide_eq_true hc];exact q⟩
noncomputable abbrev s_lays:Stmt:=top 41
noncomputable abbrev Aeu:List Str:=["sea", "parts", "mark", "cell", "shape", "colour", "sinker", "lit"]
noncomputable abbrev p_lays:List Str:=["sea", "parts"]
theorem sc_lays:FnScope Aeu p_lays (defScope s_lays):=⟨rfl,rfl,rfl,by decide +kernel,rfl,by decide +kernel,by decide +kernel⟩
theorem Zb{f:Addr}{fd:FuncData}(F:Fun K "lays" "lays" s_lays f fd)(T:Sn mg)(Ah3:Def P w K mg base CX0 2 "is_mark" p_is_mark (spIn 1 12))(Ah1:Def P w K mg base CX0 2 "is_cell" p_is_cell spCell)(Ain:Def P w K mg base CX0 2 "is_shape" p_is_shape (spIn 0 2))(Aio:Def P w K mg base CX0 2 "is_colour" p_is_colour (spIn 0 2))(Aip:Def P w K mg base CX0 2 "is_sinker" p_is_sinker (spIn 1 9)):FnOk P w K mg base CX0 3 f fd p_lays (liftSp K (spParts "lay")):=by
 refine okD F sc_lays (fun ds G Q E h=>?_) (fun cdv A outer s H XE ds G Q E hr h=>?_)
 ·obtain⟨_,_,_,rfl,_⟩:=h;rfl
 ·obtain⟨sa,h,d,rfl,ok,dok,dw,k⟩:=h;refine⟨_,#["d",#["q",#["ad",#["p",T,#["b",#["a",1]]]]],#["d",#["s",#["a",1],#["x",6,#["l",#["g",2,sc_lays.nd],#["l",#["g",3,sc_lays.nd],#["l",#["g",4,sc_lays.nd],#["l",#["g",5,sc_lays.nd],#["l",#["g",6,sc_lays.nd],#["y",#["g",7,sc_lays.nd]]]]]]]]],#["d",#["q",#["C",#["I",#["n",#["m",#["e",Ah3,hr,#["b",#["a",2]]]]],#["J",#["n",#["m",#["e",Ah1,hr,#["c",#["a",0],#["b",#["a",3]]]]]]]]]],#["f",#["h",#["z",#["e",Ain,hr,#["b",#["a",4]]],#["z",#["e",Aio,hr,#["b",#["a",5]]],#["z",#["e",Aip,hr,#["b",#["a",6]]],#["O",#["K",T,#["c",#["a",7],#["b",#["L","bool",T]]]]]]]]]]]]],?_⟩;cases d with
  |lay m c sh co si lit=>
   obtain⟨⟨m1,m2⟩,hc,⟨s1,s2⟩,⟨c1,c2⟩,i1,i2⟩:=dok;simp![Deed.parts];refine it1 (by decide) ⟨m,rfl,m1,m2,true,rfl,it1 (by decide) (Kz ok hc ⟨true,rfl,it1 (by decide) ⟨sh,rfl,s1,s2,true,rfl,it0 rfl ⟨co,rfl,c1,c2,true,rfl,it0 rfl ⟨si,rfl,i1,i2,true,rfl,it0 rfl (Fq.of k)⟩⟩⟩⟩)⟩
  |_=>exact absurd dw (by simp only[Deed.word];decide)
noncomputable abbrev s_lifts:Stmt:=top 42
noncomputable abbrev Z9:List Str:=["sea", "parts"]
noncomputable abbrev p_lifts:List Str:=["sea", "parts"]
theorem U9:FnScope Z9 p_lifts (defScope s_lifts):=⟨rfl,rfl,rfl,by decide +kernel,rfl,by decide +kernel,by decide +kernel⟩
theorem Wf{f:Addr}{fd:FuncData}(F:Fun K "lifts" "lifts" s_lifts f fd)(T:Sn mg)(Ah3:Def P w K mg base CX0 2 "is_mark" p_is_mark (spIn 1 12)):FnOk P w K mg base CX0 3 f fd p_lifts (liftSp K (spParts "lift")):=by
 refine okD F U9 (fun ds G Q E h=>?_) (fun cdv A outer s H XE ds G Q E hr h=>?_)
 ·obtain⟨_,_,_,rfl,_⟩:=h;rfl
 ·obtain⟨sa,h,d,rfl,ok,dok,dw,k⟩:=h;refine⟨_,#["f",#["h",#["z",#["X",#["p",T,#["b",#["a",1]]]],#["O",#["e",Ah3,hr,#["b",#["k",#["a",1]]]]]]]],?_⟩;cases d with
  |lift m=>
   simp![Deed.parts];exact it0 (by decide) ⟨m,rfl,dok.1,dok.2,Fq.of k⟩
  |_=>exact absurd dw (by simp only[Deed.word];decide)
noncomputable abbrev s_blows:Stmt:=top 43
noncomputable abbrev Aab:List Str:=["sea", "parts"]
noncomputable abbrev p_blows:List Str:=["sea", "parts"]
theorem Va:FnScope Aab p_blows (defScope s_blows):=⟨rfl,rfl,rfl,by decide +kernel,rfl,by decide +kernel,by decide +kernel⟩
theorem Wi{f:Addr}{fd:FuncData}(F:Fun K "blows" "blows" s_blows f fd)(T:Sn mg)(Aiq:Def P w K mg base CX0 2 "is_strength" p_is_strength (spIn 1 9)):FnOk P w K mg base CX0 3 f fd p_blows (liftSp K (spParts "gale")):=by
 refine okD F Va (fun ds G Q E h=>?_) (fun cdv A outer s H XE ds G Q E hr h=>?_)
 ·obtain⟨_,_,_,rfl,_⟩:=h;rfl
 ·obtain⟨sa,h,d,rfl,ok,dok,dw,k⟩:=h;refine⟨_,#["f",#["h",#["z",#["X",#["p",T,#["b",#["a",1]]]],#["O",#["e",Aiq,hr,#["b",#["k",#["a",1]]]]]]]],?_⟩;cases d with
  |gale m=>
   simp![Deed.parts];exact it0 (by decide) ⟨m,rfl,dok.1,dok.2,Fq.of k⟩
  |_=>exact absurd dw (by simp only[Deed.word];decide)
noncomputable abbrev s_sees:Stmt:=top 44
noncomputable abbrev Aes:List Str:=["sea", "parts"]
noncomputable abbrev p_sees:List Str:=["sea", "parts"]
theorem Ya:FnScope Aes p_sees (defScope s_sees):=⟨rfl,rfl,rfl,by decide +kernel,rfl,by decide +kernel,by decide +kernel⟩
theorem Y4{f:Addr}{fd:FuncData}(F:Fun K "sees" "sees" s_sees f fd)(T:Sn mg)(Ah3:Def P w K mg base CX0 2 "is_mark" p_is_mark (spIn 1 12))(Ah1:Def P w K mg base CX0 2 "is_cell" p_is_cell spCell):FnOk P w K mg base CX0 3 f fd p_sees (liftSp K (spParts "seen")):=by
 refine okD F Ya (fun ds G Q E h=>?_) (fun cdv A outer s H XE ds G Q E hr h=>?_)
 ·obtain⟨_,_,_,rfl,_⟩:=h;rfl
 ·obtain⟨sa,h,d,rfl,ok,dok,dw,k⟩:=h;refine⟨_,#["f",#["h",#["z",#["X",#["p",T,#["b",#["a",1]]]],#["z",#["e",Ah3,hr,#["b",#["k",#["a",1]]]],#["O",#["e",Ah1,hr,#["c",#["a",0],#["b",#["k",#["a",1]]]]]]]]]],?_⟩;cases d with
  |seen m c=>
   obtain⟨⟨m1,m2⟩,hc⟩:=dok;simp![Deed.parts];exact it0 (by decide) ⟨m,rfl,m1,m2,true,rfl,it0 rfl (Kz ok hc (Fq.of k))⟩
  |_=>exact absurd dw (by simp only[Deed.word];decide)
noncomputable abbrev s_deepens:Stmt:=top 45
noncomputable abbrev Tv:List Str:=["sea", "parts"]
noncomputable abbrev p_deepens:List Str:=["sea", "parts"]
theorem O6:FnScope Tv p_deepens (defScope s_deepens):=⟨rfl,rfl,rfl,by decide +kernel,rfl,by decide +kernel,by decide +kernel⟩
theorem Pd{f:Addr}{fd:FuncData}(F:Fun K "deepens" "deepens" s_deepens f fd)(T:Sn mg)(Ah1:Def P w K mg base CX0 2 "is_cell" p_is_cell spCell)(Ah6:Def P w K mg base CX0 2 "is_depth" p_is_depth (spIn 0 9)):FnOk P w K mg base CX0 3 f fd p_deepens (liftSp K (spParts "depth")):=by
 refine okD F O6 (fun ds G Q E h=>?_) (fun cdv A outer s H XE ds G Q E hr h=>?_)
 ·obtain⟨_,_,_,rfl,_⟩:=h;rfl
 ·obtain⟨sa,h,d,rfl,ok,dok,dw,k⟩:=h;refine⟨_,#["f",#["h",#["z",#["X",#["p",T,#["b",#["a",1]]]],#["z",#["e",Ah1,hr,#["c",#["a",0],#["b",#["k",#["a",1]]]]],#["O",#["e",Ah6,hr,#["b",#["k",#["a",1]]]]]]]]],?_⟩;cases d with
  |depth c d=>
   obtain⟨hc,d1,d2⟩:=dok;simp![Deed.parts];exact it0 (by decide) (Kz ok hc ⟨true,rfl,it0 rfl ⟨d,rfl,d1,d2,Fq.of k⟩⟩)
  |_=>exact absurd dw (by simp only[Deed.word];decide)
noncomputable def Lh(f0 f1 f2 f3 f4:Addr)(f:Addr)(sp:DSp):Prop:=(f=f0∧sp=spParts "lay")∨(f=f1∧sp=spParts "lift")∨(f=f2∧sp=spParts "gale")∨(f=f3∧sp=spParts "seen")∨(f=f4∧sp=spParts "depth")
theorem Zt(d:Deed):∃f sp,A1 (Oy f0 f1 f2 f3 f4) (.inr d.word)=some (.ref f)∧Lh f0 f1 f2 f3 f4 f sp∧sp=spParts d.word:=by
 cases d with
 |lay=>exact⟨f0,_,rfl,.inl ⟨rfl,rfl⟩,rfl⟩
 |lift=>exact⟨f1,_,rfl,.inr (.inl ⟨rfl,rfl⟩),rfl⟩
 |gale=>exact⟨f2,_,rfl,.inr (.inr (.inl ⟨rfl,rfl⟩)),rfl⟩
 |seen=>exact⟨f3,_,rfl,.inr (.inr (.inr (.inl ⟨rfl,rfl⟩))),rfl⟩
 |depth=>exact⟨f4,_,rfl,.inr (.inr (.inr (.inr ⟨rfl,rfl⟩))),rfl⟩
noncomputable abbrev s_is_deed:Stmt:=top 47
noncomputable abbrev Tt:List Str:=["sea", "thing", "word", "are_parts"]
noncomputable abbrev Ck:List Str:=["sea", "thing"]
theorem sc_is_deed:FnScope Tt Ck (defScope s_is_deed):=⟨rfl,rfl,rfl,by decide +kernel,rfl,by decide +kernel,by decide +kernel⟩
noncomputable def Oi:DSp:=fun ds G Q _=>∃s h d,ds=[seaD s,Gy d]∧SeaOk s h∧C9 s h d∧Q (.bl true) G
theorem Ze{f:Addr}{fd:FuncData}(F:Fun K "is_deed" "is_deed" s_is_deed f fd)(T:Sd P w K mg aD f0 f1 f2 f3 f4)(V_are_parts:∀f sp,Lh f0 f1 f2 f3 f4 f sp→FnV P w K mg base CX0 3 f sp):FnOk P w K mg base CX0 4 f fd Ck (liftSp K Oi):=by
 refine okD F sc_is_deed (fun ds G Q E h=>?_) (fun cdv A outer s H XE ds G Q E hr h=>?_)
 ·obtain⟨_,_,_,rfl,_⟩:=h;rfl
 ·obtain⟨sa,h,d,rfl,ok,dok,k⟩:=h;refine⟨_,#["d",#["q",#["C",#["I",#["n",#["m",#["K",T,#["c",#["a",1],#["b",#["L","tuple",T]]]]]],#["J",#["n",#["m",#["a",1]]]]]]],#["d",#["j",2,sc_is_deed.nd,#["k",#["a",1]]],#["d",#["q",#["C",#["I",#["n",#["m",#["K",T,#["c",#["a",2],#["b",#["L","str",T]]]]]],#["J",(@qt_cmp _ _ _ _ _ _ _ _ (@o_mnotin _ _ _ T.K_DEEDS) #["a",2] #["ah",T.DEEDS] (by with_unfolding_all rfl))]]]],#["d",#["j",3,sc_is_deed.nd,#["ay",T.K_DEEDS,#["ah",T.DEEDS],#["a",2]]],#["f",#["h",#["az",3,V_are_parts,hr,#["c",#["a",0],#["b",#["aA",#["a",1]]]]]]]]]]],?_⟩
  obtain⟨f5,sp,hv,hp,es⟩:=Zt (f0:=f0) (f1:=f1) (f2:=f2) (f3:=f3) (f4:=f4) d;simp![Gy];refine⟨true,rfl,it1 (by decide) ⟨true,rfl,it1 (by decide) ⟨by decide,true,rfl,it1 (by decide) (it1 (by rw[hv];simp) ⟨_,hv,f5,rfl,sp,hp,?_⟩)⟩⟩⟩
  rw[es,Abj];exact⟨sa,h,d,rfl,ok,dok,rfl,Fq.of k⟩
noncomputable abbrev s_is_notice:Stmt:=top 48
noncomputable abbrev N4:List Str:=["sea", "thing", "number", "day", "deed"]
noncomputable abbrev Bu:List Str:=["sea", "thing"]
theorem sc_is_notice:FnScope N4 Bu (defScope s_is_notice):=⟨rfl,rfl,rfl,by decide +kernel,rfl,by decide +kernel,by decide +kernel⟩
noncomputable def Hj:DSp:=fun ds G Q _=>∃s h n,ds=[seaD s,As n]∧SeaOk s h∧NtcOk s h n∧Q (.bl true) G
theorem Sh{f:Addr}{fd:FuncData}(F:Fun K "is_notice" "is_notice" s_is_notice f fd)(T:Sn mg)(Air:Def P w K mg base CX0 2 "is_number" p_is_number (spIn 1 99))(Ah7:Def P w K mg base CX0 2 "is_day" p_is_day (spIn 0 400))(Ais:Def P w K mg base CX0 4 "is_deed" Ck Oi):FnOk P w K mg base CX0 5 f fd Bu (liftSp K Hj):=by
 refine okD F sc_is_notice (fun ds G Q E h=>?_) (fun cdv A outer s H XE ds G Q E hr h=>?_)
 ·obtain⟨_,_,_,rfl,_⟩:=h;rfl
 ·obtain⟨sa,h,n,rfl,ok,nok,k⟩:=h;refine⟨_,#["d",#["q",#["C",#["I",#["n",#["m",#["K",T,#["c",#["a",1],#["b",#["L","tuple",T]]]]]],#["J",#["ad",#["p",T,#["b",#["a",1]]]]]]]],#["d",#["s",#["a",1],#["x",3,#["l",#["g",2,sc_is_notice.nd],#["l",#["g",3,sc_is_notice.nd],#["y",#["g",4,sc_is_notice.nd]]]]]],#["f",#["h",#["z",#["e",Air,hr,#["b",#["a",2]]],#["z",#["e",Ah7,hr,#["b",#["a",3]]],#["O",#["e",Ais,hr,#["c",#["a",0],#["b",#["a",4]]]]]]]]]]],?_⟩;simp![As];exact⟨true,rfl,it1 (by decide) (it1 (by decide) ⟨_,rfl,nok.num.1,nok.num.2,true,rfl,it0 rfl ⟨_,rfl,nok.day.1,nok.day.2,true,rfl,it0 rfl ⟨sa,h,n.deed,rfl,ok,nok.deed,Fq.of k⟩⟩⟩)⟩
noncomputable def C8:Deed→List PyData
 |.lay m c sh co si lit=>[.int m,Av c,.int sh,.int co,.int si,.bool lit]
 |.lift m=>[.int m]
 |.gale g=>[.int g]
 |.seen m c=>[.int m,Av c]
 |.depth c d=>[Av c,.int d]
noncomputable def Oc(n:Ntc):PyData:=.tuple [.int n.num,.int n.day,.tuple (.str n.deed.word::C8 n.deed)]
theorem R0{G:Gp}:∀d:Deed,RepDs G d.parts (C8 d)
 |.lay ..=>.cons (.int _) (.cons Cb (.cons (.int _) (.cons (.int _) (.cons (.int _) (.cons (.bl _) .nil)))))
 |.lift _=>.cons (.int _) .nil
 |.gale _=>.cons (.int _) .nil
 |.seen ..=>.cons (.int _) (.cons Cb .nil)
 |.depth ..=>.cons Cb (.cons (.int _) .nil)
theorem Qj{G:Gp}{n:Ntc}:RepD G (As n) (Oc n):=.tup (.cons (.int _) (.cons (.int _) (.cons (.tup (.cons (.str _) (R0 _))) .nil)))
theorem U3(d:Deed):PyData.canLay0 (.str d.word)=true:=by
 have h:∀x∈([Str.ofString "lay", "lift", "gale", "seen", "depth"]:List Str),PyData.canLay0 (.str x)=true:=by decide +kernel
 exact h _ (by cases d<;>simp[Deed.word])
theorem R9(d:Deed):PyData.canLayAll0 (C8 d)=true:=by cases d<;>rfl
theorem Qy(n:Ntc):(Oc n).canLay0=true:=by
 show(true&&(true&&((PyData.canLay0 (.str n.deed.word)&&PyData.canLayAll0 (C8 n.deed))&&true)))=true;rw[U3,R9];rfl
theorem Sb(d:Deed):PyData.depthAll (C8 d)≤2:=by cases d<;>simp[C8,PyData.depthAll,PyData.depth,Av]
theorem Zk(n:Ntc):(Oc n).depth≤5:=by
 have:=Sb n.deed
 simp only[Oc,PyData.depth,PyData.depthAll];omega
theorem W0(c:Cl):PyData.eqv (Av c) (Av c)=true:=by simp[Av,PyData.eqv,PyData.eqvAll]
theorem Sa(d:Deed):PyData.eqvAll (C8 d) (C8 d)=true:=by cases d<;>simp[C8,PyData.eqvAll,PyData.eqv,W0]
theorem Zj(n:Ntc):PyData.eqv (Oc n) (Oc n)=true:=by simp[Oc,PyData.eqv,PyData.eqvAll,Sa]
theorem Ut{G:Gp}{n:Ntc}{Q:DK}(q:Q (.bl false) G):Oe (As n) (As n) G Q:=⟨_,_,Qj,Qj,Qy n,Qy n,Nat.le_trans (Nat.min_le_left _ _) (Nat.le_trans (Zk n) (by decide)),by rw[Zj];exact q⟩
theorem Vp{kvs:List (Key×D)}{k:Key}{d:D}:(Cg kvs k d).length≤kvs.length+1:=by
 unfold Cg;split<;>simp
theorem Ca{p:Key×D}{r:List (Key×D)}{k:Key}:A1 (p::r) k=if p.1=k then some p.2 else A1 r k:=by
 unfold A1;rw[List.find?_cons]
 by_cases h:p.1=k
 ·simp[h]
 ·simp[h]
theorem Xq{l r:List (Key×D)}{k:Key}:A1 (l++r) k=match A1 l k with|some d=>some d|none=>A1 r k:=by
 induction l with
 |nil=>rfl
 |cons p l ih=>
  rw[List.cons_append,Ca,Ca]
  by_cases h:p.1=k
  ·rw[if_pos h,if_pos h]
  ·rw[if_neg h,if_neg h,ih]
theorem U5{kvs:List (Key×D)}{k:Key}(h:(kvs.any fun kv=>decide (kv.1=k))=false):A1 kvs k=none:=by
 unfold A1;rw[List.find?_eq_none.mpr fun x hx=>by have:=List.any_eq_false.mp h x hx;simpa using this];rfl
theorem Xp{kvs:List (Key×D)}{k k':Key}{d:D}:A1 (Cg kvs k d) k'=if k'=k then some d else A1 kvs k':=by
 unfold Cg
 by_cases ha:(kvs.any fun kv=>decide (kv.1=k))=true
 ·rw[if_pos ha]
  induction kvs with
  |nil=>cases ha
  |cons p r ih=>
   rw[List.map_cons,Ca,Ca]
   by_cases hp:p.1=k
   ·rw[if_pos hp]
    by_cases hk:k'=k
    ·rw[if_pos hk,if_pos (hp.trans hk.symm)]
    ·rw[if_neg hk,if_neg (fun z=>hk (z.symm.trans hp)),if_neg (fun z=>hk (z.symm.trans hp))];have key:∀r:List (Key×D),A1 (r.map fun kv=>if kv.1=k then (kv.1,d) else kv) k'=A1 r k':=fun r=>by
      induction r with
      |nil=>rfl
      |cons q r ih=>
       rw[List.map_cons,Ca,Ca,ih]
       by_cases hq:q.1=k
       ·rw[if_pos hq,if_neg (fun z=>hk (z.symm.trans hq)),if_neg (fun z=>hk (z.symm.trans hq))]
       ·rw[if_neg hq]
     exact key r
   ·rw[if_neg hp];have ha':(r.any fun kv=>decide (kv.1=k))=true:=by simpa[List.any_cons,hp] using ha
    rw[ih ha']
    by_cases hk:k'=k
    ·subst hk;simp[hp]
    ·simp[hk]
 ·rw[if_neg ha,Xq];have hn:=U5 (Bool.eq_false_iff.mpr ha)
  by_cases hk:k'=k
  ·rw[if_pos hk,hk,hn,Ca,if_pos rfl]
  ·rw[if_neg hk];cases A1 kvs k' with
   |some x=>rfl
   |none=>show A1 [(k,d)] k'=none;rw[Ca,if_neg (fun z=>hk z.symm)];rfl
noncomputable abbrev s_are_notices:Stmt:=top 49
noncomputable abbrev Jc:List Str:=["sea", "thing", "by_number", "notice"]
noncomputable abbrev Bg:List Str:=["sea", "thing"]
theorem sc_are_notices:FnScope Jc Bg (defScope s_are_notices):=⟨rfl,rfl,rfl,by decide +kernel,rfl,by decide +kernel,by decide +kernel⟩
noncomputable def T5:DSp:=fun ds G Q _=>∃s h p ns,ds=[seaD s,.ref p]∧SeaOk s h∧G p=some (.lst (ns.map As))∧NtsOk s h ns∧Q (.bl true) G
theorem Pb{f:Addr}{fd:FuncData}(F:Fun K "are_notices" "are_notices" s_are_notices f fd)(T:Sn mg)(Ah8:Def P w K mg base CX0 5 "check_sea" p_check_sea spCheckSea)(Ait:Def P w K mg base CX0 5 "is_notice" Bu Hj):FnOk P w K mg base CX0 6 f fd Bg (liftSp K T5):=by
 refine okD F sc_are_notices (fun ds G Q E h=>?_) (fun cdv A outer s H XE ds G Q E hr h=>?_)
 ·obtain⟨_,_,_,_,rfl,_⟩:=h;rfl
 ·obtain⟨sa,h,p,ns,rfl,ok,hp,nok,k⟩:=h;refine⟨_,#["d",#["u",#["e",Ah8,hr,#["b",#["a",0]]]],#["d",#["q",#["C",#["I",#["n",#["m",#["K",T,#["c",#["a",1],#["b",#["L","list",T]]]]]],#["J",#["H",(@o_gt _),#["p",T,#["b",#["a",1]]],#["E",T.MOST_NOTICES]]]]]],#["d",#["aK",2,sc_are_notices.nd],#["T",#["P",#["a",1],#["g",3,sc_are_notices.nd],#["d",#["q",#["n",#["m",#["e",Ait,hr,#["c",#["a",0],#["b",#["a",3]]]]]]],#["f",#["q",#["H",#["Q",hr],#["aL",#["a",2],#["k",#["a",3]],#["a",3]],#["a",3]]]]]]]]]],?_⟩;have ty:Cf G (.ref p)=some "list":=by simp only[Cf,hp]
  have ln:Gc G (.ref p)=some (ns.map As).length:=Q5 hp;simp![];have nl:=nok.len;refine⟨sa,h,rfl,ok, "list",ty,true,rfl,it1 (by decide) ⟨_,ln,it1 (by rw[List.length_map];omega) fun p1 hp1=>⟨_,Af (Au hp hp1),?_⟩⟩⟩
  have np:p≠p1:=gne hp hp1;refine Bn (fun i σ G'=>∃v,σ=[some (seaD sa),some (.ref p),some (.ref p1),v]∧∃kvs,G'=Ab G p1 (.dkk kvs)∧kvs.length≤i∧∀k v,A1 kvs k=some v→∃n∈ns,k=.inl n.num∧v=As n) ⟨none,rfl,[],rfl,Nat.le_refl _,fun k v e=>by cases e⟩ (fun i σ G' _ ⟨_,_,kvs,e,_⟩=>by rw[e];exact Af (by rw[Ac np];exact hp)) ?_ ?_
  ·rintro i x σ G' hx ⟨v,rfl,kvs,rfl,hl,hk⟩;rw[List.getElem?_map] at hx;obtain⟨n,hn,rfl⟩:=Option.map_eq_some_iff.mp hx;have hi:i<ns.length:=(List.getElem?_eq_some_iff.mp hn).1;have hm:=List.mem_of_getElem? hn;have e0:∀G:Gp,Bh G (As n) 0=some (.int n.num):=fun _=>rfl;simp![e0];refine⟨sa,h,n,rfl,ok,nok.ok n hm,true,rfl,it1 (by decide) ⟨⟨_,Aa⟩,kvs,Aa,by rw[sizeLine_eq];omega,fun v ev=>?_,fun ev=>?_⟩⟩
   ·obtain⟨m,hmm,ek,rfl⟩:=hk _ _ ev;obtain rfl:n=m:=nok.like n hm m hmm (by injection ek)
    exact Ut ⟨false,rfl,it1 (by decide) (Fs.of ⟨_,rfl,kvs,rfl,by omega,hk⟩)⟩
   ·refine Ut ⟨false,rfl,it1 (by decide) (Fs.of ⟨_,rfl,Cg kvs (.inl n.num) (As n),by rw[Cz],by have:=Vp (kvs:=kvs) (k:=.inl n.num) (d:=As n);omega,fun k v e=>?_⟩)⟩
    rw[Xp] at e
    by_cases hkk:k=.inl n.num
    ·rw[if_pos hkk] at e;cases e;exact⟨n,hm,hkk,rfl⟩
    ·rw[if_neg hkk] at e;exact hk k v e
  ·rintro σ G' ⟨v,rfl,kvs,rfl,_⟩;simp![];exact⟨G,Sub.new hp1,k⟩
noncomputable abbrev s_check_notices:Stmt:=top 50
noncomputable abbrev Gm:List Str:=["sea", "thing"]
noncomputable abbrev p_check_notices:List Str:=["sea", "thing"]
theorem Fw:FnScope Gm p_check_notices (defScope s_check_notices):=⟨rfl,rfl,rfl,by decide +kernel,rfl,by decide +kernel,by decide +kernel⟩
noncomputable def spNtsC:DSp:=fun ds G Q _=>∃s h p ns,ds=[seaD s,.ref p]∧SeaOk s h∧G p=some (.lst (ns.map As))∧NtsOk s h ns∧Q .non G
theorem Ge{f:Addr}{fd:FuncData}(F:Fun K "check_notices" "check_notices" s_check_notices f fd)(T:Sn mg)(Aiu:Def P w K mg base CX0 6 "are_notices" Bg T5):FnOk P w K mg base CX0 7 f fd p_check_notices (liftSp K spNtsC):=by
 refine okD F Fw (fun ds G Q E h=>?_) (fun cdv A outer s H XE ds G Q E hr h=>?_)
 ·obtain⟨_,_,_,_,rfl,_⟩:=h;rfl
 ·obtain⟨sa,h,p,ns,rfl,ok,hp,nok,k⟩:=h;refine⟨_,#["f",#["ai",#["n",#["m",#["e",Aiu,hr,#["c",#["a",0],#["b",#["a",1]]]]]]]],?_⟩;simp![];exact⟨sa,h,p,ns,rfl,ok,hp,nok,true,rfl,it1 (by decide) (Fq.of k)⟩
noncomputable abbrev s_check_held:Stmt:=top 51
noncomputable abbrev L9:List Str:=["thing"]
noncomputable abbrev p_check_held:List Str:=["thing"]
theorem Ir:FnScope L9 p_check_held (defScope s_check_held):=⟨rfl,rfl,rfl,by decide +kernel,rfl,by decide +kernel,by decide +kernel⟩
theorem Zd{f:Addr}{fd:FuncData}(F:Fun K "check_held" "check_held" s_check_held f fd)(T:Sn mg)(Ahz:Def P w K mg base CX0 1 "is_whole_within" Ae Bb):FnOk P w K mg base CX0 2 f fd p_check_held (liftSp K (spChk 0 99)):=by
 refine okD F Ir (fun ds G Q E h=>?_) (fun cdv A outer s H XE ds G Q E hr h=>?_)
 ·obtain⟨_,rfl,_⟩:=h;rfl
 ·obtain⟨i,rfl,h1,h2,k⟩:=h;refine⟨_,#["f",#["ai",#["n",#["m",#["e",Ahz,hr,#["c",#["a",0],#["o",#["b",#["E",T.LAST_NUMBER]]]]]]]]],?_⟩;simp![];exact⟨_,_,_,rfl,⟨_,rfl⟩,true,by rw[Gv h1 h2];rfl,it1 (by decide) (Fq.of k)⟩
noncomputable abbrev s_check_mark:Stmt:=top 52
noncomputable abbrev L8:List Str:=["thing"]
noncomputable abbrev p_check_mark:List Str:=["thing"]
theorem Iq:FnScope L8 p_check_mark (defScope s_check_mark):=⟨rfl,rfl,rfl,by decide +kernel,rfl,by decide +kernel,by decide +kernel⟩
theorem Lr{f:Addr}{fd:FuncData}(F:Fun K "check_mark" "check_mark" s_check_mark f fd)(T:Sn mg)(Ah3:Def P w K mg base CX0 2 "is_mark" p_is_mark (spIn 1 12)):FnOk P w K mg base CX0 3 f fd p_check_mark (liftSp K (spChk 1 12)):=by
 refine okD F Iq (fun ds G Q E h=>?_) (fun cdv A outer s H XE ds G Q E hr h=>?_)
 ·obtain⟨_,rfl,_⟩:=h;rfl
 ·obtain⟨i,rfl,h1,h2,k⟩:=h;refine⟨_,#["f",#["ai",#["n",#["m",#["e",Ah3,hr,#["b",#["a",0]]]]]]],?_⟩;simp![];exact⟨i,rfl,h1,h2,true,rfl,it1 (by decide) (Fq.of k)⟩
end
section
variable{P:Program}{w:World}{K:W.Frag}{mg:Str→Option Value}{base:Heap}{C:Addr}
structure Bt where
 cell:Cl
 look:Int×Int×Bool
 x:Int
 deriving DecidableEq
structure Cht where
 sea:List (List Int)
 placed:List (Int×Bt)
 adrift:List (Int×Bt)
 undone:List Int
noncomputable def Qb(l:Int×Int×Bool):D:=.tup [.int l.1,.int l.2.1,.bl l.2.2]
noncomputable def btD(b:Bt):D:=.tup [cellD b.cell,Qb b.look,.int b.x]
noncomputable def plK(l:List (Int×Bt)):List (Key×D):=l.map fun p=>(.inl p.1,btD p.2)
noncomputable def getB(l:List (Int×Bt))(m:Int):Option Bt:=(l.find? fun p=>decide (p.1=m)).map (·.2)
noncomputable def B9(l:List (Int×Bt))(m:Int)(b:Bt):List (Int×Bt):=if (l.any fun p=>decide (p.1=m))=true then l.map (fun p=>if p.1=m then (p.1,b) else p) else l++[(m,b)]
noncomputable def A9(l:List (Int×Bt))(m:Int):List (Int×Bt):=l.filter fun p=>decide (p.1≠m)
theorem Ce{l:List (Int×Bt)}{m:Int}:A1 (plK l) (.inl m)=(getB l m).map btD:=by
 unfold A1 getB plK;rw[List.find?_map];have e:((fun kv:Key×D=>decide (kv.1=Sum.inl m)) ∘ fun p:Int×Bt=>((Sum.inl p.1:Key),btD p.2))=fun p=>decide (p.1=m):=by funext p;simp
 rw[e];cases l.find? fun p=>decide (p.1=m)<;>rfl
theorem Op{l:List (Int×Bt)}{m:Int}{b:Bt}:Cg (plK l) (.inl m) (btD b)=plK (B9 l m b):=by
 unfold Cg B9 plK;have e:((l.map fun p:Int×Bt=>((Sum.inl p.1:Key),btD p.2)).any fun kv=>decide (kv.1=Sum.inl m))=l.any fun p=>decide (p.1=m):=by
  rw[List.any_map];congr 1;funext p;simp
 rw[e]
 split
 ·rw[List.map_map,List.map_map];refine List.map_congr_left fun p _=>?_
  by_cases h:p.1=m
  ·simp[h]
  ·simp[h]
 ·simp
theorem K9{l:List (Int×Bt)}{m:Int}:Gx (plK l) (.inl m)=plK (A9 l m):=by
 unfold Gx A9 plK;rw[List.filter_map];congr 1;refine List.filter_congr fun p _=>?_;simp
theorem Hk{l:List (Int×Bt)}{m:Int}{b:Bt}:(B9 l m b).length≤l.length+1:=by
 unfold B9;split<;>simp
theorem M0{p:Int×Bt}{r:List (Int×Bt)}{m:Int}:getB (p::r) m=if p.1=m then some p.2 else getB r m:=by
 unfold getB;rw[List.find?_cons]
 by_cases h:p.1=m<;>simp[h]
theorem Q9{l:List (Int×Bt)}{m:Int}{b:Bt}(h:getB l m=some b):(m,b)∈l:=by
 unfold getB at h;obtain⟨p,hp,e⟩:=Option.map_eq_some_iff.mp h;have h1:=List.find?_some hp;have h2:=List.mem_of_find?_eq_some hp
 have:p.1=m:=by simpa using h1
 obtain⟨p1,p2⟩:=p;simp only at this e;subst this e;exact h2
theorem K4{l:List (Int×Bt)}{m:Int}{b:Bt}{p:Int×Bt}(h:p∈B9 l m b):p=(m,b)∨p∈l:=by
 unfold B9 at h
 split at h
 ·obtain⟨q,hq,e⟩:=List.mem_map.mp h
  by_cases hm:q.1=m
  ·rw[if_pos hm] at e;left;rw[←e,hm]
  ·rw[if_neg hm] at e;right;rw[←e];exact hq
 ·rcases List.mem_append.mp h with z|z
  ·exact .inr z
  ·exact .inl (List.mem_singleton.mp z)
theorem Vo{l:List (Int×Bt)}{m:Int}{b:Bt}(nd:(l.map (·.1)).Nodup):((B9 l m b).map (·.1)).Nodup:=by
 unfold B9
 split
 ·rw[List.map_map]
  have:((fun p:Int×Bt=>p.1) ∘ fun p=>if p.1=m then (p.1,b) else p)=fun p=>p.1:=by
   funext p;by_cases h:p.1=m<;>simp[h]
  rw[this];exact nd
 ·rename_i h;rw[List.map_append,List.nodup_append];refine⟨nd,by simp,fun a ha c hc=>?_⟩
  obtain⟨p,hp,rfl⟩:=List.mem_map.mp ha;have hc:c=m:=by simpa using hc
  intro e;exact h (List.any_eq_true.mpr ⟨p,hp,by simpa using e.trans hc⟩)
theorem Tb{l:List (Int×Bt)}{m:Int}(nd:(l.map (·.1)).Nodup):((A9 l m).map (·.1)).Nodup:=List.Pairwise.sublist (List.Sublist.map _ (List.filter_sublist ..)) nd
noncomputable def Ei(s:List (List Int))(c:Cl)(d:Int):List (List Int):=s.set c.1.toNat ((s.getD c.1.toNat []).set c.2.toNat d)
theorem Ug{s:List (List Int)}{h:Nat}{c:Cl}{d:Int}(ok:SeaOk s h)(hc:InS s h c)(d0:0≤d)(d9:d≤9):SeaOk (Ei s c d) h:=by
 obtain⟨x,y,rfl,hx,hy⟩:=hc.nat;refine⟨by rw[Ei,List.length_set];exact ok.wide,ok.high,fun q hq=>?_,by rw[Ei,List.length_set];exact ok.few⟩
 rcases List.mem_or_eq_of_mem_set hq with z|z
 ·exact ok.col q z
 ·obtain⟨h1,h2⟩:=ok.colD hx;rw[z];refine⟨by rw[List.length_set];exact h1,fun u hu=>?_⟩
  rcases List.mem_or_eq_of_mem_set hu with z|z
  ·exact h2 u z
  ·rw[z];exact⟨d0,d9⟩
theorem X7{s:List (List Int)}{c:Cl}{d:Int}:(Ei s c d).length=s.length:=List.length_set ..
theorem set_in{s:List (List Int)}{h:Nat}{c e:Cl}{d:Int}:InS (Ei s c d) h e↔InS s h e:=by unfold InS;rw[X7]
structure ChOk(h:Nat)(n:Nat)(day:Int)(ch:Cht):Prop where
 sea:SeaOk ch.sea h
 pc:∀p∈ch.placed,InS ch.sea h p.2.cell
 ac:∀p∈ch.adrift,InS ch.sea h p.2.cell∧0≤p.2.x∧p.2.x≤day
 pn:(ch.placed.map (·.1)).Nodup
 lpa:ch.placed.length+ch.adrift.length≤n
 lu:ch.undone.length≤n
theorem ChOk.lp{h n:Nat}{day:Int}{ch:Cht}(o:ChOk h n day ch):ch.placed.length≤n:=Nat.le_trans (Nat.le_add_right ..) o.lpa
theorem ChOk.la{h n:Nat}{day:Int}{ch:Cht}(o:ChOk h n day ch):ch.adrift.length≤n:=Nat.le_trans (Nat.le_add_left ..) o.lpa
theorem ChOk.later{h n m:Nat}{day dy:Int}{ch:Cht}(o:ChOk h n day ch)(hd:day≤dy)(hm:n≤m):ChOk h m dy ch:=⟨o.sea,o.pc,fun p hp=>⟨(o.ac p hp).1,(o.ac p hp).2.1,Int.le_trans (o.ac p hp).2.2 hd⟩,o.pn,Nat.le_trans o.lpa hm,Nat.le_trans o.lu hm⟩
structure ChAt(C:Addr)(G:Gp)(x a b c:Addr)(ch:Cht):Prop where
 gx:G x=some (.ins C [("sea",seaD ch.sea),("placed",.ref a),("adrift",.ref b),("undone",.ref c)])
 ga:G a=some (.dkk (plK ch.placed))
 gb:G b=some (.dkk (plK ch.adrift))
 gc:G c=some (.lst (ch.undone.map D.int))
 ne:a≠b
theorem ChAt.sub{C x a b c:Addr}{G G':Gp}{ch:Cht}(t:ChAt C G x a b c ch)(s:Sub G G'):ChAt C G' x a b c ch:=⟨s _ _ t.gx,s _ _ t.ga,s _ _ t.gb,s _ _ t.gc,t.ne⟩
noncomputable def Else(G G':Gp)(x a b c:Addr):Prop:=∀y o,y≠x→y≠a→y≠b→y≠c→G y=some o→G' y=some o
structure Sy(K:W.Frag)(mg:Str→Option Value)(C:Addr):Prop extends Sn mg where
 cls:Cls K C
 na_sea:NoAttr K C "sea"
 na_placed:NoAttr K C "placed"
 na_adrift:NoAttr K C "adrift"
 na_undone:NoAttr K C "undone"
 Chart:mg "Chart" = some (.ref C)
noncomputable abbrev s_is_ashore:Stmt:=top 55
noncomputable abbrev N7:List Str:=["chart", "mark"]
noncomputable abbrev p_is_ashore:List Str:=["chart", "mark"]
theorem Ln:FnScope N7 p_is_ashore (defScope s_is_ashore):=⟨rfl,rfl,rfl,by decide +kernel,rfl,by decide +kernel,by decide +kernel⟩
noncomputable def ashore(ch:Cht)(m:Int):Bool:=(getB ch.placed m).isNone&&(getB ch.adrift m).isNone
noncomputable def spAshore(C:Addr):DSp:=fun ds G Q _=>∃x a b c ch m,ds=[.ref x,.int m]∧ChAt C G x a b c ch∧Q (.bl (ashore ch m)) G
theorem Sw{f:Addr}{fd:FuncData}(F:Fun K "is_ashore" "is_ashore" s_is_ashore f fd)(T:Sy K mg C):FnOk P w K mg base CX0 1 f fd p_is_ashore (liftSp K (spAshore C)):=by
 refine okD F Ln (fun ds G Q E h=>?_) (fun cdv A outer s H XE ds G Q E hr h=>?_)
 ·obtain⟨_,_,_,_,_,_,rfl,_⟩:=h;rfl
 ·obtain⟨x,a,b,c,ch,m,rfl,ca,k⟩:=h;refine⟨_,#["f",#["h",#["z",(@q_cmp _ _ _ _ _ _ _ _ (@o_knotin _) #["a",1] #["r",T.cls,T.na_placed,#["a",0]] (by with_unfolding_all rfl)),#["O",(@q_cmp _ _ _ _ _ _ _ _ (@o_knotin _) #["a",1] #["r",T.cls,T.na_adrift,#["a",0]] (by with_unfolding_all rfl))]]]],?_⟩
  simp![];refine⟨_,ca.gx,_,rfl,a,rfl,_,ca.ga,?_⟩;rw[Ce];unfold ashore at k;cases hp:getB ch.placed m with
  |some y=>rw[hp] at k;exact it1 (by simp) (Fq.of k)
  |none=>
   rw[hp] at k;refine it0 (by rfl) ⟨_,ca.gx,_,rfl,b,rfl,_,ca.gb,?_⟩
   rw[Ce];cases hb:getB ch.adrift m with
   |some y=>rw[hb] at k;exact Fq.of k
   |none=>rw[hb] at k;exact Fq.of k
noncomputable abbrev s_cells_adrift:Stmt:=top 56
noncomputable abbrev Il:List Str:=["chart", "mark", "day", "cell", "look", "since"]
noncomputable abbrev p_cells_adrift:List Str:=["chart", "mark", "day"]
theorem sc_cells_adrift:FnScope Il p_cells_adrift (defScope s_cells_adrift):=⟨rfl,rfl,rfl,by decide +kernel,rfl,by decide +kernel,by decide +kernel⟩
noncomputable def spCellsA(C:Addr):DSp:=fun ds G Q _=>∃x a b c ch h m day bt,ds=[.ref x,.int m,.int day]∧ChAt C G x a b c ch∧SeaOk ch.sea h∧getB ch.adrift m=some bt∧InS ch.sea h bt.cell∧0≤day-bt.x∧day-bt.x≤400∧∀ms:List Cl,ms.Pairwise Aw→(∀y,y∈ms↔Drift ch.sea h bt.cell (day-bt.x).toNat y)→Q (.tup (ms.map cellD)) G
theorem Sr{f:Addr}{fd:FuncData}(F:Fun K "cells_adrift" "cells_adrift" s_cells_adrift f fd)(T:Sy K mg C)(Aiv:Def P w K mg base CX0 6 "drift" Dw spDrift):FnOk P w K mg base CX0 7 f fd p_cells_adrift (liftSp K (spCellsA C)):=by
 refine okD F sc_cells_adrift (fun ds G Q E h=>?_) (fun cdv A outer s H XE ds G Q E hr h=>?_)
 ·obtain⟨_,_,_,_,_,_,_,_,_,rfl,_⟩:=h;rfl
 ·obtain⟨x,a,b,c,ch,h,m,day,bt,rfl,ca,ok,hb,hin,d0,d4,k⟩:=h;refine⟨_,#["d",#["s",#["6",#["r",T.cls,T.na_adrift,#["a",0]],#["a",1]],#["x",3,#["l",#["g",3,sc_cells_adrift.nd],#["l",#["g",4,sc_cells_adrift.nd],#["y",#["g",5,sc_cells_adrift.nd]]]]]],#["f",#["h",#["e",Aiv,hr,#["c",#["r",T.cls,T.na_sea,#["a",0]],#["c",#["a",3],#["b",(@q_op _ _ _ _ _ _ _ _ (@o_sub _) #["a",2] #["a",5])]]]]]]],?_⟩;simp![];refine⟨_,ca.gx,_,rfl,b,rfl,_,ca.gb,btD bt,by rw[Ce,hb];rfl,_,rfl,rfl,_,_,rfl,_,_,rfl,_,_,rfl,rfl,_,ca.gx,_,rfl,_,rfl,?_⟩
  exact⟨ch.sea,h,bt.cell,day-bt.x,rfl,ok,hin,d0,d4,fun ms h1 h2=>Fq.of (k ms h1 h2)⟩
theorem He{xs:List D}{j:Nat}:Ct xs none (some (j:Int))=xs.take j:=by
 simp only[Ct,HT.sIx,if_neg (show ¬((j:Int)<0) by omega),List.drop_zero,Nat.sub_zero]
 by_cases h:j≤xs.length
 ·congr 1;omega
 ·rw[List.take_of_length_le (by omega),List.take_of_length_le (by omega)]
theorem Kw{xs:List D}{j:Nat}:Ct xs (some (j:Int)) none=xs.drop j:=by
 simp only[Ct,HT.sIx,if_neg (show ¬((j:Int)<0) by omega)]
 by_cases h:j≤xs.length
 ·rw[List.take_of_length_le (by rw[List.length_drop];omega)];congr 1;omega
 ·rw[List.drop_of_length_le (by omega),List.drop_of_length_le (by omega)];simp
noncomputable abbrev s_with_depth:Stmt:=top 57
noncomputable abbrev L7:List Str:=["sea", "cell", "depth", "column", "row", "depths"]
noncomputable abbrev p_with_depth:List Str:=["sea", "cell", "depth"]
theorem sc_with_depth:FnScope L7 p_with_depth (defScope s_with_depth):=⟨rfl,rfl,rfl,by decide +kernel,rfl,by decide +kernel,by decide +kernel⟩
noncomputable def spWithD:DSp:=fun ds G Q _=>∃s h c d,ds=[seaD s,cellD c,.int d]∧SeaOk s h∧InS s h c∧Q (seaD (Ei s c d)) G
theorem V9{f:Addr}{fd:FuncData}(F:Fun K "with_depth" "with_depth" s_with_depth f fd)(T:Sy K mg C):FnOk P w K mg base CX0 1 f fd p_with_depth (liftSp K spWithD):=by
 refine okD F sc_with_depth (fun ds G Q E h=>?_) (fun cdv A outer s H XE ds G Q E hr h=>?_)
 ·obtain⟨_,_,_,_,rfl,_⟩:=h;rfl
 ·obtain⟨s,h,c,d,rfl,ok,hin,k⟩:=h;refine⟨_,#["d",#["s",#["a",1],#["x",2,#["l",#["g",3,sc_with_depth.nd],#["y",#["g",4,sc_with_depth.nd]]]]],#["d",#["j",5,sc_with_depth.nd,#["aM",T,#["b",#["v",#["a",0],#["a",3]]]]],#["d",#["s",#["a",2],#["U",#["a",5],#["a",4],(@s_list _)]],#["f",#["h",#["B",#["B",#["aj",#["a",0],#["W",#["a",3]]],#["i",#["b",#["V",T,#["b",#["a",5]]]]]],#["ak",#["a",0],#["W",#["G",#["a",3]]]]]]]]]],?_⟩;obtain⟨x,y,rfl,hx,hy⟩:=hin.nat;obtain⟨hcl,hcv⟩:=ok.colD hx;have hw:=ok.wide;have hh:=ok.high;have e1:∀G:Gp,Bh G (seaD s) (x:Int)=some (A6 (s.getD x [])):=fun G=>by
   rw[C3];refine B5 ?_;rw[List.getElem?_map,List.getElem?_eq_getElem hx,List.getD_eq_getElem?_getD,List.getElem?_eq_getElem hx];rfl
  have esl:∀(G:Gp) (lo hi:Option Int) (Q:DK),Dl G (seaD s) lo hi Q=Q (.tup (Ct (s.map A6) lo hi)) G:=fun _ _ _ _=>Eo;have ek:ixN ((s.getD x []).map D.int).length (y:Int)=some y:=by unfold ixN;rw[if_pos (by omega),if_pos (by rw[List.length_map];omega)];simp
  simp![esl];refine⟨_,rfl,rfl,_,_,rfl,_,_,rfl,rfl,_,rfl,_,e1 G,_,rfl,fun p hp=>⟨_,rfl,y,ek,_,rfl,?_⟩⟩;have sz:∀{n},n≤100→n≤sizeLine:=fun h=>szl (by omega)
  refine⟨_,Af Aa,sz (by decide),sz (by rw[He,List.length_take,List.length_map];omega),?_⟩
  rw[Fi];have ec:((x:Int)+1)=((x+1:Nat):Int):=by omega
  refine⟨_,rfl,?_,G,Sub.new hp,?_⟩
  ·show(Ct (s.map A6) none (some (x:Int))++[_]).length+(Ct (s.map A6) (some ((x:Int)+1)) none).length≤_;rw[ec,He,Kw];exact sz (by simp only[List.length_append,List.length_take,List.length_drop,List.length_map,List.length_singleton];omega)
  ·show Q (.tup (Ct (s.map A6) none (some (x:Int))++[_]++Ct (s.map A6) (some ((x:Int)+1)) none)) G;rw[ec,He,Kw];have e:seaD (Ei s ((x:Int),(y:Int)) d)=.tup ((s.map A6).take x++[.tup (((s.getD x []).map D.int).set y (.int d))]++(s.map A6).drop (x+1)):=by
    show D.tup ((s.set (x:Int).toNat ((s.getD (x:Int).toNat []).set (y:Int).toNat d)).map A6)=_;rw[Int.toNat_natCast,Int.toNat_natCast,List.map_set,List.set_eq_take_append_cons_drop,if_pos (by rw[List.length_map];exact hx)]
    show D.tup ((s.map A6).take x++.tup (((s.getD x []).set y d).map D.int)::(s.map A6).drop (x+1))=_;rw[List.map_set];simp
   rw[←e];exact k
open Classical in
noncomputable def doN(h:Nat)(ch:Cht)(day:Int):Deed→Cht×Bool
 |.lay m c sh co si lit=>if ashore ch m=true∧wat ch.sea h c=true then ({ ch with placed:=B9 ch.placed m ⟨c,(sh,co,lit),si⟩ },true) else (ch,false)
 |.lift m=>if ashore ch m=true then (ch,false) else ({ ch with placed:=A9 ch.placed m,adrift:=A9 ch.adrift m },true)
 |.gale g=>({ ch with placed:=ch.placed.filter fun p=>!decide (p.2.x<g),adrift:=(ch.placed.filter fun p=>decide (p.2.x<g)).foldl (fun l p=>B9 l p.1 ⟨p.2.cell,p.2.look,day⟩) ch.adrift },true)
 |.seen m c=>match getB ch.adrift m with
  |none=>(ch,false)
  |some bt=>if Drift ch.sea h bt.cell (day-bt.x).toNat c then ({ ch with adrift:=B9 ch.adrift m ⟨c,bt.look,day⟩ },true) else (ch,false)
 |.depth c d=>({ ch with sea:=Ei ch.sea c d },true)
noncomputable def spDo(C:Addr)(x:Str):DSp:=fun ds G Q _=>∃r a b c ch h n day d,ds=[.ref r,.int day,.tup d.parts]∧ChAt C G r a b c ch∧ChOk h n day ch∧n≤1000∧0≤day∧day≤400∧C9 ch.sea h d∧d.word=x∧∀G',ChAt C G' r a b c (doN h ch day d).1→Else G G' r a b c→Q (.bl (doN h ch day d).2) G'
theorem Else.refl{G:Gp}{x a b c:Addr}:Else G G x a b c:=fun _ _ _ _ _ _ h=>h
theorem ChAt.xa{x a b c:Addr}{G:Gp}{ch:Cht}(t:ChAt C G x a b c ch):x≠a:=fun e=>by have:=t.gx;rw[e,t.ga] at this;cases this
theorem ChAt.xb{x a b c:Addr}{G:Gp}{ch:Cht}(t:ChAt C G x a b c ch):x≠b:=fun e=>by have:=t.gx;rw[e,t.gb] at this;cases this
theorem ChAt.xc{x a b c:Addr}{G:Gp}{ch:Cht}(t:ChAt C G x a b c ch):x≠c:=fun e=>by have:=t.gx;rw[e,t.gc] at this;cases this
theorem ChAt.ac{x a b c:Addr}{G:Gp}{ch:Cht}(t:ChAt C G x a b c ch):a≠c:=fun e=>by have:=t.ga;rw[e,t.gc] at this;cases this
theorem ChAt.bc{x a b c:Addr}{G:Gp}{ch:Cht}(t:ChAt C G x a b c ch):b≠c:=fun e=>by have:=t.gb;rw[e,t.gc] at this;cases this
theorem ChAt.setA{x a b c:Addr}{G:Gp}{ch:Cht}(t:ChAt C G x a b c ch)(l:List (Int×Bt)):ChAt C (Ab G a (.dkk (plK l))) x a b c { ch with placed:=l }:=
 ⟨by rw[Ac t.xa];exact t.gx,Aa,by rw[Ac t.ne.symm];exact t.gb,by rw[Ac t.ac.symm];exact t.gc,t.ne⟩
theorem ChAt.setB{x a b c:Addr}{G:Gp}{ch:Cht}(t:ChAt C G x a b c ch)(l:List (Int×Bt)):ChAt C (Ab G b (.dkk (plK l))) x a b c { ch with adrift:=l }:=
 ⟨by rw[Ac t.xb];exact t.gx,by rw[Ac t.ne];exact t.ga,Aa,by rw[Ac t.bc.symm];exact t.gc,t.ne⟩
theorem ChAt.setC{x a b c:Addr}{G:Gp}{ch:Cht}(t:ChAt C G x a b c ch)(l:List Int):ChAt C (Ab G c (.lst (l.map D.int))) x a b c { ch with undone:=l }:=
 ⟨by rw[Ac t.xc];exact t.gx,by rw[Ac t.ac];exact t.ga,by rw[Ac t.bc];exact t.gb,Aa,t.ne⟩
theorem ChAt.setX{x a b c:Addr}{G:Gp}{ch:Cht}(t:ChAt C G x a b c ch)(s:List (List Int)):ChAt C (Ab G x (.ins C [("sea",seaD s),("placed",.ref a),("adrift",.ref b),("undone",.ref c)])) x a b c { ch with sea:=s }:=
 ⟨Aa,by rw[Ac t.xa.symm];exact t.ga,by rw[Ac t.xb.symm];exact t.gb,by rw[Ac t.xc.symm];exact t.gc,t.ne⟩
theorem Else.upd{G G':Gp}{x a b c p:Addr}{o:GO}(e:Else G G' x a b c)(h:p=x∨p=a∨p=b∨p=c):Else G (Ab G' p o) x a b c:=fun y u h1 h2 h3 h4 hy=>by
 rw[Ac (fun z=>by subst z;rcases h with h|h|h|h<;>contradiction)];exact e y u h1 h2 h3 h4 hy
theorem J3{l:List (Int×Bt)}{m:Int}(h:getB l m=none):A9 l m=l:=by
 unfold A9;refine List.filter_eq_self.mpr fun p hp=>?_;unfold getB at h
 have:=List.find?_eq_none.mp (Option.map_eq_none_iff.mp h) p hp
 simpa using this
noncomputable abbrev s_lay:Stmt:=top 58
noncomputable abbrev N_lay:List Str:=["chart", "day", "parts", "mark", "cell", "shape", "colour", "sinker", "lit"]
noncomputable abbrev p_lay:List Str:=["chart", "day", "parts"]
theorem sc_lay:FnScope N_lay p_lay (defScope s_lay):=⟨rfl,rfl,rfl,by decide +kernel,rfl,by decide +kernel,by decide +kernel⟩
theorem Adw{f:Addr}{fd:FuncData}(F:Fun K "lay" "lay" s_lay f fd)(T:Sy K mg C)(Aia:Def P w K mg base CX0 1 "is_ashore" p_is_ashore (spAshore C))(Ah5:Def P w K mg base CX0 2 "is_water" p_is_water spWater):FnOk P w K mg base CX0 3 f fd p_lay (liftSp K (spDo C "lay")):=by
 refine okD F sc_lay (fun ds G Q E h=>?_) (fun cdv A outer s H XE ds G Q E hr h=>?_)
 ·obtain⟨_,_,_,_,_,_,_,_,_,rfl,_⟩:=h;rfl
 ·obtain⟨r,a,b,c,ch,h,n,day,d,rfl,ca,ok,hn,d0,d4,dok,dw,k⟩:=h;refine⟨_,#["d",#["s",#["a",2],#["x",6,#["l",#["g",3,sc_lay.nd],#["l",#["g",4,sc_lay.nd],#["l",#["g",5,sc_lay.nd],#["l",#["g",6,sc_lay.nd],#["l",#["g",7,sc_lay.nd],#["y",#["g",8,sc_lay.nd]]]]]]]]],#["d",#["q",#["C",#["I",#["n",#["m",#["e",Aia,hr,#["c",#["a",0],#["b",#["a",3]]]]]],#["J",#["n",#["m",#["e",Ah5,hr,#["c",#["r",T.cls,T.na_sea,#["a",0]],#["b",#["a",4]]]]]]]]]],#["T",#["s",#["i",#["c",#["a",4],#["c",#["i",#["c",#["a",5],#["c",#["a",6],#["b",#["a",8]]]]],#["b",#["a",7]]]]],#["U",#["r",T.cls,T.na_placed,#["a",0]],#["a",3],(@K0 _ _ hr)]]]]],?_⟩;cases d with
  |lay m ce sh co si lit=>
   obtain⟨⟨m1,m2⟩,hc,⟨s1,s2⟩,⟨c1,c2⟩,i1,i2⟩:=dok;simp![Deed.parts];have wi:=ok.sea;have lp:=ok.lp;refine⟨r,a,b,c,ch,m,rfl,ca,_,rfl,?_⟩;cases ha:ashore ch m with
   |false=>
    have e:doN h ch day (.lay m ce sh co si lit)=(ch,false):=by simp only[doN];rw[if_neg (fun z=>by rw[ha] at z;cases z.1)]
    rw[e] at k;exact it0 rfl (Fq.of (k G ca Else.refl))
   |true=>
    refine it1 (by decide) ⟨_,ca.gx,_,rfl,ch.sea,h,ce,rfl,wi,hc,_,rfl,?_⟩
    cases hw:wat ch.sea h ce with
    |false=>
     have e:doN h ch day (.lay m ce sh co si lit)=(ch,false):=by simp only[doN];rw[if_neg (fun z=>by rw[hw] at z;cases z.2)]
     rw[e] at k;exact it0 rfl (Fq.of (k G ca Else.refl))
    |true=>
     have e:doN h ch day (.lay m ce sh co si lit)=({ ch with placed:=B9 ch.placed m ⟨ce,(sh,co,lit),si⟩ },true):=by simp only[doN];rw[if_pos ⟨ha,hw⟩]
     rw[e] at k;refine it1 (by decide) ⟨szl (by decide),szl (by decide),_,ca.gx,_,rfl,a,rfl,_,ca.ga,by unfold plK;rw[List.length_map,sizeLine_eq];omega,Fq.of ?_⟩
     have e2:Cg (plK ch.placed) (.inl m) (.tup [cellD ce,.tup [.int sh,.int co,.bl lit],.int si])=plK (B9 ch.placed m ⟨ce,(sh,co,lit),si⟩):=Op (b:=⟨ce,(sh,co,lit),si⟩);rw[e2];exact k _ (ca.setA _) (Else.refl.upd (.inr (.inl rfl)))
  |_=>exact absurd dw (by simp only[Deed.word];decide)
noncomputable abbrev s_lift:Stmt:=top 59
noncomputable abbrev Aet:List Str:=["chart", "day", "parts", "mark"]
noncomputable abbrev p_lift:List Str:=["chart", "day", "parts"]
theorem sc_lift:FnScope Aet p_lift (defScope s_lift):=⟨rfl,rfl,rfl,by decide +kernel,rfl,by decide +kernel,by decide +kernel⟩
theorem Za{f:Addr}{fd:FuncData}(F:Fun K "lift" "lift" s_lift f fd)(T:Sy K mg C)(Aia:Def P w K mg base CX0 1 "is_ashore" p_is_ashore (spAshore C)):FnOk P w K mg base CX0 2 f fd p_lift (liftSp K (spDo C "lift")):=by
 refine okD F sc_lift (fun ds G Q E h=>?_) (fun cdv A outer s H XE ds G Q E hr h=>?_)
 ·obtain⟨_,_,_,_,_,_,_,_,_,rfl,_⟩:=h;rfl
 ·obtain⟨r,a,b,c,ch,h,n,day,d,rfl,ca,ok,hn,d0,d4,dok,dw,k⟩:=h;refine⟨_,#["d",#["j",3,sc_lift.nd,#["k",#["a",2]]],#["d",#["q",#["m",#["e",Aia,hr,#["c",#["a",0],#["b",#["a",3]]]]]],#["d",#["u",#["aB",#["r",T.cls,T.na_placed,#["a",0]],#["a",3]]],#["T",#["u",#["aB",#["r",T.cls,T.na_adrift,#["a",0]],#["a",3]]]]]]],?_⟩;cases d with
  |lift m=>
   simp![Deed.parts];refine⟨r,a,b,c,ch,m,rfl,ca,_,rfl,?_⟩;cases ha:ashore ch m with
   |true=>
    have e:doN h ch day (.lift m)=(ch,false):=by simp only[doN];rw[if_pos ha]
    rw[e] at k;exact it0 rfl (Fq.of (k G ca Else.refl))
   |false=>
    have e:doN h ch day (.lift m)=({ ch with placed:=A9 ch.placed m,adrift:=A9 ch.adrift m },true):=by simp only[doN];rw[if_neg (by rw[ha];decide)]
    rw[e] at k;have k2:∀G1,ChAt C G1 r a b c { ch with placed:=A9 ch.placed m }→Else G G1 r a b c→∃fs,G1 r=some (.ins C fs)∧∃d,List.lookup (Str.ofString "adrift") fs=some d∧∃p,d=D.ref p∧(∃kvs,G1 p=some (.dkk kvs))∧∃kvs,G1 p=some (.dkk kvs)∧(∀v,A1 kvs (.inl m)=some v→Fq Q (.bl true) (Ab G1 p (.dkk (Gx kvs (.inl m)))))∧(A1 kvs (.inl m)=none→Fq Q (.bl true) G1):=fun G1 ca1 el=>by
     refine⟨_,ca1.gx,_,rfl,b,rfl,⟨_,ca1.gb⟩,_,ca1.gb,fun v _=>?_,fun hv=>?_⟩
     ·rw[K9];exact Fq.of (k _ (ca1.setB _) (el.upd (.inr (.inr (.inl rfl)))))
     ·rw[Ce] at hv
      have:=J3 (Option.map_eq_none_iff.mp hv)
      rw[show A9 ch.adrift m=ch.adrift from this] at k;exact Fq.of (k _ ca1 el)
    refine it1 (by decide) ⟨_,ca.gx,_,rfl,a,rfl,⟨_,ca.ga⟩,_,ca.ga,fun v _=>?_,fun hv=>?_⟩
    ·rw[K9];exact k2 _ (ca.setA _) (Else.refl.upd (.inr (.inl rfl)))
    ·rw[Ce] at hv;have e2:=J3 (Option.map_eq_none_iff.mp hv);exact k2 G (by rw[e2];exact ca) Else.refl
  |_=>exact absurd dw (by simp only[Deed.word];decide)
noncomputable abbrev s_deepen:Stmt:=top 62
noncomputable abbrev Xf:List Str:=["chart", "day", "parts", "cell", "depth"]
noncomputable abbrev p_deepen:List Str:=["chart", "day", "parts"]
theorem sc_deepen:FnScope Xf p_deepen (defScope s_deepen):=⟨rfl,rfl,rfl,by decide +kernel,rfl,by decide +kernel,by decide +kernel⟩
theorem Sk{f:Addr}{fd:FuncData}(F:Fun K "deepen" "deepen" s_deepen f fd)(T:Sy K mg C)(Aiw:Def P w K mg base CX0 1 "with_depth" p_with_depth spWithD):FnOk P w K mg base CX0 2 f fd p_deepen (liftSp K (spDo C "depth")):=by
 refine okD F sc_deepen (fun ds G Q E h=>?_) (fun cdv A outer s H XE ds G Q E hr h=>?_)
 ·obtain⟨_,_,_,_,_,_,_,_,_,rfl,_⟩:=h;rfl
 ·obtain⟨r,a,b,c,ch,h,n,day,d,rfl,ca,ok,hn,d0,d4,dok,dw,k⟩:=h;refine⟨_,#["d",#["s",#["a",2],#["x",2,#["l",#["g",3,sc_deepen.nd],#["y",#["g",4,sc_deepen.nd]]]]],#["T",#["al",T.cls,T.na_sea,#["a",0],#["e",Aiw,hr,#["c",#["r",T.cls,T.na_sea,#["a",0]],#["c",#["a",3],#["b",#["a",4]]]]]]]],?_⟩;cases d with
  |depth ce d=>
   obtain⟨hc,e0,e9⟩:=dok;simp![Deed.parts];exact⟨_,ca.gx,_,rfl,ch.sea,h,ce,d,rfl,ok.sea,hc,_,ca.gx,by simp,Fq.of (k _ (ca.setX _) (Else.refl.upd (.inl rfl)))⟩
  |_=>exact absurd dw (by simp only[Deed.word];decide)
theorem Kc{ms:List Cl}{c:Cl}:((ms.map Av).any fun y=>PyData.eqv y (Av c))=decide (c∈ms):=by
 rw[List.any_map,Bool.eq_iff_iff,List.any_eq_true,decide_eq_true_eq];simp only[Function.comp,Hs,decide_eq_true_eq];exact⟨fun⟨x,hx,e⟩=>e ▸ hx,fun h=>⟨c,h,rfl⟩⟩
theorem Du{G:Gp}{cs:List Cl}:RepD G (.tup (cs.map cellD)) (.tuple (cs.map Av)):=.tup C4
theorem No{G:Gp}{ms:List Cl}{c:Cl}{Q:DK}(h:Q (.bl (!decide (c∈ms))) G):Xl true (cellD c) (.tup (ms.map cellD)) G Q:=
 ⟨_,_,Cb,.inr Du,Dp c,Be ms,by rw[E7];omega,by rw[Kc];exact h⟩
noncomputable abbrev s_see:Stmt:=top 61
noncomputable abbrev N_see:List Str:=["chart", "day", "parts", "mark", "cell", "old_cell", "look", "since"]
noncomputable abbrev p_see:List Str:=["chart", "day", "parts"]
theorem sc_see:FnScope N_see p_see (defScope s_see):=⟨rfl,rfl,rfl,by decide +kernel,rfl,by decide +kernel,by decide +kernel⟩
theorem Adu{f:Addr}{fd:FuncData}(F:Fun K "see" "see" s_see f fd)(T:Sy K mg C)(Aib:Def P w K mg base CX0 7 "cells_adrift" p_cells_adrift (spCellsA C)):FnOk P w K mg base CX0 8 f fd p_see (liftSp K (spDo C "seen")):=by
 refine okD F sc_see (fun ds G Q E h=>?_) (fun cdv A outer s H XE ds G Q E hr h=>?_)
 ·obtain⟨_,_,_,_,_,_,_,_,_,rfl,_⟩:=h;rfl
 ·obtain⟨r,a,b,c,ch,h,n,day,d,rfl,ca,ok,hn,d0,d4,dok,dw,k⟩:=h;refine⟨_,#["d",#["s",#["a",2],#["x",2,#["l",#["g",3,sc_see.nd],#["y",#["g",4,sc_see.nd]]]]],#["d",#["q",#["C",#["I",(@qt_cmp _ _ _ _ _ _ _ _ (@o_knotin _) #["a",3] #["r",T.cls,T.na_adrift,#["a",0]] (by with_unfolding_all rfl)),#["J",(@qt_cmp _ _ _ _ _ _ _ _ (@o_notinD _ _ hr) #["a",4] #["e",Aib,hr,#["c",#["a",0],#["c",#["a",3],#["b",#["a",1]]]]] (by with_unfolding_all rfl))]]]],#["d",#["s",#["6",#["r",T.cls,T.na_adrift,#["a",0]],#["a",3]],#["x",3,#["l",#["g",5,sc_see.nd],#["l",#["g",6,sc_see.nd],#["y",#["g",7,sc_see.nd]]]]]],#["T",#["s",#["i",#["c",#["a",4],#["c",#["a",6],#["b",#["a",1]]]]],#["U",#["r",T.cls,T.na_adrift,#["a",0]],#["a",3],(@K0 _ _ hr)]]]]]],?_⟩
  cases d with
  |seen m ce=>
   simp![Deed.parts];refine⟨_,ca.gx,_,rfl,b,rfl,_,ca.gb,?_⟩;rw[Ce];cases hb:getB ch.adrift m with
   |none=>
    have e:doN h ch day (.seen m ce)=(ch,false):=by simp only[doN,hb]
    rw[e] at k;exact it0 rfl (Fq.of (k G ca Else.refl))
   |some bt=>
    have hac:InS ch.sea h bt.cell∧0≤bt.x∧bt.x≤day:=ok.ac _ (Q9 hb);obtain⟨hin,x0,x1⟩:=hac;have la:=ok.la;refine it1 (by simp) ⟨r,a,b,c,ch,h,m,day,bt,rfl,ca,ok.sea,hb,hin,by omega,by omega,fun ms so hms=>No ⟨_,rfl,?_⟩⟩
    by_cases hm:ce∈ms
    ·have hd:=(hms ce).mp hm;have e:doN h ch day (.seen m ce)=({ ch with adrift:=B9 ch.adrift m ⟨ce,bt.look,day⟩ },true):=by simp only[doN,hb];rw[if_pos hd]
     rw[e] at k;refine it1 (by simpa using hm) ⟨_,ca.gx,_,rfl,b,rfl,_,ca.gb,btD bt,by rw[Ce,hb];rfl,_,rfl,rfl,_,_,rfl,_,_,rfl,_,_,rfl,rfl,szl (by decide),_,ca.gx,_,rfl,b,rfl,_,ca.gb,by unfold plK;rw[List.length_map,sizeLine_eq];omega,Fq.of ?_⟩
     have e2:Cg (plK ch.adrift) (.inl m) (.tup [cellD ce,Qb bt.look,.int day])=plK (B9 ch.adrift m ⟨ce,bt.look,day⟩):=Op (b:=⟨ce,bt.look,day⟩);rw[e2];exact k _ (ca.setB _) (Else.refl.upd (.inr (.inr (.inl rfl))))
    ·have hd:¬Drift ch.sea h bt.cell (day-bt.x).toNat ce:=fun z=>hm ((hms ce).mpr z);have e:doN h ch day (.seen m ce)=(ch,false):=by simp only[doN,hb];rw[if_neg hd]
     rw[e] at k;exact it0 (by simpa using hm) (Fq.of (k G ca Else.refl))
  |_=>exact absurd dw (by simp only[Deed.word];decide)
theorem Zr{A B:List (Int×Bt)}{m:Int}{bt:Bt}(h:m ∉ A.map (·.1)):getB (A++(m,bt)::B) m=some bt:=by
 induction A with
 |nil=>rw[List.nil_append,M0,if_pos rfl]
 |cons p A ih=>
  rw[List.map_cons,List.mem_cons,not_or] at h;rw[List.cons_append,M0,if_neg (fun z=>h.1 z.symm),ih h.2]
theorem Ww{A B:List (Int×Bt)}{m:Int}{bt:Bt}(h1:m ∉ A.map (·.1))(h2:m ∉ B.map (·.1)):A9 (A++(m,bt)::B) m=A++B:=by
 have e:∀{l:List (Int×Bt)},m ∉ l.map (·.1)→A9 l m=l:=fun {l} h=>by
  unfold A9;refine List.filter_eq_self.mpr fun p hp=>?_
  have:p.1≠m:=fun z=>h (List.mem_map.mpr ⟨p,hp,z⟩)
  simpa using this
 have e3:A9 (A++(m,bt)::B) m=A9 A m++A9 B m:=by
  unfold A9;rw[List.filter_append,List.filter_cons,if_neg (by simp)]
 rw[e3,e h1,e h2]
noncomputable def Kf(day:Int)(l:List (Int×Bt))(ad:List (Int×Bt)):List (Int×Bt):=l.foldl (fun l p=>B9 l p.1 ⟨p.2.cell,p.2.look,day⟩) ad
theorem Hn{day:Int}:∀{l ad:List (Int×Bt)},(Kf day l ad).length≤ad.length+l.length
 |[],ad=>Nat.le_refl _
 |p::l,ad=>by
  have h1:=Hn (day:=day) (l:=l) (ad:=B9 ad p.1 ⟨p.2.cell,p.2.look,day⟩);have h2:=Hk (l:=ad) (m:=p.1) (b:=⟨p.2.cell,p.2.look,day⟩);show(Kf day l (B9 ad p.1 ⟨p.2.cell,p.2.look,day⟩)).length≤_;rw[List.length_cons];omega
noncomputable def Ba(ch:Cht)(g day:Int)(i:Nat):Cht:={ ch with placed:=((ch.placed.take i).filter fun p=>!decide (p.2.x<g))++ch.placed.drop i,adrift:=Kf day ((ch.placed.take i).filter fun p=>decide (p.2.x<g)) ch.adrift }
theorem blow0{ch:Cht}{g day:Int}:Ba ch g day 0=ch:=by unfold Ba;simp[Kf]
theorem Xb{h:Nat}{ch:Cht}{g day:Int}:doN h ch day (.gale g)=(Ba ch g day ch.placed.length,true):=by
 simp only[doN,Ba,Kf,List.take_length,List.drop_length,List.append_nil]
noncomputable abbrev s_blow:Stmt:=top 60
noncomputable abbrev Aev:List Str:=["chart", "day", "parts", "strength", "mark", "cell", "look", "sinker"]
noncomputable abbrev p_blow:List Str:=["chart", "day", "parts"]
theorem sc_blow:FnScope Aev p_blow (defScope s_blow):=⟨rfl,rfl,rfl,by decide +kernel,rfl,by decide +kernel,by decide +kernel⟩
theorem Zg{f:Addr}{fd:FuncData}(F:Fun K "blow" "blow" s_blow f fd)(T:Sy K mg C):FnOk P w K mg base CX0 1 f fd p_blow (liftSp K (spDo C "gale")):=by
 refine okD F sc_blow (fun ds G Q E h=>?_) (fun cdv A outer s H XE ds G Q E hr h=>?_)
 ·obtain⟨_,_,_,_,_,_,_,_,_,rfl,_⟩:=h;rfl
 ·obtain⟨r,a,b,c,ch,h,n,day,d,rfl,ca,ok,hn,d0,d4,dok,dw,k⟩:=h;refine⟨_,#["d",#["j",3,sc_blow.nd,#["k",#["a",2]]],#["T",#["P",#["aN",T,#["b",#["r",T.cls,T.na_placed,#["a",0]]]],#["g",4,sc_blow.nd],#["d",#["s",#["6",#["r",T.cls,T.na_placed,#["a",0]],#["a",4]],#["x",3,#["l",#["g",5,sc_blow.nd],#["l",#["g",6,sc_blow.nd],#["y",#["g",7,sc_blow.nd]]]]]],#["f",#["A",#["aq",#["a",7],#["a",3]],#["d",#["u",#["aO",#["r",T.cls,T.na_placed,#["a",0]],#["a",4]]],#["f",#["s",#["i",#["c",#["a",5],#["c",#["a",6],#["b",#["a",1]]]]],#["U",#["r",T.cls,T.na_adrift,#["a",0]],#["a",4],(@K0 _ _ hr)]]]]]]]]]],?_⟩;cases d with
  |gale g=>
   simp![Deed.parts];rw[Xb] at k;have lp:=ok.lp;have la:=ok.la;refine⟨_,ca.gx,_,rfl,a,rfl,_,ca.ga,fun l hl=>⟨_,Af Aa,?_⟩⟩;have el:(plK ch.placed).map (fun q=>kD q.1)=ch.placed.map fun p=>.int p.1:=by unfold plK;rw[List.map_map];rfl
   rw[el];have cl:ChAt C (Ab G l (.lst (ch.placed.map fun p=>.int p.1))) r a b c ch:=ca.sub (Sub.new hl);have gl:Ab G l (.lst (ch.placed.map fun p=>.int p.1)) l=some (.lst (ch.placed.map fun p=>.int p.1)):=Aa;have sl:Sub G (Ab G l (.lst (ch.placed.map fun p=>.int p.1))):=Sub.new hl;have nl:l≠r∧l≠a∧l≠b∧l≠c:=⟨(gne ca.gx hl).symm,(gne ca.ga hl).symm,(gne ca.gb hl).symm,(gne ca.gc hl).symm⟩;generalize Ab G l (.lst (ch.placed.map fun p=>.int p.1))=GL at *;refine Bn (fun i σ G'=>∃v4 v5 v6 v7,σ=[some (.ref r),some (.int day),some (.tup [.int g]),some (.int g),v4,v5,v6,v7]∧ChAt C G' r a b c (Ba ch g day i)∧Else GL G' r a b c) ⟨none,none,none,none,rfl,by rw[blow0];exact cl,Else.refl⟩ (fun i σ G' _ ⟨_,_,_,_,_,_,e⟩=>Af (e l _ nl.1 nl.2.1 nl.2.2.1 nl.2.2.2 gl)) ?_ ?_
   ·rintro i x σ G' hx ⟨v4,v5,v6,v7,rfl,cg,eg⟩;rw[List.getElem?_map] at hx;obtain⟨⟨m,bt⟩,hp,rfl⟩:=Option.map_eq_some_iff.mp hx;obtain⟨hi,hpi⟩:=List.getElem?_eq_some_iff.mp hp;have sp:ch.placed=ch.placed.take i++(m,bt)::ch.placed.drop (i+1):=by rw[←hpi,List.getElem_cons_drop,List.take_append_drop]
    have nd:=ok.pn;rw[sp,List.map_append,List.map_cons,List.nodup_append] at nd;obtain⟨_,nd2,nd3⟩:=nd;have n1:m ∉ ((ch.placed.take i).filter fun p=>!decide (p.2.x<g)).map (·.1):=fun z=>by
     obtain⟨q,hq,e⟩:=List.mem_map.mp z;exact nd3 q.1 (List.mem_map.mpr ⟨q,(List.mem_filter.mp hq).1,rfl⟩) m (List.mem_cons_self ..) e
    have n2:m ∉ (ch.placed.drop (i+1)).map (·.1):=(List.nodup_cons.mp nd2).1;have dr:ch.placed.drop i=(m,bt)::ch.placed.drop (i+1):=by rw[←hpi,List.getElem_cons_drop]
    have tk:ch.placed.take (i+1)=ch.placed.take i++[(m,bt)]:=by rw[List.take_add_one,hp];rfl
    have ep:(Ba ch g day i).placed=((ch.placed.take i).filter fun p=>!decide (p.2.x<g))++(m,bt)::ch.placed.drop (i+1):=by unfold Ba;rw[dr]
    have hg:getB (Ba ch g day i).placed m=some bt:=by rw[ep];exact Zr n1
    have lm:(Ba ch g day i).adrift.length≤2000:=by
     have h1:(Ba ch g day i).adrift.length≤ch.adrift.length+((ch.placed.take i).filter fun p=>decide (p.2.x<g)).length:=Hn;have h2:((ch.placed.take i).filter fun p=>decide (p.2.x<g)).length≤(ch.placed.take i).length:=List.length_filter_le _ _;rw[List.length_take] at h2;omega
    simp![];refine⟨_,cg.gx,_,rfl,a,rfl,_,cg.ga,btD bt,by rw[Ce,hg];rfl,_,rfl,rfl,_,_,rfl,_,_,rfl,_,_,rfl,rfl,?_⟩
    refine⟨_,rfl,?_⟩
    by_cases hb:bt.x<g
    ·have e1:Ba ch g day (i+1)={ Ba ch g day i with placed:=A9 (Ba ch g day i).placed m,adrift:=B9 (Ba ch g day i).adrift m ⟨bt.cell,bt.look,day⟩ }:=by
      have ed:A9 (Ba ch g day i).placed m=((ch.placed.take i).filter fun p=>!decide (p.2.x<g))++ch.placed.drop (i+1):=by rw[ep];exact Ww n1 n2
      rw[ed];unfold Ba;rw[tk,List.filter_append,List.filter_append];simp[hb,Kf]
     have ca2:=cg.setA (A9 (Ba ch g day i).placed m);have ca3:=ca2.setB (B9 (Ba ch g day i).adrift m ⟨bt.cell,bt.look,day⟩);have e2:Cg (plK (Ba ch g day i).adrift) (.inl m) (.tup [cellD bt.cell,Qb bt.look,.int day])=plK (B9 (Ba ch g day i).adrift m ⟨bt.cell,bt.look,day⟩):=Op (b:=⟨bt.cell,bt.look,day⟩);refine it0 hb ⟨_,cg.gx,_,rfl,a,rfl,⟨_,cg.ga⟩,_,cg.ga,btD bt,by rw[Ce,hg];rfl,szl (by decide),?_⟩
     rw[K9];refine⟨_,ca2.gx,_,rfl,b,rfl,_,ca2.gb,by unfold plK;rw[List.length_map,sizeLine_eq];exact Nat.lt_of_le_of_lt lm (by omega),Fs.of ⟨_,_,_,_,rfl,?_,?_⟩⟩
     ·rw[e1];have e2':Cg (plK { Ba ch g day i with placed:=A9 (Ba ch g day i).placed m }.adrift) (.inl m) (.tup [cellD bt.cell,Qb bt.look,.int day])=plK (B9 (Ba ch g day i).adrift m ⟨bt.cell,bt.look,day⟩):=e2;rw[e2'];exact ca3
     ·exact(eg.upd (.inr (.inl rfl))).upd (.inr (.inr (.inl rfl)))
    ·have e1:Ba ch g day (i+1)=Ba ch g day i:=by
      unfold Ba;rw[tk,dr,List.filter_append,List.filter_append];simp[hb]
     exact it1 hb (Fs.of ⟨_,_,_,_,rfl,by rw[e1];exact cg,eg⟩)
   ·rintro σ G' ⟨v4,v5,v6,v7,rfl,cg,eg⟩;simp![];rw[List.length_map] at cg;exact Fq.of (k G' cg fun y o h1 h2 h3 h4 hy=>eg y o h1 h2 h3 h4 (sl _ _ hy))
  |_=>exact absurd dw (by simp only[Deed.word];decide)
end
section
variable{P:Program}{w:World}{K:W.Frag}{mg:Str→Option Value}{base:Heap}{C T0:Addr}
theorem Qi{G G':Gp}{l:Addr}{o:GO}(s:Sub G G'):Sub (Ab G l o) (Ab G' l o):=fun b u h=>by
 by_cases z:b=l
 ·subst z;rw[Aa] at h ⊢;exact h
 ·rw[Ac z] at h ⊢;exact s b u h
noncomputable def Gu(n:Ntc):Key×D:=(.inl n.num,As n)
noncomputable def Dj(a b:Ntc):Prop:=Aw (a.day,a.num) (b.day,b.num)
theorem Ac0{qs:List Ntc}{n:Ntc}(h:∀q∈qs,q.num=n.num→q=n):Cg (qs.map Gu) (.inl n.num) (As n)=(if n∈qs then qs else qs++[n]).map Gu:=by
 unfold Cg;have e:((qs.map Gu).any fun kv=>decide (kv.1=Sum.inl n.num))=decide (n∈qs):=by
  rw[List.any_map,Bool.eq_iff_iff,List.any_eq_true,decide_eq_true_eq];refine⟨fun⟨q,hq,e⟩=>?_,fun hn=>⟨n,hn,by simp[Gu]⟩⟩
  have:q.num=n.num:=by simpa[Gu] using e
  rw[←h q hq this];exact hq
 rw[e]
 by_cases hn:n∈qs
 ·rw[if_pos (by simpa using hn),if_pos hn,List.map_map]
  refine List.map_congr_left fun q hq=>?_
  by_cases hk:q.num=n.num
  ·have:=h q hq hk;subst this;simp[Gu]
  ·simp[Gu,hk]
 ·rw[if_neg (by simpa using hn),if_neg hn,List.map_append];rfl
noncomputable abbrev s_in_order:Stmt:=top 64
noncomputable abbrev Ib:List Str:=["notices", "held", "by_number"]
noncomputable abbrev p_in_order:List Str:=["notices", "held"]
theorem sc_in_order:FnScope Ib p_in_order (defScope s_in_order):=⟨rfl,rfl,rfl,by decide +kernel,rfl,by decide +kernel,by decide +kernel⟩
theorem nd_in_order_1:((["notice"]:List Str)++(["notices", "held", "by_number"]:List Str)).Nodup:=by decide +kernel
noncomputable def spOrder(T0:Addr)(q:Str):DSp:=fun ds G Q _=>∃p h s hh ns,ds=[.ref p,.int h]∧G p=some (.lst (ns.map As))∧NtsOk s hh ns∧G T0=some (.tbl q)∧∀l (zs:List Ntc),G l=none→zs.Pairwise Dj→(∀n,n∈zs↔n∈ns∧n.num≤h)→Q (.ref l) (Ab G l (.lst (zs.map As)))
theorem We{f c0:Addr}{fd:FuncData}(F:Fun K "in_order" "in_order" s_in_order f fd)(T:Sn mg)(hfc:fd.code=.ref c0)(hC:W.codeHdIn K c0 T0=true):FnOk P w K mg base CX0 2 f fd p_in_order (liftSp K (spOrder T0 ("in_order" ++ ".<locals>." ++ "<lambda>"))):=by
 refine okDc F hfc sc_in_order (fun ds G Q E h=>?_) (fun A outer s H XE ds G Q E hr h=>?_)
 ·obtain⟨_,_,_,_,_,rfl,_⟩:=h;rfl
 ·obtain⟨p,h,sa,hh,ns,rfl,hp,nok,hT,k⟩:=h;have hcode:(Kh CX0 P w K mg base Ib "in_order" (defScope s_in_order) f (.ref c0) A outer s H XE).nox.env.code=.ref c0:=rfl;refine⟨_,#["d",#["aP",["notice"],["notices", "held", "by_number"],2,#["a",0],#["R",0,nd_in_order_1],(@qf_one _ _ _ #["aC",#["k",#["a",0]],#["F",2]]),#["k",#["a",0]],#["a",0],sc_in_order.nd,(by first|exact .inl rfl|exact .inr rfl),(by first|exact .inl rfl|exact .inr rfl)],#["f",#["h",#["aQ",0,"notice",hr,T,#["a",2],hcode,hC,(fun f c A outer s H hr=>(@Aak _ _ _ _ _ (@An _ _ _ _ _ (@Rk _ _ _ _ _ _ (@q_v1 _ _ 0 _ (by exact⟨rfl,rfl,rfl,rfl⟩)) (@q_int _ _ _ _) (by intro _ _ ;rfl)) (@An _ _ _ _ _ (@Rk _ _ _ _ _ _ (@q_v1 _ _ 0 _ (by exact⟨rfl,rfl,rfl,rfl⟩)) (@q_int _ _ _ _) (by intro _ _ ;rfl)) (@qa_nil _) (by rfl)) (by rfl)))),(LamScope.mk rfl rfl rfl (by decide +kernel)),(fun _ _ _ _ _=>rfl)]]]],?_⟩
  simp![];have nl:=nok.len;refine⟨_,Af hp,fun p1 hp1=>?_⟩;have np:p≠p1:=gne hp hp1;refine⟨fun i kvs G'=>∃qs:List Ntc,kvs=qs.map Gu∧G'=Ab G p1 (.dkk kvs)∧qs.length≤i∧(qs.map (·.num)).Nodup∧∀n,n∈qs↔n∈ns.take i∧n.num≤h,⟨[],rfl,rfl,Nat.le_refl _,List.nodup_nil,fun n=>by simp⟩,fun i kvs G' _ ⟨qs,e1,e2,_⟩=>⟨by rw[e2];exact Af (by rw[Ac np];exact hp),by rw[e2];exact Aa⟩,?_,?_⟩
  ·rintro i x kvs G' hx ⟨qs,rfl,rfl,hl,nd,hq⟩;rw[List.getElem?_map] at hx;obtain⟨n,hn,rfl⟩:=Option.map_eq_some_iff.mp hx;have hi:i<ns.length:=(List.getElem?_eq_some_iff.mp hn).1;have hm:=List.mem_of_getElem? hn;have tk:ns.take (i+1)=ns.take i++[n]:=by rw[List.take_add_one,hn];rfl
   have e0:∀G:Gp,Bh G (As n) 0=some (.int n.num):=fun _=>rfl;have hlike:∀q∈qs,q.num=n.num→q=n:=fun q hqq e=>nok.like q (List.mem_of_mem_take ((hq q).mp hqq).1) n hm e;simp![e0];refine⟨⟨[some (As n)],rfl,rfl⟩,?_⟩
   by_cases hh':n.num≤h
   ·refine it0 hh' ⟨by rw[List.length_map,sizeLine_eq];omega,Fg.of ⟨if n∈qs then qs else qs++[n],Ac0 hlike,rfl,?_,?_,fun z=>?_⟩⟩
    ·split
     ·omega
     ·rw[List.length_append,List.length_singleton];omega
    ·split
     ·exact nd
     ·rename_i hnq;rw[List.map_append,List.nodup_append];refine⟨nd,by simp,fun a ha b hb=>?_⟩
      obtain⟨q,hqq,rfl⟩:=List.mem_map.mp ha;have hb:b=n.num:=by simpa using hb
      intro e;exact hnq (by rw[←hlike q hqq (e.trans hb)];exact hqq)
    ·rw[tk]
     split
     ·rename_i hnq;rw[hq z,List.mem_append,List.mem_singleton];refine⟨fun⟨a,b⟩=>⟨.inl a,b⟩,fun⟨a,b⟩=>⟨?_,b⟩⟩;rcases a with a|rfl
      ·exact a
      ·exact((hq z).mp hnq).1
     ·rw[List.mem_append,List.mem_append,List.mem_singleton,hq z];refine⟨fun a=>?_,fun⟨a,b⟩=>?_⟩
      ·rcases a with ⟨a,b⟩|rfl
       ·exact⟨.inl a,b⟩
       ·exact⟨.inr rfl,hh'⟩
      ·rcases a with a|rfl
       ·exact .inl ⟨a,b⟩
       ·exact .inr rfl
   ·refine it1 hh' (Fg.of ⟨qs,rfl,rfl,by omega,nd,fun z=>?_⟩)
    rw[hq z,tk,List.mem_append,List.mem_singleton];refine⟨fun⟨a,b⟩=>⟨.inl a,b⟩,fun⟨a,b⟩=>⟨?_,b⟩⟩;rcases a with a|rfl
    ·exact a
    ·exact absurd b hh'
  ·rintro kvs G' ⟨qs,rfl,rfl,hl,nd,hq⟩;rw[List.length_map,List.take_length] at hq;rw[List.length_map] at hl;have ev:(qs.map Gu).map (·.2)=qs.map As:=by rw[List.map_map];rfl
   have hT':Ab G p1 (.dkk (qs.map Gu)) T0=some (.tbl ("in_order" ++ ".<locals>." ++ "<lambda>")):=Au hT hp1;have num:∀q∈qs,1≤q.num∧q.num≤99:=fun q hqq=>(nok.ok q ((hq q).mp hqq).1).num;refine⟨p1,rfl,_,Aa,hT',by rw[List.length_map];omega,qs.map fun q=>(q.day,q.num),by simp,?_,fun m hm=>?_,fun i d m hd hm Q' hQ=>?_,fun l zs hl' pz sz=>?_⟩
   ·rw[List.Nodup,List.pairwise_map] at nd ⊢;exact nd.imp fun {a b} ne e=>ne (by injection e)
   ·obtain⟨q,hqq,rfl⟩:=List.mem_map.mp hm
    have:=num q hqq
    exact⟨by show 0≤q.num;omega,by show q.num<1000;omega⟩
   ·rw[ev,List.getElem?_map] at hd;obtain⟨q,h1,rfl⟩:=Option.map_eq_some_iff.mp hd;rw[List.getElem?_map,h1] at hm;cases hm;exact⟨_,rfl,_,rfl,szl (by decide),hQ⟩
   ·have ez:(qs.map fun q=>(q.day,q.num)).zip ((qs.map Gu).map (·.2))=qs.map fun q=>((q.day,q.num),As q):=by rw[ev,List.zip_map']
    rw[ez] at pz;obtain⟨zq,pq,hz⟩:=F4 (R:=fun(a:(Int×Int)×D) (q:Ntc)=>a=((q.day,q.num),As q)) pz (r:=qs) (by
     have go:∀l:List Ntc,Paired (fun(a:(Int×Int)×D) (q:Ntc)=>a=((q.day,q.num),As q)) (l.map fun q=>((q.day,q.num),As q)) l:=fun l=>by
      induction l with
      |nil=>exact .nil
      |cons x r ih=>exact .cons rfl ih
     exact go qs)
    have ezs:zs=zq.map fun q=>((q.day,q.num),As q):=by
     have go:∀{l:List ((Int×Int)×D)} {r:List Ntc},Paired (fun(a:(Int×Int)×D) (q:Ntc)=>a=((q.day,q.num),As q)) l r→l=r.map fun q=>((q.day,q.num),As q):=fun {l r} h=>by
      induction h with
      |nil=>rfl
      |cons x _ ih=>rw[List.map_cons,x,ih]
     exact go hz
    subst ezs;rw[List.pairwise_map] at sz;have hl0:G l=none:=by
     by_cases z:l=p1
     ·rw[z];exact hp1
     ·rw[Ac z] at hl';exact hl'
    refine⟨Ab G l (.lst (zq.map As)),?_,k l zq hl0 sz fun n=>by rw[pq.mem_iff,hq]⟩
    rw[List.map_map];exact Qi (Sub.new hp1)
noncomputable def Aaf(C:Addr)(G:Gp)(x:Addr)(d:D)(a b c:Addr):Prop:=G x=some (.ins C [("sea",d),("placed",.ref a),("adrift",.ref b),("undone",.ref c)])∧G a=some (.dkk [])∧G b=some (.dkk [])∧G c=some (.lst [])∧a≠b
theorem Dv{g f:Str}{e d:D}{r:List (Str×D)}(h:g≠f):Df f d ((g,e)::r)=(g,e)::Df f d r:=if_neg h
noncomputable abbrev s_Chart_init:Stmt:=inCls (top 54) 0
noncomputable abbrev Mb:List Str:=["self", "sea"]
noncomputable abbrev Bc:List Str:=["self", "sea"]
theorem Iv:FnScope Mb Bc (defScope s_Chart_init):=⟨rfl,rfl,rfl,by decide +kernel,rfl,by decide +kernel,by decide +kernel⟩
noncomputable def Kl(C:Addr):DSp:=fun ds G Q _=>∃x d,ds=[.ref x,d]∧G x=some (.ins C [])∧∀G' a b c,Aaf C G' x d a b c→G a=none∧G b=none∧G c=none→(∀y o,y≠x→G y=some o→G' y=some o)→Q .non G'
theorem Zc{f:Addr}{fd:FuncData}(F:Fun K "__init__" "Chart.__init__" s_Chart_init f fd)(T:Sy K mg C):FnOk P w K mg base CX0 1 f fd Bc (liftSp K (Kl C)):=by
 refine okD F Iv (fun ds G Q E h=>?_) (fun cdv A outer s H XE ds G Q E hr h=>?_)
 ·obtain⟨_,_,rfl,_⟩:=h;rfl
 ·obtain⟨x,d,rfl,hx,k⟩:=h;refine⟨_,#["d",#["al",T.cls,T.na_sea,#["a",0],#["a",1]],#["d",#["aD",T.cls,T.na_placed,#["a",0]],#["d",#["aD",T.cls,T.na_adrift,#["a",0]],#["f",#["al",T.cls,T.na_undone,#["a",0],#["3"]]]]]],?_⟩;simp![hx];have ne:∀{G:Gp} {a b:Addr} {o:GO},G a=some o→G b=none→a≠b:=fun h h' z=>by subst z;rw[h] at h';cases h'
  have f1:∀a,Df "placed" a [("sea",d)]=([("sea",d),("placed",a)]:List (Str×D)):=fun a=>by rw[Dv (by decide)];rfl
  have f2:∀a b,Df "adrift" b [("sea",d),("placed",a)]=([("sea",d),("placed",a),("adrift",b)]:List (Str×D)):=fun a b=>by rw[Dv (by decide),Dv (by decide)];rfl
  have f3:∀a b c,Df "undone" c [("sea",d),("placed",a),("adrift",b)]=([("sea",d),("placed",a),("adrift",b),("undone",c)]:List (Str×D)):=fun a b c=>by rw[Dv (by decide),Dv (by decide),Dv (by decide)];rfl
  refine⟨[],rfl,by decide,fun p hp=>?_⟩
  have e1:Ab G x (.ins C (Df "sea" d [])) x=some (.ins C [("sea",d)]):=Aa;have k1:∀y o,y≠x→G y=some o→Ab G x (.ins C (Df "sea" d [])) y=some o:=fun y o n h=>by rw[Ac n];exact h
  have gp:G p=none:=by
   by_cases z:p=x
   ·rw[z,Aa] at hp;cases hp
   ·rw[Ac z] at hp;exact hp
  generalize Ab G x (.ins C (Df "sea" d []))=G1 at *;have n1:=ne e1 hp;refine⟨[("sea",d)],by rw[Ac n1];exact e1,by simp,fun p1 hp1=>?_⟩
  rw[f1] at hp1 ⊢;have e2:Ab (Ab G1 p (.dkk [])) x (.ins C [("sea",d),("placed",.ref p)]) x=some (.ins C [("sea",d),("placed",.ref p)]):=Aa;have a2:Ab (Ab G1 p (.dkk [])) x (.ins C [("sea",d),("placed",.ref p)]) p=some (.dkk []):=by rw[Ac n1.symm];exact Aa
  have k2:∀y o,y≠x→G y=some o→Ab (Ab G1 p (.dkk [])) x (.ins C [("sea",d),("placed",.ref p)]) y=some o:=fun y o n h=>by rw[Ac n];exact Au (k1 y o n h) hp
  generalize Ab (Ab G1 p (.dkk [])) x (.ins C [("sea",d),("placed",.ref p)])=G2 at *;have n2:=ne e2 hp1;refine⟨[("sea",d),("placed",.ref p)],by rw[Ac n2];exact e2,by simp,Nat.zero_le _,fun p2 hp2=>?_⟩
  rw[f2] at hp2 ⊢;have e3:Ab (Ab G2 p1 (.dkk [])) x (.ins C [("sea",d),("placed",.ref p),("adrift",.ref p1)]) x=some (.ins C [("sea",d),("placed",.ref p),("adrift",.ref p1)]):=Aa;have a3:Ab (Ab G2 p1 (.dkk [])) x (.ins C [("sea",d),("placed",.ref p),("adrift",.ref p1)]) p=some (.dkk []):=by rw[Ac n1.symm];exact Au a2 hp1
  have b3:Ab (Ab G2 p1 (.dkk [])) x (.ins C [("sea",d),("placed",.ref p),("adrift",.ref p1)]) p1=some (.dkk []):=by rw[Ac n2.symm];exact Aa
  have k3:∀y o,y≠x→G y=some o→Ab (Ab G2 p1 (.dkk [])) x (.ins C [("sea",d),("placed",.ref p),("adrift",.ref p1)]) y=some o:=fun y o n h=>by rw[Ac n];exact Au (k2 y o n h) hp1
  generalize Ab (Ab G2 p1 (.dkk [])) x (.ins C [("sea",d),("placed",.ref p),("adrift",.ref p1)])=G3 at *;have n3:=ne e3 hp2;have gp1:G p1=none:=by
   cases hq:G p1 with
   |none=>rfl
   |some o=>have:=k2 p1 o n2.symm hq;rw[hp1] at this;cases this
  have gp2:G p2=none:=by
   cases hq:G p2 with
   |none=>rfl
   |some o=>have:=k3 p2 o n3.symm hq;rw[hp2] at this;cases this
  refine⟨[("sea",d),("placed",.ref p),("adrift",.ref p1)],by rw[Ac n3];exact e3,by simp,Fq.of (k _ p p1 p2 ?_ ⟨gp,gp1,gp2⟩ fun y o n h=>?_)⟩
  ·rw[f3];exact⟨Aa,by rw[Ac n1.symm];exact Au a3 hp2,by rw[Ac n2.symm];exact Au b3 hp2,by rw[Ac n3.symm];exact Aa,ne a2 hp1⟩
  ·rw[Ac n];exact Au (k3 y o n h) hp2
theorem Jv{α:Type}(f:α→Bool):∀l:List α,l.length=(l.filter f).length+(l.filter fun x=>!f x).length
 |[]=>rfl
 |x::r=>by
  have:=Jv f r
  cases h:f x
  ·rw[List.filter_cons,List.filter_cons,h];simp;omega
  ·rw[List.filter_cons,List.filter_cons,h];simp;omega
theorem Mt{day:Int}:∀{l ad:List (Int×Bt)} {p:Int×Bt},p∈Kf day l ad→p∈ad∨∃q∈l,p.2.cell=q.2.cell∧p.2.x=day
 |[],ad,p,h=>.inl h
 |q::l,ad,p,h=>by
  rcases Mt (l:=l) h with z|⟨r,hr,z⟩
  ·rcases K4 z with rfl|z
   ·exact .inr ⟨q,List.mem_cons_self ..,rfl,rfl⟩
   ·exact .inl z
  ·exact .inr ⟨r,List.mem_cons_of_mem _ hr,z⟩
theorem do_in{h:Nat}{ch:Cht}{day:Int}{d:Deed}{e:Cl}:InS (doN h ch day d).1.sea h e↔InS ch.sea h e:=by
 cases d with
 |lay m c sh co si lit=>simp only[doN];split<;>exact Iff.rfl
 |lift m=>simp only[doN];split<;>exact Iff.rfl
 |gale g=>exact Iff.rfl
 |seen m c=>
  simp only[doN]
  split
  ·exact Iff.rfl
  ·split<;>exact Iff.rfl
 |depth c d=>exact set_in
theorem Zs{s s':List (List Int)}{h:Nat}(hi:∀e,InS s' h e↔InS s h e):∀{d:Deed},C9 s h d→C9 s' h d
 |.lay ..,⟨a,b,c⟩=>⟨a,(hi _).mpr b,c⟩
 |.lift _,o=>o
 |.gale _,o=>o
 |.seen ..,⟨a,b⟩=>⟨a,(hi _).mpr b⟩
 |.depth ..,⟨a,b⟩=>⟨(hi _).mpr a,b⟩
theorem Abd{h n:Nat}{ch:Cht}{day:Int}{d:Deed}(o:ChOk h n day ch)(d0:0≤day)(dk:C9 ch.sea h d):ChOk h (n+1) day (doN h ch day d).1:=by
 have o1:=o.later (Int.le_refl day) (Nat.le_succ n);have hl:=o.lpa;cases d with
 |lay m c sh co si lit=>
  simp only[doN]
  split
  ·refine⟨o.sea,fun p hp=>?_,o.ac,Vo o.pn,?_,o1.lu⟩
   ·rcases K4 hp with rfl|z
    ·exact dk.2.1
    ·exact o.pc p z
   ·have:=Hk (l:=ch.placed) (m:=m) (b:=⟨c,(sh,co,lit),si⟩)
    show(B9 ch.placed m ⟨c,(sh,co,lit),si⟩).length+ch.adrift.length≤n+1;omega
  ·exact o1
 |lift m=>
  simp only[doN]
  split
  ·exact o1
  ·refine⟨o.sea,fun p hp=>o.pc p (List.mem_filter.mp hp).1,fun p hp=>o.ac p (List.mem_filter.mp hp).1,Tb o.pn,?_,o1.lu⟩;have h1:(A9 ch.placed m).length≤ch.placed.length:=List.length_filter_le _ _;have h2:(A9 ch.adrift m).length≤ch.adrift.length:=List.length_filter_le _ _;show(A9 ch.placed m).length+(A9 ch.adrift m).length≤n+1;omega
 |gale g=>
  refine⟨o.sea,fun p hp=>o.pc p (List.mem_filter.mp hp).1,fun p hp=>?_,List.Pairwise.sublist (List.Sublist.map _ (List.filter_sublist ..)) o.pn,?_,o1.lu⟩
  ·rcases Mt (l:=ch.placed.filter fun p=>decide (p.2.x<g)) hp with z|⟨q,hq,z1,z2⟩
   ·exact o.ac p z
   ·exact⟨by rw[z1];exact o.pc q (List.mem_filter.mp hq).1,by omega,by omega⟩
  ·have h1:(Kf day (ch.placed.filter fun p=>decide (p.2.x<g)) ch.adrift).length≤_:=Hn;have h2:ch.placed.length=(ch.placed.filter fun p=>decide (p.2.x<g)).length+(ch.placed.filter fun p=>!decide (p.2.x<g)).length:=by
    exact Jv _ _
   show(ch.placed.filter fun p=>!decide (p.2.x<g)).length+(Kf day (ch.placed.filter fun p=>decide (p.2.x<g)) ch.adrift).length≤n+1;omega
 |seen m c=>
  simp only[doN]
  split
  ·exact o1
  ·split
   ·refine⟨o.sea,o.pc,fun p hp=>?_,o.pn,?_,o1.lu⟩
    ·rcases K4 hp with rfl|z
     ·exact⟨dk.2,d0,Int.le_refl _⟩
     ·exact o.ac p z
    ·rename_i bt _ _
     have:=Hk (l:=ch.adrift) (m:=m) (b:=⟨c,bt.look,day⟩)
     show ch.placed.length+(B9 ch.adrift m ⟨c,bt.look,day⟩).length≤n+1;omega
   ·exact o1
 |depth c d=>
  exact⟨Ug o.sea dk.1 dk.2.1 dk.2.2,fun p hp=>set_in.mpr (o.pc p hp),fun p hp=>⟨set_in.mpr (o.ac p hp).1,(o.ac p hp).2⟩,o.pn,o1.lpa,o1.lu⟩
noncomputable def Am(h:Nat)(last:Int)(ch:Cht)(n:Ntc):Cht:=if n.day≤last then (if (doN h ch n.day n.deed).2=true then (doN h ch n.day n.deed).1 else { (doN h ch n.day n.deed).1 with undone:=(doN h ch n.day n.deed).1.undone++[n.num] }) else ch
noncomputable def runN(h:Nat)(last:Int)(s:List (List Int))(zs:List Ntc):Cht:=zs.foldl (Am h last) ⟨s,[],[],[]⟩
theorem X0{h:Nat}{last:Int}{ch:Cht}{n:Ntc}{e:Cl}:InS (Am h last ch n).sea h e↔InS ch.sea h e:=by
 unfold Am
 split
 ·split<;>exact do_in
 ·exact Iff.rfl
theorem Xz{h m:Nat}{last:Int}{ch:Cht}{n:Ntc}{day:Int}(o:ChOk h m day ch)(hd:day≤n.day)(d0:0≤n.day)(dk:C9 ch.sea h n.deed):ChOk h (m+1) n.day (Am h last ch n):=by
 have o1:=Abd (o.later hd (Nat.le_refl m)) d0 dk;unfold Am
 split
 ·split
  ·exact o1
  ·have hu:(doN h ch n.day n.deed).1.undone=ch.undone:=by
    cases n.deed with
    |lay=>simp only[doN];split<;>rfl
    |lift=>simp only[doN];split<;>rfl
    |gale=>rfl
    |seen=>
     simp only[doN]
     split
     ·rfl
     ·split<;>rfl
    |depth=>rfl
   refine⟨o1.sea,o1.pc,o1.ac,o1.pn,o1.lpa,?_⟩;show((doN h ch n.day n.deed).1.undone++[n.num]).length≤m+1;rw[hu,List.length_append,List.length_singleton]
   have:=o.lu
   omega
 ·exact o.later hd (Nat.le_succ m)
noncomputable abbrev La(f0 f1 f2 f3 f4:Addr):List (Key×D):=[(.inr "lay",.ref f0),(.inr "lift",.ref f1),(.inr "gale",.ref f2),(.inr "seen",.ref f3),(.inr "depth",.ref f4)]
structure So(P:Program)(w:World)(K:W.Frag)(mg:Str→Option Value)(C aO g0 g1 g2 g3 g4:Addr):Prop extends Sy K mg C where
 DOINGS:mg "DOINGS" = some (.ref aO)
 K_DOINGS:KD P w K aO (La g0 g1 g2 g3 g4)
noncomputable def IsDo(C g0 g1 g2 g3 g4:Addr)(f:Addr)(sp:DSp):Prop:=(f=g0∧sp=spDo C "lay")∨(f=g1∧sp=spDo C "lift")∨(f=g2∧sp=spDo C "gale")∨(f=g3∧sp=spDo C "seen")∨(f=g4∧sp=spDo C "depth")
theorem do_at{g0 g1 g2 g3 g4:Addr}(d:Deed):∃f,A1 (La g0 g1 g2 g3 g4) (.inr d.word)=some (.ref f)∧IsDo C g0 g1 g2 g3 g4 f (spDo C d.word):=by
 cases d with
 |lay=>exact⟨g0,rfl,.inl ⟨rfl,rfl⟩⟩
 |lift=>exact⟨g1,rfl,.inr (.inl ⟨rfl,rfl⟩)⟩
 |gale=>exact⟨g2,rfl,.inr (.inr (.inl ⟨rfl,rfl⟩))⟩
 |seen=>exact⟨g3,rfl,.inr (.inr (.inr (.inl ⟨rfl,rfl⟩)))⟩
 |depth=>exact⟨g4,rfl,.inr (.inr (.inr (.inr ⟨rfl,rfl⟩)))⟩
noncomputable def Bm(ns:List Ntc)(held:Int)(zs:List Ntc):Prop:=zs.Pairwise Dj∧∀n,n∈zs↔n∈ns∧n.num≤held
theorem Else.trans{G G1 G2:Gp}{x a b c:Addr}(e:Else G G1 x a b c)(e2:Else G1 G2 x a b c):Else G G2 x a b c:=fun y o h1 h2 h3 h4 hy=>e2 y o h1 h2 h3 h4 (e y o h1 h2 h3 h4 hy)
theorem Ra{h:Nat}{last:Int}{e:Cl}:∀{zs:List Ntc} {ch:Cht},InS (zs.foldl (Am h last) ch).sea h e↔InS ch.sea h e
 |[],_=>Iff.rfl
 |n::r,ch=>(Ra (zs:=r)).trans X0
theorem Jp{α:Type}[DecidableEq α]:∀{l m:List α},l.Nodup→(∀x∈l,x∈m)→l.length≤m.length
 |[],m,_,_=>Nat.zero_le _
 |x::r,m,nd,h=>by
  obtain⟨h1,h2⟩:=List.nodup_cons.mp nd;have hx:=h x (List.mem_cons_self ..)
  have:=Jp (l:=r) (m:=m.erase x) h2 fun y hy=>(List.mem_erase_of_ne (fun e=>h1 (by rw[←e];exact hy))).mpr (h y (List.mem_cons_of_mem _ hy))
  rw[List.length_erase_of_mem hx] at this;have hp:=List.length_pos_of_mem hx;rw[List.length_cons];omega
theorem Ad4{zs:List Ntc}(so:zs.Pairwise Dj):zs.Nodup:=so.imp fun {a b} h e=>by subst e;unfold Dj Aw at h;omega
theorem Aby{s:List (List Int)}{h:Nat}{ns zs:List Ntc}{held:Int}(so:zs.Pairwise Dj)(hm:∀n,n∈zs↔n∈ns∧n.num≤held)(nok:NtsOk s h ns):zs.length≤30:=by
 have:=Jp (Ad4 so) fun x hx=>((hm x).mp hx).1
 have:=nok.len
 omega
noncomputable abbrev s_chart_behind:Stmt:=top 65
noncomputable abbrev Ik:List Str:=["sea", "notices", "held", "last_day", "chart", "number", "day", "deed", "do_deed"]
noncomputable abbrev A0:List Str:=["sea", "notices", "held", "last_day"]
theorem sc_chart_behind:FnScope Ik A0 (defScope s_chart_behind):=⟨rfl,rfl,rfl,by decide +kernel,rfl,by decide +kernel,by decide +kernel⟩
noncomputable def Ex(C T0:Addr)(q:Str):DSp:=fun ds G Q _=>∃s h p ns held last,ds=[seaD s,.ref p,.int held,.int last]∧SeaOk s h∧G p=some (.lst (ns.map As))∧NtsOk s h ns∧G T0=some (.tbl q)∧last≤400∧∀x a b c zs G',Sub G G'→Bm ns held zs→ChAt C G' x a b c (runN h last s zs)→(∃m,m≤30∧ChOk h m (max 0 last) (runN h last s zs))→Q (.ref x) G'
theorem Sv{f fi aO g0 g1 g2 g3 g4:Addr}{fd fdi:FuncData}{q:Str}(F:Fun K "chart_behind" "chart_behind" s_chart_behind f fd)(T:So P w K mg C aO g0 g1 g2 g3 g4)(Aix:Def P w K mg base CX0 2 "in_order" p_in_order (spOrder T0 q))(M_Chart:Mk K C fi)(F_Chart:FnOk P w K mg base CX0 1 fi fdi Bc (liftSp K (Kl C)))(B_Chart:Binds K fdi Bc [])(V_do_deed:∀f sp,IsDo C g0 g1 g2 g3 g4 f sp→FnV P w K mg base CX0 8 f sp):FnOk P w K mg base CX0 12 f fd A0 (liftSp K (Ex C T0 q)):=by
 refine okD F sc_chart_behind (fun ds G Q E h=>?_) (fun cdv A outer s H XE ds G Q E hr h=>?_)
 ·obtain⟨_,_,_,_,_,_,rfl,_⟩:=h;rfl
 ·obtain⟨sa,h,p,ns,held,last,rfl,ok,hp,nok,hT,l4,k⟩:=h;refine⟨_,#["d",#["j",4,sc_chart_behind.nd,#["aR",M_Chart,F_Chart,hr,T.Chart,B_Chart,#["b",#["a",0]]]],#["d",#["P",#["e",Aix,hr,#["c",#["a",1],#["b",#["a",2]]]],#["x",3,#["l",#["g",5,sc_chart_behind.nd],#["l",#["g",6,sc_chart_behind.nd],#["y",#["g",7,sc_chart_behind.nd]]]]],#["f",#["A",#["aC",#["a",6],#["a",3]],#["d",#["j",8,sc_chart_behind.nd,#["ay",T.K_DOINGS,#["ah",T.DOINGS],#["k",#["a",7]]]],#["f",#["A",#["n",#["m",#["az",8,V_do_deed,hr,#["c",#["a",4],#["c",#["a",6],#["b",#["aA",#["a",7]]]]]]]],#["f",#["u",#["1",#["r",T.cls,T.na_undone,#["a",4]],#["a",5]]]]]]]]]],#["f",#["h",#["a",4]]]]],?_⟩;simp![Kl,spOrder];intro x hx G1 a b c ca ga kp;obtain⟨gx,ga',gb,gc,hab⟩:=ca;have k1:Sub G G1:=fun b o h=>kp b o (fun z=>by subst z;rw[hx] at h;cases h) (Au h hx)
  have ch0:ChAt C G1 x a b c ⟨sa,[],[],[]⟩:=⟨gx,ga',gb,gc,hab⟩;refine⟨sa,h,ns,k1 _ _ hp,nok,k1 _ _ hT,fun l zs hl so hm=>⟨_,Af Aa,?_⟩⟩;have cl:ChAt C (Ab G1 l (.lst (zs.map As))) x a b c ⟨sa,[],[],[]⟩:=ch0.sub (Sub.new hl);have gl:Ab G1 l (.lst (zs.map As)) l=some (.lst (zs.map As)):=Aa;have sl:Sub G1 (Ab G1 l (.lst (zs.map As))):=Sub.new hl;have nl:l≠x∧l≠a∧l≠b∧l≠c:=⟨(gne ch0.gx hl).symm,(gne ch0.ga hl).symm,(gne ch0.gb hl).symm,(gne ch0.gc hl).symm⟩;have zlen:zs.length≤30:=Aby so hm nok;have G0:∀y o,G y=some o→y≠x∧y≠a∧y≠b∧y≠c:=fun y o hy=>by
   have hyx:y≠x:=gne hy hx;have hu:Ab G x (.ins C []) y=some o:=Au hy hx;exact⟨hyx,gne hu ga.1,gne hu ga.2.1,gne hu ga.2.2⟩
  generalize Ab G1 l (.lst (zs.map As))=GL at *;have inF:∀i e,InS ((zs.take i).foldl (Am h last) ⟨sa,[],[],[]⟩).sea h e↔InS sa h e:=fun i e=>Ra;refine Bn (fun i σ G'=>∃v5 v6 v7 v8 dy,σ=[some (seaD sa),some (.ref p),some (.int held),some (.int last),some (.ref x),v5,v6,v7,v8]∧ChAt C G' x a b c ((zs.take i).foldl (Am h last) ⟨sa,[],[],[]⟩)∧Else GL G' x a b c∧ChOk h i dy ((zs.take i).foldl (Am h last) ⟨sa,[],[],[]⟩)∧(0≤dy∧dy≤max 0 last)∧∀n∈zs.drop i,dy≤n.day) ⟨none,none,none,none,0,rfl,cl,Else.refl,⟨ok,fun p hp=>(by cases hp),fun p hp=>(by cases hp),List.nodup_nil,Nat.le_refl _,Nat.le_refl _⟩,⟨Int.le_refl _,by omega⟩,fun n hn=>(nok.ok n ((hm n).mp (List.mem_of_mem_drop hn)).1).day.1⟩ (fun i σ G' _ ⟨_,_,_,_,_,_,_,e,_⟩=>Af (e l _ nl.1 nl.2.1 nl.2.2.1 nl.2.2.2 gl)) ?_ ?_
  ·rintro i y σ G' hy ⟨v5,v6,v7,v8,dy,rfl,cg,eg,og,⟨y0,y1⟩,hdy⟩;rw[List.getElem?_map] at hy;obtain⟨n,hn,rfl⟩:=Option.map_eq_some_iff.mp hy;have hi:i<zs.length:=(List.getElem?_eq_some_iff.mp hn).1;have hmn:=(hm n).mp (List.mem_of_getElem? hn);have nk:=nok.ok n hmn.1;have ft:(zs.take (i+1)).foldl (Am h last) ⟨sa,[],[],[]⟩=Am h last ((zs.take i).foldl (Am h last) ⟨sa,[],[],[]⟩) n:=Ft hn;have dk:C9 ((zs.take i).foldl (Am h last) ⟨sa,[],[],[]⟩).sea h n.deed:=Zs (inF i) nk.deed;have dr:zs.drop i=n::zs.drop (i+1):=by obtain⟨h1,h2⟩:=List.getElem?_eq_some_iff.mp hn;rw[←h2,List.getElem_cons_drop]
   have hdn:dy≤n.day:=hdy n (by rw[dr];exact List.mem_cons_self ..)
   have later:∀m∈zs.drop (i+1),n.day≤m.day:=fun m hmm=>by
    have:(zs.drop i).Pairwise Dj:=List.Pairwise.sublist (List.drop_sublist i zs) so
    rw[dr] at this
    have:=(List.pairwise_cons.mp this).1 m hmm
    unfold Dj Aw at this;simp only at this;omega
   have ei:∀G:Gp,Bh G (Gy n.deed) 0=some (.str n.deed.word):=fun _=>by unfold Gy;rw[Ho,T2]
   have es:∀(G:Gp) (Q:DK),Dl G (Gy n.deed) (some 1) none Q=Q (.tup n.deed.parts) G:=fun G Q=>by rw[show Gy n.deed=.tup (.str n.deed.word::n.deed.parts) from rfl,Eo,Abj]
   obtain⟨g,hv,hR⟩:=do_at (C:=C) (g0:=g0) (g1:=g1) (g2:=g2) (g3:=g3) (g4:=g4) n.deed;generalize (zs.take i).foldl (Am h last) ⟨sa,[],[],[]⟩=ch at *;simp![As,ei,es]
   by_cases hle:n.day≤last
   ·have o1:=Abd (og.later hdn (Nat.le_refl i)) nk.day.1 dk;have o2:=Xz (last:=last) og hdn nk.day.1 dk;have est:Am h last ch n=if (doN h ch n.day n.deed).2=true then (doN h ch n.day n.deed).1 else { (doN h ch n.day n.deed).1 with undone:=(doN h ch n.day n.deed).1.undone++[n.num] }:=by unfold Am;rw[if_pos hle]
    rw[←ft] at est o2;refine it0 hle ⟨_,hv,g,rfl,_,hR,x,a,b,c,ch,h,i,n.day,n.deed,rfl,cg,og.later hdn (Nat.le_refl i),by omega,nk.day.1,nk.day.2,dk,rfl,fun G2 cg2 el2=>⟨_,rfl,?_⟩⟩
    cases hb:(doN h ch n.day n.deed).2 with
    |true=>
     rw[hb,if_pos rfl] at est;exact it1 (by decide) (Fs.of ⟨_,_,_,_,rfl,by rw[est];exact cg2,eg.trans el2,_,o2,nk.day.1,by omega,later⟩)
    |false=>
     rw[hb,if_neg (by decide)] at est
     have lu:=o1.lu;refine it0 rfl ⟨_,cg2.gx,_,rfl,c,rfl,⟨_,cg2.gc⟩,_,cg2.gc,by rw[List.length_map,sizeLine_eq];omega,Fs.of ⟨_,_,_,_,rfl,?_,(eg.trans el2).upd (.inr (.inr (.inr rfl))),_,o2,nk.day.1,by omega,later⟩⟩
     rw[est]
     have:=cg2.setC ((doN h ch n.day n.deed).1.undone++[n.num])
     rw[List.map_append] at this;exact this
   ·have est:Am h last ch n=ch:=by unfold Am;rw[if_neg hle]
    rw[←ft] at est;exact it1 hle (Fs.of ⟨_,_,_,_,rfl,by rw[est];exact cg,eg,dy,by rw[est];exact og.later (Int.le_refl _) (Nat.le_succ i),y0,y1,fun m hmm=>Int.le_trans hdn (later m hmm)⟩)
  ·rintro σ G' ⟨v5,v6,v7,v8,dy,rfl,cg,eg,og,⟨y0,y1⟩,hdy⟩;rw[List.length_map,List.take_length] at cg og;simp![];refine Fq.of (k x a b c zs G' (fun y o hy=>?_) ⟨so,hm⟩ cg ⟨_,zlen,og.later y1 (Nat.le_refl _)⟩);obtain⟨h1,h2,h3,h4⟩:=G0 y o hy;exact eg y o h1 h2 h3 h4 (sl _ _ (k1 _ _ hy))
noncomputable abbrev s_chart_of:Stmt:=top 66
noncomputable abbrev P3:List Str:=["sea", "notices", "held", "day"]
noncomputable abbrev p_chart_of:List Str:=["sea", "notices", "held", "day"]
theorem Nk:FnScope P3 p_chart_of (defScope s_chart_of):=⟨rfl,rfl,rfl,by decide +kernel,rfl,by decide +kernel,by decide +kernel⟩
noncomputable def spChartOf(C T0:Addr)(q:Str):DSp:=fun ds G Q _=>∃s h p ns held day,ds=[seaD s,.ref p,.int held,.int day]∧SeaOk s h∧G p=some (.lst (ns.map As))∧NtsOk s h ns∧G T0=some (.tbl q)∧(0≤held∧held≤99)∧(0≤day∧day≤400)∧∀x a b c zs G',Sub G G'→Bm ns held zs→ChAt C G' x a b c (runN h day s zs)→(∃m,m≤30∧ChOk h m day (runN h day s zs))→Q (.ref x) G'
theorem Pe{f:Addr}{fd:FuncData}{q:Str}(F:Fun K "chart_of" "chart_of" s_chart_of f fd)(T:Sn mg)(Aic:Def P w K mg base CX0 7 "check_notices" p_check_notices spNtsC)(Aid:Def P w K mg base CX0 2 "check_held" p_check_held (spChk 0 99))(Ah9:Def P w K mg base CX0 3 "check_day" p_check_day (spChk 0 400))(Aie:Def P w K mg base CX0 12 "chart_behind" A0 (Ex C T0 q)):FnOk P w K mg base CX0 13 f fd p_chart_of (liftSp K (spChartOf C T0 q)):=by
 refine okD F Nk (fun ds G Q E h=>?_) (fun cdv A outer s H XE ds G Q E hr h=>?_)
 ·obtain⟨_,_,_,_,_,_,rfl,_⟩:=h;rfl
 ·obtain⟨sa,h,p,ns,held,day,rfl,ok,hp,nok,hT,⟨h0,h9⟩,⟨d0,d4⟩,k⟩:=h;refine⟨_,#["d",#["u",#["e",Aic,hr,#["c",#["a",0],#["b",#["a",1]]]]],#["d",#["u",#["e",Aid,hr,#["b",#["a",2]]]],#["d",#["u",#["e",Ah9,hr,#["b",#["a",3]]]],#["f",#["h",#["e",Aie,hr,#["c",#["a",0],#["c",#["a",1],#["c",#["a",2],#["b",#["a",3]]]]]]]]]]],?_⟩;simp![spChk];refine⟨sa,h,p,ns,rfl,ok,hp,nok,h0,h9,d0,d4,sa,h,p,ns,held,day,rfl,ok,hp,nok,hT,d4,fun x a b c zs G' e1 e2 e3 e4=>Fq.of (k x a b c zs G' e1 e2 e3 ?_)⟩;obtain⟨m,m3,o⟩:=e4;exact⟨m,m3,by rw[show max 0 day=day by omega] at o;exact o⟩
noncomputable abbrev s_void:Stmt:=top 67
noncomputable abbrev Aer:List Str:=["sea", "notices", "held"]
noncomputable abbrev p_void:List Str:=["sea", "notices", "held"]
theorem X9:FnScope Aer p_void (defScope s_void):=⟨rfl,rfl,rfl,by decide +kernel,rfl,by decide +kernel,by decide +kernel⟩
noncomputable def spVoid(T0:Addr)(q:Str):DSp:=fun ds G Q _=>∃s h p ns held,ds=[seaD s,.ref p,.int held]∧SeaOk s h∧G p=some (.lst (ns.map As))∧NtsOk s h ns∧G T0=some (.tbl q)∧(0≤held∧held≤99)∧∀zs,Bm ns held zs→∀l (ms:List Int),G l=none→ms.Perm (runN h 400 s zs).undone→ms.Pairwise (·≤·)→Q (.ref l) (Ab G l (.lst (ms.map D.int)))
theorem Y1{f:Addr}{fd:FuncData}{q:Str}(F:Fun K "void" "void" s_void f fd)(T:Sy K mg C)(Aic:Def P w K mg base CX0 7 "check_notices" p_check_notices spNtsC)(Aid:Def P w K mg base CX0 2 "check_held" p_check_held (spChk 0 99))(Aie:Def P w K mg base CX0 12 "chart_behind" A0 (Ex C T0 q)):FnOk P w K mg base CX0 13 f fd p_void (liftSp K (spVoid T0 q)):=by
 refine okD F X9 (fun ds G Q E h=>?_) (fun cdv A outer s H XE ds G Q E hr h=>?_)
 ·obtain⟨_,_,_,_,_,rfl,_⟩:=h;rfl
 ·obtain⟨sa,h,p,ns,held,rfl,ok,hp,nok,hT,⟨h0,h9⟩,k⟩:=h;refine⟨_,#["d",#["u",#["e",Aic,hr,#["c",#["a",0],#["b",#["a",1]]]]],#["d",#["u",#["e",Aid,hr,#["b",#["a",2]]]],#["f",#["h",#["aS",T,#["b",#["r",T.cls,T.na_undone,#["e",Aie,hr,#["c",#["a",0],#["c",#["a",1],#["c",#["a",2],#["b",#["E",T.LAST_DAY]]]]]]]]]]]]],?_⟩;simp![spChk];refine⟨sa,h,p,ns,rfl,ok,hp,nok,h0,h9,sa,h,p,ns,held,400,rfl,ok,hp,nok,hT,by decide,fun x a b c zs G' sb od ca oc=>?_⟩
  obtain⟨m,m3,o⟩:=oc;have lu:=o.lu;exact⟨x,rfl,_,ca.gx,_,rfl,c,rfl,_,ca.gc,by omega,fun l ms hl pm so=>⟨_,Qi sb,k zs od l ms (sb.none hl) pm so⟩⟩
noncomputable abbrev s_mark_at:Stmt:=top 68
noncomputable abbrev Tr:List Str:=["sea", "notices", "held", "day", "mark", "chart"]
noncomputable abbrev p_mark_at:List Str:=["sea", "notices", "held", "day", "mark"]
theorem sc_mark_at:FnScope Tr p_mark_at (defScope s_mark_at):=⟨rfl,rfl,rfl,by decide +kernel,rfl,by decide +kernel,by decide +kernel⟩
noncomputable def spMarkAt(T0:Addr)(q:Str):DSp:=fun ds G Q _=>∃s h p ns held day m,ds=[seaD s,.ref p,.int held,.int day,.int m]∧SeaOk s h∧G p=some (.lst (ns.map As))∧NtsOk s h ns∧G T0=some (.tbl q)∧(0≤held∧held≤99)∧(0≤day∧day≤400)∧(1≤m∧m≤12)∧∀zs,Bm ns held zs→
 (∀bt,getB (runN h day s zs).adrift m=some bt→∀ms:List Cl,ms.Pairwise Aw→(∀y,y∈ms↔Drift (runN h day s zs).sea h bt.cell (day-bt.x).toNat y)→Q (.tup [.str "adrift",.tup (ms.map cellD)]) G)∧
 (getB (runN h day s zs).adrift m=none→(∀bt,getB (runN h day s zs).placed m=some bt→Q (.tup [.str "at",cellD bt.cell]) G)∧(getB (runN h day s zs).placed m=none→Q (.tup [.str "ashore"]) G))
theorem Si{f:Addr}{fd:FuncData}{q:Str}(F:Fun K "mark_at" "mark_at" s_mark_at f fd)(T:Sy K mg C)(Aiy:Def P w K mg base CX0 13 "chart_of" p_chart_of (spChartOf C T0 q))(Aiz:Def P w K mg base CX0 3 "check_mark" p_check_mark (spChk 1 12))(Aib:Def P w K mg base CX0 7 "cells_adrift" p_cells_adrift (spCellsA C)):FnOk P w K mg base CX0 14 f fd p_mark_at (liftSp K (spMarkAt T0 q)):=by
 refine okD F sc_mark_at (fun ds G Q E h=>?_) (fun cdv A outer s H XE ds G Q E hr h=>?_)
 ·obtain⟨_,_,_,_,_,_,_,rfl,_⟩:=h;rfl
 ·obtain⟨sa,h,p,ns,held,day,m,rfl,ok,hp,nok,hT,hh,⟨d0,d4⟩,⟨m1,m2⟩,k⟩:=h;refine⟨_,#["d",#["j",5,sc_mark_at.nd,#["e",Aiy,hr,#["c",#["a",0],#["c",#["a",1],#["c",#["a",2],#["b",#["a",3]]]]]]],#["d",#["u",#["e",Aiz,hr,#["b",#["a",4]]]],#["d",#["A",(@qt_cmp _ _ _ _ _ _ _ _ (@o_kin _) #["a",4] #["r",T.cls,T.na_adrift,#["a",5]] (by with_unfolding_all rfl)),#["f",#["h",#["i",#["D",#["b",#["e",Aib,hr,#["c",#["a",5],#["c",#["a",4],#["b",#["a",3]]]]]]]]]]],#["d",#["A",(@qt_cmp _ _ _ _ _ _ _ _ (@o_kin _) #["a",4] #["r",T.cls,T.na_placed,#["a",5]] (by with_unfolding_all rfl)),#["f",#["h",#["i",#["D",#["b",#["k",#["6",#["r",T.cls,T.na_placed,#["a",5]],#["a",4]]]]]]]]],#["f",#["h",#["i",#["c",(@Aal _ _ _ _),(@qa_nil _)]]]]]]]],?_⟩
  simp![spChk];refine⟨sa,h,p,ns,held,day,rfl,ok,hp,nok,hT,hh,⟨d0,d4⟩,fun x a b c zs G' sb od ca ⟨mm,m3,oc⟩=>⟨m1,m2,?_⟩⟩;obtain⟨k1,k2⟩:=k zs od;generalize runN h day sa zs=ch at *;refine⟨x,rfl,_,ca.gx,_,rfl,b,rfl,_,ca.gb,?_⟩;rw[Ce];cases hb:getB ch.adrift m with
  |some bt=>
   have hac:InS ch.sea h bt.cell∧0≤bt.x∧bt.x≤day:=oc.ac _ (Q9 hb);obtain⟨hin,x0,x1⟩:=hac;exact it0 rfl ⟨x,a,b,c,ch,h,m,day,bt,rfl,ca,oc.sea,hb,hin,by omega,by omega,fun ms so hms=>⟨szl (by decide),G,sb,k1 bt hb ms so hms⟩⟩
  |none=>
   obtain⟨k3,k4⟩:=k2 hb;refine it1 (by decide) ⟨x,rfl,_,ca.gx,_,rfl,a,rfl,_,ca.ga,?_⟩
   rw[Ce];cases ha:getB ch.placed m with
   |some bt=>
    exact it0 rfl ⟨x,rfl,_,ca.gx,_,rfl,a,rfl,_,ca.ga,btD bt,by rw[Ce,ha];rfl,_,by unfold btD;rw[Ho,T2],szl (by decide),G,sb,k3 bt ha⟩
   |none=>exact it1 (by decide) ⟨szl (by decide),G,sb,k4 ha⟩
end
section
variable{P:Program}{w:World}{K:W.Frag}{mg:Str→Option Value}{base:Heap}
noncomputable def LDr(s:List (List Int))(h:Nat)(c:Cl)(days:Int)(G:Gp)(i:Nat)(σ:DSt)(G':Gp):Prop:=∃(ms:List Cl) (l:Addr) (av:D) (v:Option D),σ=[some (seaD s),some (cellD c),some (.int days),some (.ref l),some av,v]∧Sub G G'∧G' l=some (.lst (ms.map cellD))∧ms.Pairwise Aw∧(∀x,x∈ms↔Ball s h c i x)∧
 (av=.non∨∃(l':Addr) (ms':List Cl),av=.ref l'∧G' l'=some (.lst (ms'.map cellD))∧(ms=ms'→∀y∈ms,∀x∈B8 s h y,x∈ms))
noncomputable abbrev s_L_drift:Stmt:=top 76
noncomputable abbrev Tz:List Str:=["_law_sea_here", "_law_cell", "_law_days", "_law_found", "_law_ahead", "_law_day"]
noncomputable abbrev p_L_drift:List Str:=["_law_sea_here", "_law_cell", "_law_days"]
theorem sc_L_drift:FnScope Tz p_L_drift (defScope s_L_drift):=⟨rfl,rfl,rfl,by decide +kernel,rfl,by decide +kernel,by decide +kernel⟩
theorem Sj{f:Addr}{fd:FuncData}(F:Fun K "_law_drift" "_law_drift" s_L_drift f fd)(T:Blt mg)(Ai0:Def P w K mg base CX0 1 "_law_round" Cm Go):FnOk P w K mg base CX0 2 f fd p_L_drift (liftSp K spDrift):=by
 refine okD F sc_L_drift (fun ds G Q E h=>?_) (fun cdv A outer s H XE ds G Q E hr h=>?_)
 ·obtain⟨_,_,_,_,rfl,_⟩:=h;rfl
 ·obtain⟨s,h,c,days,rfl,ok,hc,d0,d1,k⟩:=h;refine⟨_,#["d",#["2",3,4,sc_L_drift.nd,#["c",#["w",#["b",#["a",1]]],#["c",(@q_non _ _ _),(@qa_nil _)]]],#["d",#["A",#["7",#["v",#["v",#["a",0],#["k",#["a",1]]],#["k",#["a",1]]]],#["f",#["h",#["V",T,#["b",#["a",3]]]]]],#["d",#["4",T,#["b",#["a",2]],#["g",5,sc_L_drift.nd],#["f",#["A",#["H",#["Q",hr],#["a",3],#["a",4]],#["d",#["j",4,sc_L_drift.nd,#["a",3]],#["f",#["j",3,sc_L_drift.nd,#["e",Ai0,hr,#["c",#["a",0],#["b",#["a",3]]]]]]]]]],#["f",#["h",#["V",T,#["b",#["a",3]]]]]]]],?_⟩;have sz1:1≤sizeLine:=szl (by decide)
  obtain⟨e1,e2,e3,e4⟩:=Ol ok hc;simp![sz1,Dc,Dd,C3,e1,My,e2];intro p hp;have hw:wat s h c=true↔Ej s c≠0:=by
   unfold wat;simp only[Bool.and_eq_true,decide_eq_true_eq];exact⟨fun z=>z.2,fun z=>⟨hc,z⟩⟩
  by_cases hz:Ej s c=0
  ·refine it0 hz ⟨_,Af Aa,G,Sub.new hp,?_⟩;exact k [c] (List.pairwise_singleton _ _) fun x=>by rw[List.mem_singleton,Drift,if_neg fun z=>hw.mp z hz]
  ·refine it1 hz ⟨by omega,by omega,?_⟩
   refine Bl (LDr s h c days G) ⟨[c],p,.non,none,rfl,Sub.new hp,Aa,List.pairwise_singleton _ _,fun x=>by rw[List.mem_singleton];exact Iff.rfl,.inl rfl⟩ ?_ ?_
   ·rintro i σ G1 hi ⟨ms,l,av,v,rfl,sb,gl,hpw,hm,hav⟩;have hin:∀x∈ms,InS s h x:=fun x hx=>Ball.inS hc ((hm x).mp hx);have h144:=C6 ok (Ju hpw) hin;have go:Go [seaD s,.ref l] G1 (fun x G2=>Fs (LDr s h c days G (i+1)) [some (seaD s),some (cellD c),some (.int days),some x,some (.ref l),some (.int i)] G2) noX:=by
     refine⟨s,h,l,ms,rfl,ok,gl,h144,hin,fun l2 ms2 hl2 hp2 hm2=>Fs.of ⟨ms2,l2,.ref l,_,rfl,sb.trans (Sub.new hl2),Aa,hp2,fun x=>?_,.inr ⟨l,ms,rfl,Au gl hl2,fun e y hy x hx=>?_⟩⟩⟩
     ·rw[hm2,hm];show _↔_∨_;constructor
      ·rintro(h|⟨y,hy,hx⟩)
       ·exact .inl h
       ·exact .inr ⟨y,(hm y).mp hy,hx⟩
      ·rintro(h|⟨y,hy,hx⟩)
       ·exact .inl h
       ·exact .inr ⟨y,(hm y).mpr hy,hx⟩
     ·rw[e] at hy;exact(hm2 x).mpr (.inr ⟨y,hy,hx⟩)
    simp![];rcases hav with rfl|⟨l',ms',rfl,gl',hcl⟩
    ·refine Sz gl ?_;exact⟨true,rfl,it0 rfl go⟩
    ·refine S0 gl gl' ?_
     by_cases he:ms=ms'
     ·refine⟨false,by simp[he],it1 (by decide) (Fs.of ⟨ms,l,.ref l',_,rfl,sb,gl,hpw,fun x=>?_,.inr ⟨l',ms',rfl,gl',hcl⟩⟩)⟩
      exact Ball.stop hm (hcl he) 1 x
     ·exact⟨true,by simp[he],it0 rfl go⟩
   ·rintro σ G1 ⟨ms,l,av,v,rfl,sb,gl,hpw,hm,hav⟩;simp![Af gl];exact⟨G,sb,k ms hpw fun x=>by rw[hm,Drift,if_pos (hw.mpr hz)]⟩
theorem X8{s:List (List Int)}{h x y:Nat}{d:Int}(ok:SeaOk s h)(hx:x<s.length)(hy:y<h):seaD (Ei s ((x:Int),(y:Int)) d)=.tup ((s.map A6).take x++[.tup (((s.getD x []).map D.int).take y++[.int d]++((s.getD x []).map D.int).drop (y+1))]++(s.map A6).drop (x+1)):=by
 obtain⟨hcl,_⟩:=ok.colD hx;show D.tup ((s.set (x:Int).toNat ((s.getD (x:Int).toNat []).set (y:Int).toNat d)).map A6)=_;rw[Int.toNat_natCast,Int.toNat_natCast,List.map_set,List.set_eq_take_append_cons_drop,if_pos (by rw[List.length_map];exact hx)]
 show D.tup ((s.map A6).take x++.tup (((s.getD x []).set y d).map D.int)::(s.map A6).drop (x+1))=_;rw[List.map_set,List.set_eq_take_append_cons_drop,if_pos (by rw[List.length_map];omega)];simp
noncomputable abbrev s_L_put:Stmt:=top 77
noncomputable abbrev Aad:List Str:=["_law_sea_here", "_law_column", "_law_row", "_law_depth", "_law_changed"]
noncomputable abbrev p_L_put:List Str:=["_law_sea_here", "_law_column", "_law_row", "_law_depth"]
theorem sc_L_put:FnScope Aad p_L_put (defScope s_L_put):=⟨rfl,rfl,rfl,by decide +kernel,rfl,by decide +kernel,by decide +kernel⟩
noncomputable def spLPut:DSp:=fun ds G Q _=>∃s h c d,ds=[seaD s,.int c.1,.int c.2,.int d]∧SeaOk s h∧InS s h c∧Q (seaD (Ei s c d)) G
theorem Y9{f:Addr}{fd:FuncData}(F:Fun K "_law_put" "_law_put" s_L_put f fd)(T:Nums mg):FnOk P w K mg base CX0 1 f fd p_L_put (liftSp K spLPut):=by
 refine okD F sc_L_put (fun ds G Q E h=>?_) (fun cdv A outer s H XE ds G Q E hr h=>?_)
 ·obtain⟨_,_,_,_,rfl,_⟩:=h;rfl
 ·obtain⟨s,h,c,d,rfl,ok,hin,k⟩:=h;obtain⟨x,y,rfl,hx,hy⟩:=hin.nat;obtain⟨hcl,hcv⟩:=ok.colD hx;have hw:=ok.wide;have hh:=ok.high;refine⟨_,#["d",#["j",4,sc_L_put.nd,#["B",#["B",#["aj",#["v",#["a",0],#["a",1]],#["W",#["a",2]]],#["i",#["b",#["a",3]]]],#["ak",#["v",#["a",0],#["a",1]],#["W",#["G",#["a",2]]]]]],#["f",#["h",#["B",#["B",#["aj",#["a",0],#["W",#["a",1]]],#["i",#["b",#["a",4]]]],#["ak",#["a",0],#["W",#["G",#["a",1]]]]]]]],?_⟩;have e1:∀G:Gp,Bh G (seaD s) (x:Int)=some (A6 (s.getD x [])):=fun G=>by
   rw[C3];refine B5 ?_;rw[List.getElem?_map,List.getElem?_eq_getElem hx,List.getD_eq_getElem?_getD,List.getElem?_eq_getElem hx];rfl
  have esl:∀(G:Gp) (lo hi:Option Int) (Q:DK),Dl G (seaD s) lo hi Q=Q (.tup (Ct (s.map A6) lo hi)) G:=fun _ _ _ _=>Eo;have esr:∀(G:Gp) (c:List Int) (lo hi:Option Int) (Q:DK),Dl G (A6 c) lo hi Q=Q (.tup (Ct (c.map D.int) lo hi)) G:=fun _ _ _ _ _=>Eo;have sz:∀{n},n≤100→n≤sizeLine:=fun h=>szl (by omega)
  have sz1:=sz (n:=1) (by decide)
  simp![sz1,esl,e1,esr];have ey:((y:Int)+1)=((y+1:Nat):Int):=by omega
  have ex:((x:Int)+1)=((x+1:Nat):Int):=by omega
  rw[ey,ex,He,Kw,He,Kw];refine⟨sz ?_,sz ?_,sz ?_,sz ?_,Fq.of ?_⟩
  ·simp only[List.length_take,List.length_map];omega
  ·simp only[List.length_append,List.length_take,List.length_drop,List.length_map,List.length_singleton];omega
  ·simp only[List.length_take,List.length_map];omega
  ·simp only[List.length_append,List.length_take,List.length_drop,List.length_map,List.length_singleton];omega
  ·rw[←X8 ok hx hy];exact k
noncomputable abbrev s_L_water:Stmt:=top 78
noncomputable abbrev Tw:List Str:=["_law_box_here", "_law_sea_here", "_law_some"]
noncomputable abbrev p_L_water:List Str:=["_law_box_here", "_law_sea_here"]
theorem sc_L_water:FnScope Tw p_L_water (defScope s_L_water):=⟨rfl,rfl,rfl,by decide +kernel,rfl,by decide +kernel,by decide +kernel⟩
theorem nd_L_water_1:((["_law_column"]:List Str)++(["_law_box_here", "_law_sea_here", "_law_some"]:List Str)).Nodup:=by decide +kernel
theorem nd_L_water_2:((["_law_cell"]:List Str)++(["_law_box_here", "_law_sea_here", "_law_some"]:List Str)).Nodup:=by decide +kernel
noncomputable def spWaterL:DSp:=fun ds G Q _=>∃a s h,ds=[.ref a,seaD s]∧Dg (G a)∧SeaOk s h∧(∀c G',InS s h c→wat s h c=true→Step a G G'→Q (cellD c) G')∧∀G',Step a G G'→Q .non G'
theorem Se{f:Addr}{fd:FuncData}(F:Fun K "_law_water" "_law_water" s_L_water f fd)(T:Nums mg)(Ah0:Def P w K mg base CX0 2 "_law_take" p_L_take spTake):FnOk P w K mg base CX0 3 f fd p_L_water (liftSp K spWaterL):=by
 refine okD F sc_L_water (fun ds G Q E h=>?_) (fun cdv A outer s H XE ds G Q E hr h=>?_)
 ·obtain⟨_,_,_,rfl,_⟩:=h;rfl
 ·obtain⟨a,s,h,rfl,hG,ok,k1,k2⟩:=h;refine⟨_,#["d",#["aT",["_law_column"],["_law_box_here", "_law_sea_here", "_law_some"],2,T,#["b",#["p",T,#["b",#["F",1]]]],#["R",0,nd_L_water_1],#["i",#["c",#["a",0],#["b",#["e",Ah0,hr,#["c",#["F",1],#["b",#["p",T,#["b",#["k",#["F",2]]]]]]]]]],sc_L_water.nd,(by first|exact .inl rfl|exact .inr rfl),(by first|exact .inl rfl|exact .inr rfl)],#["d",#["aU",["_law_cell"],["_law_box_here", "_law_sea_here", "_law_some"],2,#["a",2],#["R",0,nd_L_water_2],(@qf_one _ _ _ #["ag",#["v",#["v",#["F",2],#["k",#["a",0]]],#["k",#["a",0]]]]),#["a",0],sc_L_water.nd,(by first|exact .inl rfl|exact .inr rfl),(by first|exact .inl rfl|exact .inr rfl)],#["f",#["h",#["am",#["H",(@o_neE _ _ hr),#["a",2],#["3"]],#["v",#["a",2],#["e",Ah0,hr,#["c",#["F",0],#["b",#["p",T,#["b",#["a",2]]]]]]],(@q_non _ _ _)]]]]],?_⟩
  have sz:∀{n},n≤100→n≤sizeLine:=fun h=>szl (by omega)
  have sz2:=sz (n:=2) (by decide)
  simp![Q3];obtain⟨a0,hl0⟩:=ok.head;have hw:=ok.wide;have hh:=ok.high;refine⟨by omega,by omega,fun p hp=>?_⟩
  rw[Int.toNat_natCast];have np:=Step.ne hG hp;refine⟨fun i ys G'=>Step a G G'∧G' p=some (.lst ys)∧ys.length=i∧∃cs:List Cl,ys=cs.map cellD∧∀c∈cs,InS s h c,⟨(Step.refl hG).lay hp,Aa,rfl,[],rfl,fun c hc=>by cases hc⟩,fun i ys G' _ ⟨_,e,_⟩=>⟨trivial,e⟩,?_,?_⟩
  ·rintro i x ys G1 hx ⟨s1,g1,hl,cs,rfl,hcs⟩;have hi:i<s.length:=by
    have:=(List.getElem?_eq_some_iff.mp hx).1
    rw[Bq] at this;exact this
   rw[Eu hi] at hx;cases hx;have i0:Bh G1 (seaD s) 0=some (A6 (s.getD 0 [])):=by rw[C3];exact a0
   simp![sz2,i0,Q4];refine⟨⟨[some (.int i)],rfl,rfl⟩,?_⟩;rw[hl0];refine Ay s1.box (by omega) (by omega) fun r G2 r0 r1 s2=>?_
   refine⟨s2.get np g1,by rw[sizeLine_eq];omega,Fg.of ⟨(s1.trans s2).write hp np,Aa,by simp[hl],cs++[((i:Int),r)],by simp[cellD],fun c hc=>?_⟩⟩
   rcases List.mem_append.mp hc with z|z
   ·exact hcs c z
   ·rw[List.mem_singleton.mp z];exact⟨by omega,by omega,r0,r1⟩
  ·rintro ys G1 ⟨s1,g1,hl,cs,rfl,hcs⟩;rw[Bq] at hl;refine⟨_,Af g1,fun p1 hp1=>?_⟩;refine B2 (fun x=>x) (fun x=>wat s h (Rl x)) (by rw[sizeLine_eq];omega) (fun _=>Af (Au g1 hp1)) (by decide) (fun x ys hx hl' R1 R2 g1' g2=>?_) ?_
   ·obtain⟨c,hc,rfl⟩:=List.mem_map.mp hx;obtain⟨q1,q2,q3,q4⟩:=Ol ok (hcs c hc);have i1:∀G:Gp,Bh G (seaD s) c.1=some (A6 (s.getD c.1.toNat [])):=fun G=>by rw[C3];exact q1
    have i2:∀G:Gp,Bh G (A6 (s.getD c.1.toNat [])) c.2=some (.int (Ej s c)):=fun G=>by rw[My];exact q2
    simp![hl',Dc,Dd,i1,i2];have ew:wat s h (Rl (cellD c))=decide (0<Ej s c):=by
     rw[J6];unfold wat;rw[decide_eq_true (hcs c hc),Bool.true_and]
     by_cases z:Ej s c=0
     ·simp[z]
     ·have:0<Ej s c:=by omega
      simp[z,this]
    rw[ew] at g1' g2
    by_cases hd:0<Ej s c
    ·exact it0 hd (Fg.of (g1' (decide_eq_true hd)))
    ·exact it1 hd (Fg.of (g2 (decide_eq_false hd)))
   ·have ef:List.map (fun x=>x) (List.filter (fun x=>wat s h (Rl x)) (cs.map cellD))=(cs.filter (wat s h)).map cellD:=by rw[List.map_id',Jz]
    rw[ef];have n1:=Step.ne s1.box hp1;have s2:=s1.lay (o:=.lst ((cs.filter (wat s h)).map cellD)) hp1;have e2:Ab G1 p1 (.lst ((cs.filter (wat s h)).map cellD)) p1=some (.lst ((cs.filter (wat s h)).map cellD)):=Aa;generalize Ab G1 p1 (.lst ((cs.filter (wat s h)).map cellD))=G2 at *;refine⟨Nat.zero_le _,fun p3 hp3=>?_⟩;have s3:=s2.lay (o:=.lst []) hp3;have e3:=Au (u:=.lst []) e2 hp3;generalize Ab G2 p3 (.lst [])=G3 at *;refine⟨p1,rfl,_,e3,?_⟩;have hfl:(cs.filter (wat s h)).length≤16:=by
     have:=List.length_filter_le (wat s h) cs
     rw[List.length_map] at hl;omega
    have hmem:∀c∈cs.filter (wat s h),InS s h c∧wat s h c=true:=fun c hc=>⟨hcs c (List.mem_filter.mp hc).1,(List.mem_filter.mp hc).2⟩;cases hq:cs.filter (wat s h) with
    |nil=>rw[List.map_nil];exact it1 (by decide) (Fq.of (k2 _ s3))
    |cons c0 r0=>
     rw[←hq];refine it0 (by rw[hq];rfl) ⟨_,Q5 e3,Ay s3.box (by rw[List.length_map,hq];simp) (by rw[List.length_map];omega) fun j G4 j0 j1 s4=>?_⟩
     obtain⟨d,hd,hm⟩:=Et (xs:=(cs.filter (wat s h)).map cellD) j0 j1;obtain⟨c,hc,rfl⟩:=List.mem_map.mp hm;exact⟨j,rfl,_,by rw[Cc (s4.get n1 e3)];exact hd,Fq.of (k1 c _ (hmem c hc).1 (hmem c hc).2 (s3.trans s4))⟩
end
theorem Aap:∀{a b:List Ntc},a.Pairwise Dj→b.Pairwise Dj→(∀x,x∈a↔x∈b)→a=b
 |[],[],_,_,_=>rfl
 |[],y::_,_,_,h=>by have:=(h y).mpr (List.mem_cons_self ..);cases this
 |x::_,[],_,_,h=>by have:=(h x).mp (List.mem_cons_self ..);cases this
 |x::a,y::b,ha,hb,h=>by
  obtain⟨a1,a2⟩:=List.pairwise_cons.mp ha;obtain⟨b1,b2⟩:=List.pairwise_cons.mp hb;have irr:∀z:Ntc,¬Dj z z:=fun z h=>by unfold Dj Aw at h;omega
  have asy:∀z u:Ntc,Dj z u→¬Dj u z:=fun z u h g=>by unfold Dj Aw at h g;simp only at h g;omega
  have e:x=y:=by
   rcases List.mem_cons.mp ((h x).mp (List.mem_cons_self ..)) with e|hx
   ·exact e
   ·rcases List.mem_cons.mp ((h y).mpr (List.mem_cons_self ..)) with e|hy
    ·exact e.symm
    ·exact absurd (a1 y hy) (asy y x (b1 x hx))
  subst e;rw[Aap a2 b2 fun z=>?_];refine⟨fun hz=>?_,fun hz=>?_⟩
  ·rcases List.mem_cons.mp ((h z).mp (List.mem_cons_of_mem _ hz)) with e|q
   ·subst e;exact absurd (a1 z hz) (irr z)
   ·exact q
  ·rcases List.mem_cons.mp ((h z).mpr (List.mem_cons_of_mem _ hz)) with e|q
   ·subst e;exact absurd (b1 z hz) (irr z)
   ·exact q
theorem Fd{ns zs es:List Ntc}{held:Int}(o:Bm ns held zs)(h1:es.Pairwise Dj)(h2:∀n,n∈es↔n∈ns∧n.num≤held):zs=es:=Aap o.1 h1 fun n=>(o.2 n).trans (h2 n).symm
noncomputable def Cp(c:Cl)(sh co si:Int)(lit:Bool):Ntc:=⟨20,2,.lay 3 c sh co si lit⟩
noncomputable def chP(s:List (List Int))(c:Cl)(lk:Int×Int×Bool)(si:Int):Cht:=⟨s,[(3,⟨c,lk,si⟩)],[],[]⟩
noncomputable def chA(s:List (List Int))(c:Cl)(lk:Int×Int×Bool)(d:Int):Cht:=⟨s,[],[(3,⟨c,lk,d⟩)],[]⟩
section
variable{s:List (List Int)}{h:Nat}{c e:Cl}{sh co si g last day k:Int}{lit:Bool}{lk:Int×Int×Bool}{ch:Cht}{n:Ntc}
theorem Fc(hw:wat s h c=true)(hl:2≤last):Am h last ⟨s,[],[],[]⟩ (Cp c sh co si lit)=chP s c (sh,co,lit) si:=by
 have e1:doN h ⟨s,[],[],[]⟩ 2 (.lay 3 c sh co si lit)=(chP s c (sh,co,lit) si,true):=by
  simp only[doN];rw[if_pos ⟨rfl,hw⟩];rfl
 unfold Am Cp;simp only;rw[if_pos hl,e1,if_pos rfl]
theorem X1(hl:last<n.day):Am h last ch n=ch:=by unfold Am;rw[if_neg (by omega)]
theorem X4(hg:g≤si):Am h last (chP s c lk si) ⟨k,day,.gale g⟩=chP s c lk si:=by
 have e1:doN h (chP s c lk si) day (.gale g)=(chP s c lk si,true):=by
  have hn:¬si<g:=by omega
  simp[doN,chP,hn]
 unfold Am;simp only
 split
 ·rw[e1,if_pos rfl]
 ·rfl
theorem Ky(hg:si<g)(hl:day≤last):Am h last (chP s c lk si) ⟨k,day,.gale g⟩=chA s c lk day:=by
 have e1:doN h (chP s c lk si) day (.gale g)=(chA s c lk day,true):=by
  simp[doN,chP,chA,hg,B9]
 unfold Am;simp only;rw[if_pos hl,e1,if_pos rfl]
theorem X2{d0:Int}(hl:day≤last)(hd:Drift s h c (day-d0).toNat e):Am h last (chA s c lk d0) ⟨k,day,.seen 3 e⟩=chA s e lk day:=by
 have e1:doN h (chA s c lk d0) day (.seen 3 e)=(chA s e lk day,true):=by
  have hb:getB (chA s c lk d0).adrift 3=some ⟨c,lk,d0⟩:=rfl;simp only[doN,hb];rw[if_pos (show Drift (chA s c lk d0).sea h c (day-d0).toNat e from hd)];simp[chA,B9]
 unfold Am;simp only;rw[if_pos hl,e1,if_pos rfl]
theorem Rs{d0:Int}(hl:day≤last)(hd:¬Drift s h c (day-d0).toNat e):Am h last (chA s c lk d0) ⟨k,day,.seen 3 e⟩={ chA s c lk d0 with undone:=[k] }:=by
 have e1:doN h (chA s c lk d0) day (.seen 3 e)=(chA s c lk d0,false):=by
  have hb:getB (chA s c lk d0).adrift 3=some ⟨c,lk,d0⟩:=rfl;simp only[doN,hb];rw[if_neg (show ¬Drift (chA s c lk d0).sea h c (day-d0).toNat e from hd)]
 unfold Am;simp only;rw[if_pos hl,e1,if_neg (by simp)];rfl
theorem X3{d0 d:Int}(hl:day≤last):Am h last (chA s c lk d0) ⟨k,day,.depth e d⟩=chA (Ei s e d) c lk d0:=by
 unfold Am;simp only;rw[if_pos hl];rfl
end
section
variable{P:Program}{w:World}{K:W.Frag}{mg:Str→Option Value}{base:Heap}{T0:Addr}
noncomputable def Aq(c:Cl)(sh co si:Int)(lit:Bool):List Ntc:=[⟨21,5,.gale (si+1)⟩,Cp c sh co si lit]
structure BgOk(s:List (List Int))(h:Nat)(c:Cl)(sh co si:Int):Prop where
 sea:SeaOk s h
 inn:InS s h c
 wat:wat s h c=true
 sh:0≤sh∧sh≤2
 co:0≤co∧co≤2
 si:1≤si∧si≤8
theorem Ball.self{s:List (List Int)}{h:Nat}{c:Cl}:∀n:Nat,Ball s h c n c
 |0=>rfl
 |n+1=>.inl (Ball.self n)
theorem Drift.self{s:List (List Int)}{h:Nat}{c:Cl}{n:Nat}:Drift s h c n c:=by
 unfold Drift
 split
 ·exact Ball.self n
 ·rfl
theorem P9{G:Gp}{a b:List Cl}{x:Str}{Q:DK}(hx:PyData.canLay0 (.str x)=true)(e:a=b)(q:Q (.bl false) G):Oe (.tup [.str x,.tup (a.map cellD)]) (.tup [.str x,.tup (b.map cellD)]) G Q:=by
 subst e;refine⟨_,_,.tup (.cons (.str _) (.cons Du .nil)),.tup (.cons (.str _) (.cons Du .nil)),?_,?_,?_,?_⟩
 ·show(PyData.canLay0 (.str x)&&(PyData.canLayAll0 (a.map Av)&&true))=true;rw[hx,Be];rfl
 ·show(PyData.canLay0 (.str x)&&(PyData.canLayAll0 (a.map Av)&&true))=true;rw[hx,Be];rfl
 ·have:=C5 a
  simp only[PyData.depth,PyData.depthAll];omega
 ·have:PyData.eqv (.tuple [.str x,.tuple (a.map Av)]) (.tuple [.str x,.tuple (a.map Av)])=true:=by simp[PyData.eqv,PyData.eqvAll,D2]
  rw[this];exact q
theorem T9{G:Gp}{c:Cl}{x:Str}{Q:DK}(hx:PyData.canLay0 (.str x)=true)(q:Q (.bl false) G):Oe (.tup [.str x,cellD c]) (.tup [.str x,cellD c]) G Q:=by
 refine⟨_,_,.tup (.cons (.str _) (.cons Cb .nil)),.tup (.cons (.str _) (.cons Cb .nil)),?_,?_,?_,?_⟩
 ·show(PyData.canLay0 (.str x)&&(PyData.canLay0 (Av c)&&true))=true;rw[hx,Dp];rfl
 ·show(PyData.canLay0 (.str x)&&(PyData.canLay0 (Av c)&&true))=true;rw[hx,Dp];rfl
 ·have:=E7 c
  simp only[PyData.depth,PyData.depthAll];omega
 ·have:PyData.eqv (.tuple [.str x,Av c]) (.tuple [.str x,Av c])=true:=by simp[PyData.eqv,PyData.eqvAll,Hs]
  rw[this];exact q
theorem Hb:PyData.canLay0 (.str "adrift")=true:=by decide +kernel
theorem Ow:PyData.canLay0 (.str "at")=true:=by decide +kernel
theorem Kq{s:List (List Int)}{h:Nat}{ns:List Ntc}(hl:ns.length≤30)(ho:∀n∈ns,NtcOk s h n)(nd:(ns.map (·.num)).Nodup):NtsOk s h ns:=by
 refine⟨hl,ho,fun n hn m hm e=>?_⟩;obtain⟨i,hi,rfl⟩:=List.getElem_of_mem hn;obtain⟨j,hj,rfl⟩:=List.getElem_of_mem hm
 have:i=j:=(List.getElem_inj (h₀:=by simpa using hi) (h₁:=by simpa using hj) nd).mp (by simpa using e)
 subst this;rfl
theorem BgOk.lay{s:List (List Int)}{h:Nat}{c:Cl}{sh co si:Int}(b:BgOk s h c sh co si)(lit:Bool):NtcOk s h (Cp c sh co si lit):=⟨⟨show(1:Int)≤20 by decide,show(20:Int)≤99 by decide⟩,⟨show(0:Int)≤2 by decide,show(2:Int)≤400 by decide⟩,⟨by decide,by decide⟩,b.inn,b.sh,b.co,b.si.1,by have:=b.si.2;omega⟩
theorem BgOk.gale{s:List (List Int)}{h:Nat}{c:Cl}{sh co si:Int}(b:BgOk s h c sh co si):NtcOk s h ⟨21,5,.gale (si+1)⟩:=⟨⟨show(1:Int)≤21 by decide,show(21:Int)≤99 by decide⟩,⟨show(0:Int)≤5 by decide,show(5:Int)≤400 by decide⟩,by show 1≤si+1;have:=b.si.1;omega,by show si+1≤9;have:=b.si.2;omega⟩
theorem Cd{G:Gp}{s s':List (List Int)}{h:Nat}{p:Addr}{ns:List Ntc}{held day d0:Int}{c':Cl}{lk:Int×Int×Bool}{q:Str}{Q:DK}{E:DX}(ok:SeaOk s h)(hp:G p=some (.lst (ns.map As)))(nok:NtsOk s h ns)(hT:G T0=some (.tbl q))(hh:0≤held∧held≤99)(hd:0≤day∧day≤400)(hz:∀zs,Bm ns held zs→∃u,runN h day s zs={ chA s' c' lk d0 with undone:=u })(k:∀ms:List Cl,ms.Pairwise Aw→(∀y,y∈ms↔Drift s' h c' (day-d0).toNat y)→Q (.tup [.str "adrift",.tup (ms.map cellD)]) G):spMarkAt T0 q [seaD s,.ref p,.int held,.int day,.int 3] G Q E:=by
 refine⟨s,h,p,ns,held,day,3,rfl,ok,hp,nok,hT,hh,hd,⟨by decide,by decide⟩,fun zs oz=>?_⟩
 obtain⟨u,e⟩:=hz zs oz;rw[e];have hb:getB ({ chA s' c' lk d0 with undone:=u }:Cht).adrift 3=some ⟨c',lk,d0⟩:=rfl;refine⟨fun bt hbt ms so hms=>?_,fun hn=>by rw[hb] at hn;cases hn⟩
 rw[hb] at hbt;cases hbt;exact k ms so hms
theorem Ds{G:Gp}{s:List (List Int)}{h:Nat}{p:Addr}{ns:List Ntc}{held day si:Int}{c:Cl}{lk:Int×Int×Bool}{q:Str}{Q:DK}{E:DX}(ok:SeaOk s h)(hp:G p=some (.lst (ns.map As)))(nok:NtsOk s h ns)(hT:G T0=some (.tbl q))(hh:0≤held∧held≤99)(hd:0≤day∧day≤400)(hz:∀zs,Bm ns held zs→runN h day s zs=chP s c lk si)(k:Q (.tup [.str "at",cellD c]) G):spMarkAt T0 q [seaD s,.ref p,.int held,.int day,.int 3] G Q E:=by
 refine⟨s,h,p,ns,held,day,3,rfl,ok,hp,nok,hT,hh,hd,⟨by decide,by decide⟩,fun zs oz=>?_⟩
 rw[hz zs oz];have ha:getB (chP s c lk si).adrift 3=none:=rfl;have hb:getB (chP s c lk si).placed 3=some ⟨c,lk,si⟩:=rfl;refine⟨fun bt hbt=>(by rw[ha] at hbt;cases hbt),fun _=>⟨fun bt hbt=>?_,fun hn=>(by rw[hb] at hn;cases hn)⟩⟩
 rw[hb] at hbt;cases hbt;exact k
theorem Ey{s:List (List Int)}{h:Nat}{c e:Cl}{sh co si last day:Int}{lit:Bool}{zs:List Ntc}(b:BgOk s h c sh co si)(d5:5≤day)(hl:day≤last)(oz:Bm (Aq c sh co si lit++[⟨30,day,.seen 3 e⟩]) 99 zs) :
  (Drift s h c (day-5).toNat e→runN h last s zs=chA s e (sh,co,lit) day)∧(¬Drift s h c (day-5).toNat e→runN h last s zs={ chA s c (sh,co,lit) 5 with undone:=[30] }):=by
 have ez:zs=[Cp c sh co si lit,⟨21,5,.gale (si+1)⟩,⟨30,day,.seen 3 e⟩]:=by
  refine Fd oz ?_ fun n=>?_
  ·refine List.pairwise_cons.mpr ⟨fun m hm=>?_,List.pairwise_cons.mpr ⟨fun m hm=>?_,List.pairwise_singleton _ _⟩⟩
   ·simp only[List.mem_cons,List.not_mem_nil,or_false] at hm;rcases hm with rfl|rfl
    ·exact .inl (show(2:Int)<5 by decide)
    ·exact .inl (by show(2:Int)<day;omega)
   ·rw[List.mem_singleton.mp hm];unfold Dj Aw;show(5:Int)<day∨(5:Int)=day∧(21:Int)<30;omega
  ·simp only[Aq,List.cons_append,List.nil_append,List.mem_cons,List.not_mem_nil,or_false];constructor
   ·rintro(rfl|rfl|rfl)
    ·exact⟨.inr (.inl rfl),show(20:Int)≤99 by decide⟩
    ·exact⟨.inl rfl,by show(21:Int)≤99;decide⟩
    ·exact⟨.inr (.inr rfl),by show(30:Int)≤99;decide⟩
   ·rintro⟨rfl|rfl|rfl,_⟩
    ·exact .inr (.inl rfl)
    ·exact .inl rfl
    ·exact .inr (.inr rfl)
 subst ez;have e3:runN h last s [Cp c sh co si lit,⟨21,5,.gale (si+1)⟩,⟨30,day,.seen 3 e⟩]=Am h last (chA s c (sh,co,lit) 5) ⟨30,day,.seen 3 e⟩:=by
  show Am h last (Am h last (Am h last ⟨s,[],[],[]⟩ (Cp c sh co si lit)) ⟨21,5,.gale (si+1)⟩) ⟨30,day,.seen 3 e⟩=_;rw[Fc b.wat (by omega),Ky (by omega) (by omega)]
 rw[e3];exact⟨fun hd=>X2 hl hd,fun hd=>Rs hl hd⟩
theorem Kd{G:Gp}{p q:Addr}{xs ys zs:List D}{Q:DK}(hp:G p=some (.lst xs))(hq:G q=some (.lst ys))(hz:xs++ys=zs)(hl:xs.length+ys.length≤sizeLine)(k:∀r,G r=none→Q (.ref r) (Ab G r (.lst zs))):Rm (.ref p) (.ref q) G Q:=by
 subst hz;simp only[Rm,hp,hq];exact⟨hl,k⟩
theorem Mz{G:Gp}{ms:List Cl}{c:Cl}{Q:DK}(h:Q (.bl (decide (c∈ms))) G):Xl false (cellD c) (.tup (ms.map cellD)) G Q:=
 ⟨_,_,Cb,.inr Du,Dp c,Be ms,by rw[E7];omega,by rw[Kc];exact h⟩
theorem repI{G:Gp}:∀{ns:List Int},RepDs G (ns.map D.int) (ns.map PyData.int)
 |[]=>.nil
 |n::r=>.cons (.int n) repI
theorem layI:∀ns:List Int,PyData.canLayAll0 (ns.map PyData.int)=true
 |[]=>rfl
 |n::r=>by rw[List.map_cons,PyData.canLayAll0,layI r];rfl
theorem Abe:∀ns:List Int,PyData.depthAll (ns.map PyData.int)=0
 |[]=>rfl
 |n::r=>by rw[List.map_cons,PyData.depthAll,Abe r];rfl
theorem eqvI:∀ns:List Int,PyData.eqvAll (ns.map PyData.int) (ns.map PyData.int)=true
 |[]=>rfl
 |n::r=>by rw[List.map_cons,PyData.eqvAll,eqvI r];simp[PyData.eqv]
theorem Ms{G:Gp}{p q:Addr}{ns:List Int}{Q:DK}(hp:G p=some (.lst (ns.map D.int)))(hq:G q=some (.lst (ns.map D.int)))(h:Q (.bl false) G):Oe (.ref p) (.ref q) G Q:=
 ⟨_,_,.lst hp repI,.lst hq repI,by rw[PyData.canLay0];exact layI ns,by rw[PyData.canLay0];exact layI ns,by rw[PyData.depth,Abe];decide,by rw[PyData.eqv,eqvI];exact h⟩
noncomputable abbrev s_L_seen_right:Stmt:=top 79
noncomputable abbrev Io:List Str:=["_law_box_here", "_law_sea_here", "_law_begun", "_law_cell", "_law_days", "_law_some", "_law_there", "_law_other", "_law_place", "_law_notices", "_law_due", "_law_later", "_law_cells"]
noncomputable abbrev p_L_seen_right:List Str:=["_law_box_here", "_law_sea_here", "_law_begun", "_law_cell", "_law_days"]
theorem sc_L_seen_right:FnScope Io p_L_seen_right (defScope s_L_seen_right):=⟨rfl,rfl,rfl,by decide +kernel,rfl,by decide +kernel,by decide +kernel⟩
noncomputable def spSeen(T0:Addr)(q:Str):DSp:=fun ds G Q _=>∃a p s h c sh co si lit days,ds=[.ref a,seaD s,.ref p,cellD c,.int days]∧Dg (G a)∧G p=some (.lst ((Aq c sh co si lit).map As))∧BgOk s h c sh co si∧G T0=some (.tbl q)∧(0≤days∧days≤6)∧∀G',Step a G G'→Q (.bl true) G'
theorem Y5{f:Addr}{fd:FuncData}{q:Str}(F:Fun K "_law_seen_right" "_law_seen_right" s_L_seen_right f fd)(T:Nums mg)(Ah0:Def P w K mg base CX0 2 "_law_take" p_L_take spTake)(Ah4:Def P w K mg base CX0 2 "_law_drift" p_L_drift spDrift)(Aif:Def P w K mg base CX0 3 "_law_cell_of" p_L_cell_of spCellOf)(Ai1:Def P w K mg base CX0 13 "void" p_void (spVoid T0 q))(Ah2:Def P w K mg base CX0 14 "mark_at" p_mark_at (spMarkAt T0 q)):FnOk P w K mg base CX0 15 f fd p_L_seen_right (liftSp K (spSeen T0 q)):=by
 refine okD F sc_L_seen_right (fun ds G Q E h=>?_) (fun cdv A outer s H XE ds G Q E hr h=>?_)
 ·obtain⟨_,_,_,_,_,_,_,_,_,_,rfl,_⟩:=h;rfl
 ·obtain⟨a,p,s,h,c,sh,co,si,lit,days,rfl,hG,hp,bg,hT,⟨y0,y6⟩,k⟩:=h;refine⟨_,#["d",#["j",5,sc_L_seen_right.nd,#["e",Ah4,hr,#["c",#["a",1],#["c",#["a",3],#["b",#["a",4]]]]]],#["d",#["2",6,7,sc_L_seen_right.nd,#["c",#["v",#["a",5],#["e",Ah0,hr,#["c",#["a",0],#["b",#["p",T,#["b",#["a",5]]]]]]],#["b",#["e",Aif,hr,#["c",#["a",0],#["b",#["a",1]]]]]]],#["T",#["P",#["w",#["c",#["a",6],#["b",#["a",7]]]],#["g",8,sc_L_seen_right.nd],#["d",#["j",9,sc_L_seen_right.nd,#["B",#["a",2],#["w",#["b",#["i",#["o",#["c",#["M",#["a",4]],#["b",#["i",#["D",#["o",#["b",#["a",8]]]]]]]]]]]]],#["d",#["j",10,sc_L_seen_right.nd,#["am",(@qt_cmp _ _ _ _ _ _ _ _ (@o_inD _ _ hr) #["a",8] #["a",5] (by with_unfolding_all rfl)),#["3"],#["w",#["c",(@q_int _ _ _ _),(@qa_nil _)]]]],#["d",#["q",#["H",#["Q",hr],#["e",Ai1,hr,#["c",#["a",1],#["t",#["a",9]]]],#["a",10]]],#["f",#["Y",T,#["g",11,sc_L_seen_right.nd],#["d",#["j",12,sc_L_seen_right.nd,#["am",(@qt_cmp _ _ _ _ _ _ _ _ (@o_inD _ _ hr) #["a",8] #["a",5] (by with_unfolding_all rfl)),#["e",Ah4,hr,#["c",#["a",1],#["c",#["a",8],#["b",#["a",11]]]]],#["e",Ah4,hr,#["c",#["a",1],#["c",#["a",3],#["b",#["B",#["a",4],#["a",11]]]]]]]],#["f",#["q",#["H",#["Q",hr],#["e",Ah2,hr,#["c",#["a",1],#["c",#["a",9],#["o",#["t",#["B",#["M",#["a",4]],#["a",11]]]]]]],#["i",#["D",#["b",#["a",12]]]]]]]]]]]]]]]]],?_⟩
  have sz:∀{n},n≤100→n≤sizeLine:=fun h=>szl (by omega)
  have sz1:=sz (n:=1) (by decide)
  have sz2:=sz (n:=2) (by decide)
  have sz3:=sz (n:=3) (by decide)
  simp![sz2];refine⟨s,h,c,days,rfl,bg.sea,bg.inn,y0,by omega,fun ms so hms=>?_⟩
  have hcm:c∈ms:=(hms c).mpr Drift.self;have hin:∀x∈ms,InS s h x:=fun x hx=>Drift.inS bg.inn ((hms x).mp hx);have hl:=C6 bg.sea (Ju so) hin;have hpos:0<ms.length:=List.length_pos_of_mem hcm;have np:a≠p:=fun e=>by obtain⟨b1,b2,hb⟩:=hG;rw[e,hp] at hb;cases hb
  have nT:a≠T0:=fun e=>by obtain⟨b1,b2,hb⟩:=hG;rw[e,hT] at hb;cases hb
  refine⟨ms.length,by show some (ms.map cellD).length=_;rw[List.length_map],Ay hG (by omega) (by omega) fun r G1 r0 r1 s1=>⟨r,rfl,?_⟩⟩
  obtain⟨d,hd,hm⟩:=Et (xs:=ms.map cellD) r0 (by rw[List.length_map];exact r1)
  obtain⟨e1,he1,rfl⟩:=List.mem_map.mp hm;refine⟨_,hd,a,s,h,rfl,s1.box,bg.sea,fun e2 G2 he2 s2 p1 hp1=>⟨_,Af Aa,?_⟩⟩;have s3:=(s1.trans s2).lay (o:=.lst [cellD e1,cellD e2]) hp1;have g3:Ab G2 p1 (.lst [cellD e1,cellD e2]) p1=some (.lst [cellD e1,cellD e2]):=Aa;have n1:=Step.ne (s1.trans s2).box hp1;generalize Ab G2 p1 (.lst [cellD e1,cellD e2])=G3 at *;refine Bn (fun i σ G'=>∃v8 v9 v10 v11 v12,σ=[some (.ref a),some (seaD s),some (.ref p),some (cellD c),some (.int days),some (.tup (ms.map cellD)),some (cellD e1),some (cellD e2),v8,v9,v10,v11,v12]∧Sub G3 G') ⟨none,none,none,none,none,rfl,Sub.refl _⟩ (fun i σ G' _ ⟨_,_,_,_,_,_,e⟩=>Af (e _ _ g3)) ?_ ?_
  ·rintro i x σ G4 hx ⟨v8,v9,v10,v11,v12,rfl,sb⟩;obtain⟨e,rfl,he⟩:∃e,x=cellD e∧InS s h e:=by
    match i with
    |0=>cases hx;exact⟨e1,rfl,hin e1 he1⟩
    |1=>cases hx;exact⟨e2,rfl,he2⟩
    |i+2=>cases hx
   have hp4:=sb _ _ (s3.get np hp);have hT4:=sb _ _ (s3.get nT hT);simp![sz3,sz1];have nd:((Aq c sh co si lit++[(⟨30,5+days,.seen 3 e⟩:Ntc)]).map (·.num)).Nodup:=by
    show([21,20,30]:List Int).Nodup;decide
   have nok:NtsOk s h (Aq c sh co si lit++[(⟨30,5+days,.seen 3 e⟩:Ntc)]):=Kq (by simp[Aq]) (fun n hn=>by
    simp only[Aq,List.cons_append,List.nil_append,List.mem_cons,List.not_mem_nil,or_false] at hn;rcases hn with rfl|rfl|rfl
    ·exact bg.gale
    ·exact bg.lay lit
    ·exact⟨⟨show(1:Int)≤30 by decide,show(30:Int)≤99 by decide⟩,⟨show 0≤5+days by omega,show 5+days≤400 by omega⟩,⟨by decide,by decide⟩,he⟩) nd
   intro p2 hp2;refine Kd (zs:=(Aq c sh co si lit++[(⟨30,5+days,.seen 3 e⟩:Ntc)]).map As) (Au hp4 hp2) Aa (by rw[List.map_append];rfl) (sz (by simp[Aq])) fun l hl5=>?_
   have sb5:Sub G3 (Ab (Ab G4 p2 (.lst [.tup [.int 30,.int (5+days),.tup [.str "seen",.int 3,cellD e]]])) l (.lst ((Aq c sh co si lit++[(⟨30,5+days,.seen 3 e⟩:Ntc)]).map As))):=(sb.trans (Sub.new hp2)).trans (Sub.new hl5);have gl:Ab (Ab G4 p2 (.lst [.tup [.int 30,.int (5+days),.tup [.str "seen",.int 3,cellD e]]])) l (.lst ((Aq c sh co si lit++[(⟨30,5+days,.seen 3 e⟩:Ntc)]).map As)) l=some (.lst ((Aq c sh co si lit++[(⟨30,5+days,.seen 3 e⟩:Ntc)]).map As)):=Aa;generalize Ab (Ab G4 p2 (.lst [.tup [.int 30,.int (5+days),.tup [.str "seen",.int 3,cellD e]]])) l (.lst ((Aq c sh co si lit++[(⟨30,5+days,.seen 3 e⟩:Ntc)]).map As))=G5 at *;generalize hL:Rn (D3.Mc 3) _ _ _ _=L;have dsub:(5+days-5).toNat=days.toNat:=by congr 1;omega
   have goL:∀p3 G6,Sub G5 G6→L [some (.ref a),some (seaD s),some (.ref p),some (cellD c),some (.int days),some (.tup (ms.map cellD)),some (cellD e1),some (cellD e2),some (cellD e),some (.ref l),some (.ref p3),v11,v12] G6:=fun p3 G6 s6=>by
    rw[←hL];refine Bl (n:=3) (fun j σ G'=>∃v11 v12,σ=[some (.ref a),some (seaD s),some (.ref p),some (cellD c),some (.int days),some (.tup (ms.map cellD)),some (cellD e1),some (cellD e2),some (cellD e),some (.ref l),some (.ref p3),v11,v12]∧Sub G5 G') ⟨v11,v12,rfl,s6⟩ ?_ ?_
    ·rintro j σ G7 hj ⟨v11,v12,rfl,s7⟩;have gl7:=s7 _ _ gl;have hT7:=s7 _ _ (sb5 _ _ (s3.get nT hT));simp![sz2];refine Mz ⟨_,rfl,?_⟩
     by_cases hm:e∈ms
     ·refine it0 (by simpa using hm) ⟨s,h,e,j,rfl,bg.sea,he,by omega,by omega,fun ms2 so2 hm2=>?_⟩
      have hd:=(hms e).mp hm;refine Cd (s':=s) (c':=e) (lk:=(sh,co,lit)) (d0:=5+days) bg.sea gl7 nok hT7 ⟨by decide,by decide⟩ ⟨by omega,by omega⟩ (fun zs oz=>⟨[],(Ey bg (by omega) (by omega) oz).1 (by rw[dsub];exact hd)⟩) fun ms3 so3 hm3=>?_
      refine P9 Hb (Fh so3 so2 fun y=>?_) ⟨_,rfl,it1 (by decide) (Fs.of ⟨_,_,rfl,s7⟩)⟩
      rw[hm3 y,hm2 y,show(5+days+(j:Int)-(5+days)).toNat=j by omega,show((j:Int)).toNat=j by omega]
     ·have hd:¬Drift s h c days.toNat e:=fun z=>hm ((hms e).mpr z);refine it1 (by simpa using hm) ⟨s,h,c,days+j,rfl,bg.sea,bg.inn,by omega,by omega,fun ms2 so2 hm2=>?_⟩
      refine Cd (s':=s) (c':=c) (lk:=(sh,co,lit)) (d0:=5) bg.sea gl7 nok hT7 ⟨by decide,by decide⟩ ⟨by omega,by omega⟩ (fun zs oz=>⟨[30],(Ey bg (by omega) (by omega) oz).2 (by rw[dsub];exact hd)⟩) fun ms3 so3 hm3=>?_
      refine P9 Hb (Fh so3 so2 fun y=>?_) ⟨_,rfl,it1 (by decide) (Fs.of ⟨_,_,rfl,s7⟩)⟩
      rw[hm3 y,hm2 y,show(5+days+(j:Int)-5)=days+j by omega]
    ·rintro σ G7 ⟨v11,v12,rfl,s7⟩;exact⟨G7,Sub.refl _,_,_,_,_,_,rfl,sb5.trans s7⟩
   refine Mz ⟨_,rfl,?_⟩
   by_cases hm:e∈ms
   ·have hd:=(hms e).mp hm;refine it0 (by simpa using hm) ⟨Nat.zero_le _,fun p3 hp3=>⟨s,h,l,_,99,rfl,bg.sea,Au gl hp3,nok,Au (sb5 _ _ (s3.get nT hT)) hp3,⟨by decide,by decide⟩,fun zs oz l2 us hl2 pm so=>?_⟩⟩
    rw[(Ey bg (by omega) (by omega) oz).1 (by rw[dsub];exact hd)] at pm
    have:us=[]:=List.Perm.eq_nil pm
    subst this;exact Ms (ns:=[]) Aa (Au Aa hl2) ⟨_,rfl,it1 (by decide) (goL p3 _ ((Sub.new hp3).trans (Sub.new hl2)))⟩
   ·have hd:¬Drift s h c days.toNat e:=fun z=>hm ((hms e).mpr z);refine it1 (by simpa using hm) fun p3 hp3=>⟨s,h,l,_,99,rfl,bg.sea,Au gl hp3,nok,Au (sb5 _ _ (s3.get nT hT)) hp3,⟨by decide,by decide⟩,fun zs oz l2 us hl2 pm so=>?_⟩
    rw[(Ey bg (by omega) (by omega) oz).2 (by rw[dsub];exact hd)] at pm
    have:us=[30]:=List.perm_singleton.mp pm
    subst this;exact Ms (ns:=[30]) Aa (Au Aa hl2) ⟨_,rfl,it1 (by decide) (goL p3 _ ((Sub.new hp3).trans (Sub.new hl2)))⟩
  ·rintro σ G4 ⟨v8,v9,v10,v11,v12,rfl,sb⟩;simp![];exact⟨G3,sb,k _ s3⟩
theorem eq_ad{G:Gp}{a b:List Cl}{x:Str}{Q:DK}(hx:PyData.canLay0 (.str x)=true)(e:a=b)(q:Q (.bl true) G):dEqD (.tup [.str x,.tup (a.map cellD)]) (.tup [.str x,.tup (b.map cellD)]) G Q:=by
 subst e;refine⟨_,_,.tup (.cons (.str _) (.cons Du .nil)),.tup (.cons (.str _) (.cons Du .nil)),?_,?_,?_,?_⟩
 ·show(PyData.canLay0 (.str x)&&(PyData.canLayAll0 (a.map Av)&&true))=true;rw[hx,Be];rfl
 ·show(PyData.canLay0 (.str x)&&(PyData.canLayAll0 (a.map Av)&&true))=true;rw[hx,Be];rfl
 ·have:=C5 a
  simp only[PyData.depth,PyData.depthAll];omega
 ·have:PyData.eqv (.tuple [.str x,.tuple (a.map Av)]) (.tuple [.str x,.tuple (a.map Av)])=true:=by simp[PyData.eqv,PyData.eqvAll,D2]
  rw[this];exact q
theorem Vb{s:List (List Int)}{h:Nat}{c e:Cl}{sh co si day:Int}{lit:Bool}{zs:List Ntc}(b:BgOk s h c sh co si)(d5:5≤day)(oz:Bm (⟨40,day,.depth e 0⟩::Aq c sh co si lit) 99 zs):runN h day s zs=chA (Ei s e 0) c (sh,co,lit) 5:=by
 have ez:zs=[Cp c sh co si lit,⟨21,5,.gale (si+1)⟩,⟨40,day,.depth e 0⟩]:=by
  refine Fd oz ?_ fun n=>?_
  ·refine List.pairwise_cons.mpr ⟨fun m hm=>?_,List.pairwise_cons.mpr ⟨fun m hm=>?_,List.pairwise_singleton _ _⟩⟩
   ·simp only[List.mem_cons,List.not_mem_nil,or_false] at hm;rcases hm with rfl|rfl
    ·exact .inl (show(2:Int)<5 by decide)
    ·exact .inl (by show(2:Int)<day;omega)
   ·rw[List.mem_singleton.mp hm];unfold Dj Aw;show(5:Int)<day∨(5:Int)=day∧(21:Int)<40;omega
  ·simp only[Aq,List.mem_cons,List.not_mem_nil,or_false];constructor
   ·rintro(rfl|rfl|rfl)
    ·exact⟨.inr (.inr rfl),show(20:Int)≤99 by decide⟩
    ·exact⟨.inr (.inl rfl),by show(21:Int)≤99;decide⟩
    ·exact⟨.inl rfl,by show(40:Int)≤99;decide⟩
   ·rintro⟨rfl|rfl|rfl,_⟩
    ·exact .inr (.inr rfl)
    ·exact .inr (.inl rfl)
    ·exact .inl rfl
 subst ez;show Am h day (Am h day (Am h day ⟨s,[],[],[]⟩ (Cp c sh co si lit)) ⟨21,5,.gale (si+1)⟩) ⟨40,day,.depth e 0⟩=_;rw[Fc b.wat (by omega),Ky (by omega) (by omega),X3 (Int.le_refl _)]
theorem Jk{s:List (List Int)}{h:Nat}{c:Cl}{sh co si last held:Int}{lit:Bool}{ns zs:List Ntc}(b:BgOk s h c sh co si)(l5:5≤last)(h21:21≤held)(hn:∀n,n∈ns∧n.num≤held↔n∈Aq c sh co si lit)(oz:Bm ns held zs):runN h last s zs=chA s c (sh,co,lit) 5:=by
 have ez:zs=[Cp c sh co si lit,⟨21,5,.gale (si+1)⟩]:=by
  refine Fd oz ?_ fun n=>?_
  ·refine List.pairwise_cons.mpr ⟨fun m hm=>?_,List.pairwise_singleton _ _⟩;rw[List.mem_singleton.mp hm];exact .inl (show(2:Int)<5 by decide)
  ·rw[hn];simp only[Aq,List.mem_cons,List.not_mem_nil,or_false];exact Or.comm
 subst ez;show Am h last (Am h last ⟨s,[],[],[]⟩ (Cp c sh co si lit)) ⟨21,5,.gale (si+1)⟩=_;rw[Fc b.wat (by omega),Ky (by omega) (by omega)]
noncomputable abbrev s_L_shut_right:Stmt:=top 80
noncomputable abbrev Im:List Str:=["_law_box_here", "_law_sea_here", "_law_begun", "_law_cell", "_law_days", "_law_place", "_law_changed", "_law_notices"]
noncomputable abbrev A7:List Str:=["_law_box_here", "_law_sea_here", "_law_begun", "_law_cell", "_law_days"]
theorem sc_L_shut_right:FnScope Im A7 (defScope s_L_shut_right):=⟨rfl,rfl,rfl,by decide +kernel,rfl,by decide +kernel,by decide +kernel⟩
noncomputable def Oh(T0:Addr)(q:Str):DSp:=fun ds G Q _=>∃a p s h c sh co si lit days,ds=[.ref a,seaD s,.ref p,cellD c,.int days]∧Dg (G a)∧G p=some (.lst ((Aq c sh co si lit).map As))∧BgOk s h c sh co si∧G T0=some (.tbl q)∧(0≤days∧days≤6)∧∀G',Step a G G'→Q (.bl true) G'
theorem Y3{f:Addr}{fd:FuncData}{q:Str}(F:Fun K "_law_shut_right" "_law_shut_right" s_L_shut_right f fd)(T:Nums mg)(Ah0:Def P w K mg base CX0 2 "_law_take" p_L_take spTake)(Ah4:Def P w K mg base CX0 2 "_law_drift" p_L_drift spDrift)(Aif:Def P w K mg base CX0 3 "_law_cell_of" p_L_cell_of spCellOf)(Ai2:Def P w K mg base CX0 1 "_law_put" p_L_put spLPut)(Ah2:Def P w K mg base CX0 14 "mark_at" p_mark_at (spMarkAt T0 q)):FnOk P w K mg base CX0 15 f fd A7 (liftSp K (Oh T0 q)):=by
 refine okD F sc_L_shut_right (fun ds G Q E h=>?_) (fun cdv A outer s H XE ds G Q E hr h=>?_)
 ·obtain⟨_,_,_,_,_,_,_,_,_,_,rfl,_⟩:=h;rfl
 ·obtain⟨a,p,s,h,c,sh,co,si,lit,days,rfl,hG,hp,bg,hT,⟨y0,y6⟩,k⟩:=h;refine⟨_,#["d",#["j",5,sc_L_shut_right.nd,#["v",#["w",#["c",#["a",3],#["b",#["e",Aif,hr,#["c",#["a",0],#["b",#["a",1]]]]]]],#["e",Ah0,hr,#["t",#["a",0]]]]],#["d",#["j",6,sc_L_shut_right.nd,#["e",Ai2,hr,#["c",#["a",1],#["c",#["k",#["a",5]],#["t",#["k",#["a",5]]]]]]],#["d",#["j",7,sc_L_shut_right.nd,#["B",#["w",#["b",#["i",#["o",#["c",#["M",#["a",4]],#["b",#["i",#["D",#["t",#["a",5]]]]]]]]]],#["a",2]]],#["d",#["q",#["H",#["Q",hr],#["e",Ah2,hr,#["c",#["a",1],#["c",#["a",7],#["o",#["t",#["M",#["a",4]]]]]]],#["i",#["D",#["b",#["e",Ah4,hr,#["c",#["a",6],#["c",#["a",3],#["b",#["a",4]]]]]]]]]],#["f",#["h",#["ab",(@o_eqD _ _ hr),#["e",Ah2,hr,#["c",#["a",1],#["c",#["a",7],#["o",#["t",#["M",#["a",4]]]]]]],#["i",#["D",#["b",#["e",Ah4,hr,#["c",#["a",1],#["c",#["a",3],#["b",#["a",4]]]]]]]]]]]]]]],?_⟩;have sz:∀{n},n≤100→n≤sizeLine:=fun h=>szl (by omega)
  have sz1:=sz (n:=1) (by decide)
  have sz2:=sz (n:=2) (by decide)
  have sz3:=sz (n:=3) (by decide)
  simp![sz2,sz3,sz1];refine⟨a,s,h,rfl,hG,bg.sea,fun e2 G1 he2 s1 p1 hp1=>Ay (s1.lay hp1).box (by decide) (by decide) fun r G2 r0 r1 s2=>⟨r,rfl,?_⟩⟩
  have n1:=Step.ne s1.box hp1;have s3:=(s1.lay (o:=.lst [cellD c,cellD e2]) hp1).trans s2;have g1:G2 p1=some (.lst [cellD c,cellD e2]):=s2.get n1 Aa;have np:a≠p:=fun e=>by obtain⟨b1,b2,hb⟩:=hG;rw[e,hp] at hb;cases hb
  have nT:a≠T0:=fun e=>by obtain⟨b1,b2,hb⟩:=hG;rw[e,hT] at hb;cases hb
  obtain⟨e,he,hi⟩:∃e,InS s h e∧Bh G2 (.ref p1) r=some (cellD e):=by
   have:r=0∨r=1:=by omega
   rcases this with rfl|rfl
   ·exact⟨c,bg.inn,by simp only[Bh,g1];rfl⟩
   ·exact⟨e2,he2,by simp only[Bh,g1];rfl⟩
  refine⟨_,hi,_,Dd,_,Dc,s,h,e,0,rfl,bg.sea,he,fun p2 hp2=>?_⟩;have nd:(((⟨40,5+days,.depth e 0⟩:Ntc)::Aq c sh co si lit).map (·.num)).Nodup:=by
   show([40,21,20]:List Int).Nodup;decide
  have nok:NtsOk s h ((⟨40,5+days,.depth e 0⟩:Ntc)::Aq c sh co si lit):=Kq (by simp[Aq]) (fun n hn=>by
   simp only[Aq,List.mem_cons,List.not_mem_nil,or_false] at hn;rcases hn with rfl|rfl|rfl
   ·exact⟨⟨show(1:Int)≤40 by decide,show(40:Int)≤99 by decide⟩,⟨show 0≤5+days by omega,show 5+days≤400 by omega⟩,he,by decide,by decide⟩
   ·exact bg.gale
   ·exact bg.lay lit) nd
  have hp3:=s3.get np hp;refine Kd (zs:=((⟨40,5+days,.depth e 0⟩:Ntc)::Aq c sh co si lit).map As) Aa (Au hp3 hp2) rfl (sz (by simp[Aq])) fun l hl=>?_
  have s5:=(s3.lay (o:=.lst [.tup [.int 40,.int (5+days),.tup [.str "depth",cellD e,.int 0]]]) hp2).lay (o:=.lst (((⟨40,5+days,.depth e 0⟩:Ntc)::Aq c sh co si lit).map As)) hl;have gl:Ab (Ab G2 p2 (.lst [.tup [.int 40,.int (5+days),.tup [.str "depth",cellD e,.int 0]]])) l (.lst (((⟨40,5+days,.depth e 0⟩:Ntc)::Aq c sh co si lit).map As)) l=some (.lst (((⟨40,5+days,.depth e 0⟩:Ntc)::Aq c sh co si lit).map As)):=Aa;generalize Ab (Ab G2 p2 (.lst [.tup [.int 40,.int (5+days),.tup [.str "depth",cellD e,.int 0]]])) l (.lst (((⟨40,5+days,.depth e 0⟩:Ntc)::Aq c sh co si lit).map As))=G5 at *;have hT5:=s5.get nT hT;refine Cd (s':=Ei s e 0) (c':=c) (lk:=(sh,co,lit)) (d0:=5) bg.sea gl nok hT5 ⟨by decide,by decide⟩ ⟨by omega,by omega⟩ (fun zs oz=>⟨[],Vb bg (by omega) oz⟩) fun ms so hm=>?_
  refine⟨Ei s e 0,h,c,days,rfl,Ug bg.sea he (by decide) (by decide),set_in.mpr bg.inn,y0,by omega,fun ms2 so2 hm2=>?_⟩
  have ed:(5+days-5)=days:=by omega
  refine P9 Hb (Fh so so2 fun y=>by rw[hm y,hm2 y,ed]) ⟨_,rfl,it1 (by decide) ?_⟩
  refine Cd (s':=s) (c':=c) (lk:=(sh,co,lit)) (d0:=5) bg.sea gl nok hT5 ⟨by decide,by decide⟩ ⟨by omega,by omega⟩ (fun zs oz=>⟨[],Jk bg (by omega) (by decide) (fun n=>?_) oz⟩) fun ms3 so3 hm3=>?_
  ·simp only[Aq,List.mem_cons,List.not_mem_nil,or_false];constructor
   ·rintro⟨rfl|hn,h39⟩
    ·exact absurd (show(40:Int)≤39 from h39) (by decide)
    ·exact hn
   ·rintro(rfl|rfl)
    ·exact⟨.inr (.inl rfl),show(21:Int)≤39 by decide⟩
    ·exact⟨.inr (.inr rfl),show(20:Int)≤39 by decide⟩
  ·refine⟨s,h,c,days,rfl,bg.sea,bg.inn,y0,by omega,fun ms4 so4 hm4=>?_⟩
   exact eq_ad Hb (Fh so3 so4 fun y=>by rw[hm3 y,hm4 y,ed]) (Fq.of (k _ s5))
theorem Ve{s:List (List Int)}{h:Nat}{c:Cl}{sh co si g last:Int}{lit:Bool}{zs:List Ntc}(b:BgOk s h c sh co si)(l2:2≤last)(hg:g≤si)(oz:Bm [⟨9,5,.gale g⟩,Cp c sh co si lit] 99 zs):runN h last s zs=chP s c (sh,co,lit) si:=by
 have ez:zs=[Cp c sh co si lit,⟨9,5,.gale g⟩]:=by
  refine Fd oz ?_ fun n=>?_
  ·refine List.pairwise_cons.mpr ⟨fun m hm=>?_,List.pairwise_singleton _ _⟩;rw[List.mem_singleton.mp hm];exact .inl (show(2:Int)<5 by decide)
  ·simp only[List.mem_cons,List.not_mem_nil,or_false];constructor
   ·rintro(rfl|rfl)
    ·exact⟨.inr rfl,show(20:Int)≤99 by decide⟩
    ·exact⟨.inl rfl,by show(9:Int)≤99;decide⟩
   ·rintro⟨rfl|rfl,_⟩
    ·exact .inr rfl
    ·exact .inl rfl
 subst ez;show Am h last (Am h last ⟨s,[],[],[]⟩ (Cp c sh co si lit)) ⟨9,5,.gale g⟩=_;rw[Fc b.wat l2,X4 hg]
theorem Vd{s:List (List Int)}{h:Nat}{c:Cl}{sh co si:Int}{lit:Bool}{zs:List Ntc}(b:BgOk s h c sh co si)(oz:Bm (Aq c sh co si lit) 99 zs):runN h 4 s zs=chP s c (sh,co,lit) si:=by
 have ez:zs=[Cp c sh co si lit,⟨21,5,.gale (si+1)⟩]:=by
  refine Fd oz ?_ fun n=>?_
  ·refine List.pairwise_cons.mpr ⟨fun m hm=>?_,List.pairwise_singleton _ _⟩;rw[List.mem_singleton.mp hm];exact .inl (show(2:Int)<5 by decide)
  ·simp only[Aq,List.mem_cons,List.not_mem_nil,or_false];constructor
   ·rintro(rfl|rfl)
    ·exact⟨.inr rfl,show(20:Int)≤99 by decide⟩
    ·exact⟨.inl rfl,by show(21:Int)≤99;decide⟩
   ·rintro⟨rfl|rfl,_⟩
    ·exact .inr rfl
    ·exact .inl rfl
 subst ez;show Am h 4 (Am h 4 ⟨s,[],[],[]⟩ (Cp c sh co si lit)) ⟨21,5,.gale (si+1)⟩=_;rw[Fc b.wat (by decide),X1 (show(4:Int)<5 by decide)]
theorem O7{s:List (List Int)}{h:Nat}{c:Cl}{sh co si:Int}{lit:Bool}{zs:List Ntc}(b:BgOk s h c sh co si)(oz:Bm (Aq c sh co si lit) 20 zs):runN h 9 s zs=chP s c (sh,co,lit) si:=by
 have ez:zs=[Cp c sh co si lit]:=by
  refine Fd oz (List.pairwise_singleton _ _) fun n=>?_;simp only[Aq,List.mem_cons,List.not_mem_nil,or_false];constructor
  ·rintro rfl;exact⟨.inr rfl,show(20:Int)≤20 by decide⟩
  ·rintro⟨rfl|rfl,hn⟩
   ·exact absurd (show(21:Int)≤20 from hn) (by decide)
   ·rfl
 subst ez;show Am h 9 ⟨s,[],[],[]⟩ (Cp c sh co si lit)=_;rw[Fc b.wat (by decide)]
theorem Xc{s:List (List Int)}{h:Nat}{c:Cl}{sh co si:Int}(b:BgOk s h c sh co si)(lit:Bool):NtsOk s h (Aq c sh co si lit):=Kq (by simp[Aq]) (fun n hn=>by
  simp only[Aq,List.mem_cons,List.not_mem_nil,or_false] at hn;rcases hn with rfl|rfl
  ·exact b.gale
  ·exact b.lay lit) (by show([21,20]:List Int).Nodup;decide)
theorem Zy{s:List (List Int)}{h:Nat}{c:Cl}{sh co si g:Int}(b:BgOk s h c sh co si)(lit:Bool)(g1:1≤g)(g9:g≤9):NtsOk s h [⟨9,5,.gale g⟩,Cp c sh co si lit]:=Kq (by simp) (fun n hn=>by
  simp only[List.mem_cons,List.not_mem_nil,or_false] at hn;rcases hn with rfl|rfl
  ·exact⟨⟨show(1:Int)≤9 by decide,show(9:Int)≤99 by decide⟩,⟨show(0:Int)≤5 by decide,show(5:Int)≤400 by decide⟩,g1,g9⟩
  ·exact b.lay lit) (by show([9,20]:List Int).Nodup;decide)
noncomputable abbrev s_law:Stmt:=top 81
noncomputable abbrev N_law:List Str:=["_law_script", "_law_k", "_law_box_here", "_law_sea_here", "_law_cell", "_law_sinker", "_law_lay", "_law_strength", "_law_begun", "_law_days"]
noncomputable abbrev T7:List Str:=["_law_script"]
theorem sc_law:FnScope N_law T7 (defScope s_law):=⟨rfl,rfl,rfl,by decide +kernel,rfl,by decide +kernel,by decide +kernel⟩
theorem Adx{f:Addr}{fd:FuncData}{q:Str}(F:Fun K "law" "law" s_law f fd)(T:Nums mg)(Ai3:Def P w K mg base CX0 1 "_law_box" p_L_box spBox)(Ah0:Def P w K mg base CX0 2 "_law_take" p_L_take spTake)(Ai4:Def P w K mg base CX0 3 "_law_sea" p_L_sea spLSea)(Ai5:Def P w K mg base CX0 3 "_law_water" p_L_water spWaterL)(Ah4:Def P w K mg base CX0 2 "_law_drift" p_L_drift spDrift)(Ah2:Def P w K mg base CX0 14 "mark_at" p_mark_at (spMarkAt T0 q))(Ai6:Def P w K mg base CX0 15 "_law_seen_right" p_L_seen_right (spSeen T0 q))(Ai7:Def P w K mg base CX0 15 "_law_shut_right" A7 (Oh T0 q)):FnOk P w K mg base CX0 16 f fd T7 (liftSp K (Kk [(T0,q)])):=by
 refine okD F sc_law (fun ds G Q E h=>?_) (fun cdv A outer s H XE ds G Q E hr h=>?_)
 ·obtain⟨ns,rfl,_⟩:=h;rfl
 ·obtain⟨ns,rfl,hl,hT,k⟩:=h;have hT0:G T0=some (.tbl q):=hT (T0,q) (by simp)
  have sz:∀{n},n≤100→n≤sizeLine:=fun h=>szl (by omega)
  have sz2:=sz (n:=2) (by decide)
  have sz3:=sz (n:=3) (by decide)
  have sz7:=sz (n:=7) (by decide)
  refine⟨_,#["T",#["4",T,#["b",#["aE",T,#["o",#["b",#["aV",T,#["t",#["p",T,#["b",#["a",0]]]]]]]]],#["g",1,sc_law.nd],#["d",#["j",2,sc_law.nd,#["e",Ai3,hr,#["c",#["a",0],#["b",#["a",1]]]]],#["d",#["j",3,sc_law.nd,#["e",Ai4,hr,#["c",#["a",2],#["c",#["aF",#["e",Ah0,hr,#["t",#["a",2]]]],#["b",#["aF",#["e",Ah0,hr,#["t",#["a",2]]]]]]]]],#["d",#["j",4,sc_law.nd,#["e",Ai5,hr,#["c",#["a",2],#["b",#["a",3]]]]],#["f",#["A",#["H",(@o_notN _),#["a",4],(@q_non _ _ _)],#["d",#["j",5,sc_law.nd,#["M",#["e",Ah0,hr,#["t",#["a",2]]]]],#["d",#["j",6,sc_law.nd,#["i",#["o",#["o",#["b",#["i",#["D",#["o",#["c",#["a",4],#["c",#["e",Ah0,hr,#["t",#["a",2]]],#["c",#["e",Ah0,hr,#["t",#["a",2]]],#["c",#["a",5],#["b",#["X",#["e",Ah0,hr,#["t",#["a",2]]]]]]]]]]]]]]]]],#["d",#["P",#["w",#["c",#["a",5],#["b",#["aE",T,#["o",#["b",#["S",#["a",5]]]]]]]],#["g",7,sc_law.nd],#["f",#["q",#["H",#["Q",hr],#["e",Ah2,hr,#["c",#["a",3],#["an",#["w",#["c",#["i",#["o",#["o",#["b",#["i",#["D",#["b",#["a",7]]]]]]]],#["b",#["a",6]]]]]]],#["i",#["D",#["b",#["a",4]]]]]]]],#["d",#["j",8,sc_law.nd,#["w",#["c",#["i",#["o",#["o",#["b",#["i",#["D",#["b",#["G",#["a",5]]]]]]]]],#["b",#["a",6]]]]],#["d",#["q",#["C",#["I",#["H",#["Q",hr],#["e",Ah2,hr,#["c",#["a",3],#["an",#["a",8]]]],#["i",#["D",#["b",#["a",4]]]]],#["J",#["H",#["Q",hr],#["e",Ah2,hr,#["c",#["a",3],#["an",#["a",8]]]],#["i",#["D",#["b",#["a",4]]]]]]]]],#["f",#["Y",T,#["g",9,sc_law.nd],#["d",#["q",#["H",#["Q",hr],#["e",Ah2,hr,#["c",#["a",3],#["c",#["a",8],#["o",#["t",#["M",#["a",9]]]]]]],#["i",#["D",#["b",#["e",Ah4,hr,#["c",#["a",3],#["c",#["a",4],#["b",#["a",9]]]]]]]]]],#["d",#["q",#["n",#["m",#["e",Ai6,hr,#["c",#["a",2],#["c",#["a",3],#["c",#["a",8],#["c",#["a",4],#["b",#["a",9]]]]]]]]]],#["f",#["q",#["n",#["m",#["e",Ai7,hr,#["c",#["a",2],#["c",#["a",3],#["c",#["a",8],#["c",#["a",4],#["b",#["a",9]]]]]]]]]]]]]]]]]]]]]]]]]]],?_⟩;simp![Mv];have hb:∀n:Int,0≤n→1≤(if (if 3<n then 3 else n)>1 then (if 3<n then 3 else n) else 1)∧(if (if 3<n then 3 else n)>1 then (if 3<n then 3 else n) else 1)≤3:=fun n hn=>by
   by_cases h:3<n
   ·rw[if_pos h];decide
   ·rw[if_neg h]
    by_cases h2:n>1
    ·rw[if_pos h2];omega
    ·rw[if_neg h2];decide
  obtain⟨b1,b2⟩:=hb (ns.length:Nat) (by omega)
  generalize (if (if (3:Int)<(ns.length:Nat) then (3:Int) else (ns.length:Nat))>1 then (if (3:Int)<(ns.length:Nat) then (3:Int) else (ns.length:Nat)) else 1)=m at *;refine⟨by omega,by omega,?_⟩
  refine Bl (fun i σ G'=>∃v1 v2 v3 v4 v5 v6 v7 v8 v9,σ=[some (.lint ns),v1,v2,v3,v4,v5,v6,v7,v8,v9]∧G' T0=some (.tbl q)) ⟨none,none,none,none,none,none,none,none,none,rfl,hT0⟩ ?_ ?_
  ·rintro i σ G1 hi ⟨v1,v2,v3,v4,v5,v6,v7,v8,v9,rfl,hT1⟩;simp![sz2,sz7,sz3];refine⟨ns,(i:Nat),rfl,⟨by omega,by omega⟩,fun a ha b c=>?_⟩
   have hB:Dg (Ab G1 a (.lst [.int b,.int c]) a):=⟨b,c,Aa⟩;have hT2:Ab G1 a (.lst [.int b,.int c]) T0=some (.tbl q):=Au hT1 ha;have nT:a≠T0:=(gne hT1 ha).symm;generalize Ab G1 a (.lst [.int b,.int c])=G2 at *;intro p1 hp1;have n1:=Step.ne hB hp1;refine Ay ((Step.refl hB).lay hp1).box (by decide) (by decide) fun r G3 r0 r1 s3=>⟨r,rfl,?_⟩
   have t3:=((Step.refl hB).lay (o:=.lst [.int 5,.int 9]) hp1).trans s3;obtain⟨wd,hwd,ew⟩:∃wd:Int,(2≤wd∧wd≤9)∧Bh G3 (.ref p1) r=some (.int wd):=by
    have g1:G3 p1=some (.lst [.int 5,.int 9]):=s3.get n1 Aa;rw[Cc g1]
    have:r=0∨r=1:=by omega
    rcases this with rfl|rfl
    ·exact⟨5,by decide,rfl⟩
    ·exact⟨9,by decide,rfl⟩
   refine⟨_,ew,fun p2 hp2=>?_⟩;have n2:=Step.ne t3.box hp2;refine Ay (t3.lay hp2).box (by decide) (by decide) fun r G4 r0 r1 s4=>⟨r,rfl,?_⟩
   have t4:=(t3.lay (o:=.lst [.int 4,.int 7]) hp2).trans s4;obtain⟨hg,hhg,eh⟩:∃hg:Int,(1≤hg∧hg≤7)∧Bh G4 (.ref p2) r=some (.int hg):=by
    have g1:G4 p2=some (.lst [.int 4,.int 7]):=s4.get n2 Aa;rw[Cc g1]
    have:r=0∨r=1:=by omega
    rcases this with rfl|rfl
    ·exact⟨4,by decide,rfl⟩
    ·exact⟨7,by decide,rfl⟩
   refine⟨_,eh,a,wd,hg,rfl,t4.box,⟨hwd.1,by omega,hhg.1,by omega,Nat.le_trans (Nat.mul_le_mul (show wd.toNat≤9 by omega) (show hg.toNat≤7 by omega)) (by decide)⟩,fun s h G5 ok s5=>⟨a,s,h,rfl,s5.box,ok,fun c G6 hc hw s6=>?_,fun G6 s6=>?_⟩⟩
   ·refine it0 rfl (Ay s6.box (by decide) (by decide) fun si0 G7 z0 z1 s7=>?_)
    rw[Fi];refine Ay s7.box (by decide) (by decide) fun sh G8 sh0 sh1 s8=>Ay s8.box (by decide) (by decide) fun co G9 co0 co1 s9=>Ay s9.box (by decide) (by decide) fun lt GA lt0 lt1 sA=>⟨decide (lt=1),rfl,1+si0,rfl,fun p3 hp3=>⟨_,Af Aa,?_⟩⟩
    have bg:BgOk s h c sh co (1+si0):=⟨ok,hc,hw,by omega,by omega,by omega⟩
    have tA:=((((((t4.trans s5).trans s6).trans s7).trans s8).trans s9).trans sA);generalize decide (lt=1)=lit at *;generalize 1+si0=si at *;have tB:=tA.lay (o:=.lst [.int si,.int (if si-1>1 then si-1 else 1)]) hp3;have gB:Ab GA p3 (.lst [.int si,.int (if si-1>1 then si-1 else 1)]) p3=some (.lst [.int si,.int (if si-1>1 then si-1 else 1)]):=Aa;generalize Ab GA p3 (.lst [.int si,.int (if si-1>1 then si-1 else 1)])=GB at *;have bsi:=bg.si;refine Bn (fun _ σ G'=>∃v7 v8 v9,σ=[some (.lint ns),some (.int (i:Nat)),some (.ref a),some (seaD s),some (cellD c),some (.int si),some (As (Cp c sh co si lit)),v7,v8,v9]∧Sub GB G') ⟨_,_,_,rfl,Sub.refl _⟩ (fun _ _ G' _ ⟨_,_,_,_,e⟩=>Af (e _ _ gB)) ?_ ?_
    ·rintro n x σ G' hx ⟨v7,v8,v9,rfl,sb⟩;obtain⟨g,rfl,g1,g2⟩:∃g:Int,x=.int g∧1≤g∧g≤si:=by
      match n with
      |0=>cases hx;exact⟨_,rfl,bsi.1,Int.le_refl _⟩
      |1=>cases hx;exact⟨_,rfl,by split<;>omega,by split<;>omega⟩
      |n+2=>cases hx
     simp![sz2,sz3];intro p4 hp4;refine Ds (si:=si) (c:=c) (lk:=(sh,co,lit)) (ns:=[⟨9,5,.gale g⟩,Cp c sh co si lit]) ok Aa (Zy bg lit g1 (by omega)) (Au (sb _ _ (tB.get nT hT2)) hp4) ⟨by decide,by decide⟩ ⟨by decide,by decide⟩ (fun zs oz=>Ve bg (by decide) g2 oz) ?_
     exact T9 Ow ⟨_,rfl,it1 (by decide) (Fs.of ⟨_,_,_,rfl,sb.trans (Sub.new hp4)⟩)⟩
    ·rintro σ G' ⟨v7,v8,v9,rfl,sb⟩;simp![sz2,sz3];intro p4 hp4;have bok:=Xc bg lit;have hB4:Dg (Ab G' p4 (.lst ((Aq c sh co si lit).map As)) a):=by obtain⟨b1,b2,hb⟩:=tB.box;exact⟨b1,b2,Au (sb _ _ hb) hp4⟩
     have hT4:Ab G' p4 (.lst ((Aq c sh co si lit).map As)) T0=some (.tbl q):=Au (sb _ _ (tB.get nT hT2)) hp4;have g4:Ab G' p4 (.lst ((Aq c sh co si lit).map As)) p4=some (.lst ((Aq c sh co si lit).map As)):=Aa;have n4:a≠p4:=fun e=>by obtain⟨b1,b2,hb⟩:=hB4;rw[e,g4] at hb;cases hb
     refine Ds (si:=si) (c:=c) (lk:=(sh,co,lit)) ok g4 bok hT4 ⟨by decide,by decide⟩ ⟨by decide,by decide⟩ (fun zs oz=>Vd bg oz) ?_
     refine T9 Ow ⟨_,rfl,it1 (by decide) ?_⟩
     refine Ds (si:=si) (c:=c) (lk:=(sh,co,lit)) ok g4 bok hT4 ⟨by decide,by decide⟩ ⟨by decide,by decide⟩ (fun zs oz=>O7 bg oz) ?_
     refine T9 Ow ⟨_,rfl,it1 (by decide) ?_⟩
     refine Bl (n:=7) (fun _ σ H=>∃v9,σ=[some (.lint ns),some (.int (i:Nat)),some (.ref a),some (seaD s),some (cellD c),some (.int si),some (As (Cp c sh co si lit)),v7,some (.ref p4),v9]∧Step a (Ab G' p4 (.lst ((Aq c sh co si lit).map As))) H) ⟨_,rfl,Step.refl hB4⟩ ?_ ?_
     ·rintro j σ H hj ⟨v9,rfl,st⟩;have gH:=st.get n4 g4;have hTH:=st.get nT hT4;simp![sz2];refine Cd (s':=s) (c':=c) (lk:=(sh,co,lit)) (d0:=5) ok gH bok hTH ⟨by decide,by decide⟩ ⟨by omega,by omega⟩ (fun zs oz=>⟨[],Jk bg (by omega) (by decide) (fun n=>⟨fun z=>z.1,fun z=>⟨z,?_⟩⟩) oz⟩) fun ms so hm=>?_
      ·have:=(bok.ok n z).1.2;omega
      ·refine⟨s,h,c,(j:Nat),rfl,ok,hc,by omega,by omega,fun ms2 so2 hm2=>?_⟩
       have ed:(5+((j:Nat):Int)-5)=((j:Nat):Int):=by omega
       refine P9 Hb (Fh so so2 fun y=>by rw[hm y,hm2 y,ed]) ⟨_,rfl,it1 (by decide) ?_⟩
       refine⟨a,p4,s,h,c,sh,co,si,lit,(j:Nat),rfl,st.box,gH,bg,hTH,⟨by omega,by omega⟩,fun G7 s7=>?_⟩
       have t7:=st.trans s7;refine⟨true,rfl,it1 (by decide) ⟨a,p4,s,h,c,sh,co,si,lit,(j:Nat),rfl,t7.box,t7.get n4 g4,bg,t7.get nT hT4,⟨by omega,by omega⟩,fun G8 s8=>⟨true,rfl,it1 (by decide) (Fs.of ⟨_,rfl,t7.trans s8⟩)⟩⟩⟩
     ·rintro σ H ⟨v9,rfl,st⟩;exact⟨H,Sub.refl _,_,_,_,_,_,_,_,_,_,rfl,st.get nT hT4⟩
   ·refine it1 (by decide) (Fs.of ⟨_,_,_,_,_,_,_,_,_,rfl,?_⟩)
    exact((t4.trans s5).trans s6).get nT hT2
  ·rintro σ G1 ⟨_,_,_,_,_,_,_,_,_,rfl,_⟩;simp![];exact Fq.of (k _)
noncomputable abbrev qL:Str:="in_order" ++ ".<locals>." ++ "<lambda>"
theorem Xa{K:W.Frag}:∀f fd,Fun K "_law_box" "_law_box" s_L_box f fd→Binds K fd p_L_box []:=fun f fd F=>F.binds (ps:=p_L_box) fun _ _ _ _ _ _ us hl=>by obtain⟨_,_,rfl⟩:=ln2 hl;rfl
theorem Tp{K:W.Frag}:∀f fd,Fun K "_law_more" "_law_more" s_L_more f fd→Binds K fd C1 []:=fun f fd F=>F.binds (ps:=C1) fun _ _ _ _ _ _ us hl=>by obtain⟨_,rfl⟩:=ln1 hl;rfl
theorem To{K:W.Frag}:∀f fd,Fun K "_law_take" "_law_take" s_L_take f fd→Binds K fd p_L_take []:=fun f fd F=>F.binds (ps:=p_L_take) fun _ _ _ _ _ _ us hl=>by obtain⟨_,_,rfl⟩:=ln2 hl;rfl
theorem Eh{K:W.Frag}:∀f fd,Fun K "is_whole_within" "is_whole_within" s_is_whole_within f fd→Binds K fd Ae []:=fun f fd F=>F.binds (ps:=Ae) fun _ _ _ _ _ _ us hl=>by obtain⟨_,_,_,rfl⟩:=ln3 hl;rfl
theorem Ny{K:W.Frag}:∀f fd,Fun K "is_depth" "is_depth" s_is_depth f fd→Binds K fd p_is_depth []:=fun f fd F=>F.binds (ps:=p_is_depth) fun _ _ _ _ _ _ us hl=>by obtain⟨_,rfl⟩:=ln1 hl;rfl
theorem Tk{K:W.Frag}:∀f fd,Fun K "is_day" "is_day" s_is_day f fd→Binds K fd p_is_day []:=fun f fd F=>F.binds (ps:=p_is_day) fun _ _ _ _ _ _ us hl=>by obtain⟨_,rfl⟩:=ln1 hl;rfl
theorem L0{K:W.Frag}:∀f fd,Fun K "is_column" "is_column" s_is_column f fd→Binds K fd Bv []:=fun f fd F=>F.binds (ps:=Bv) fun _ _ _ _ _ _ us hl=>by obtain⟨_,rfl⟩:=ln1 hl;rfl
theorem Tj{K:W.Frag}:∀f fd,Fun K "is_sea" "is_sea" s_is_sea f fd→Binds K fd C0 []:=fun f fd F=>F.binds (ps:=C0) fun _ _ _ _ _ _ us hl=>by obtain⟨_,rfl⟩:=ln1 hl;rfl
theorem L4{K:W.Frag}:∀f fd,Fun K "check_sea" "check_sea" s_check_sea f fd→Binds K fd p_check_sea []:=fun f fd F=>F.binds (ps:=p_check_sea) fun _ _ _ _ _ _ us hl=>by obtain⟨_,rfl⟩:=ln1 hl;rfl
theorem L5{K:W.Frag}:∀f fd,Fun K "check_day" "check_day" s_check_day f fd→Binds K fd p_check_day []:=fun f fd F=>F.binds (ps:=p_check_day) fun _ _ _ _ _ _ us hl=>by obtain⟨_,rfl⟩:=ln1 hl;rfl
theorem N0{K:W.Frag}:∀f fd,Fun K "depth_at" "depth_at" s_depth_at f fd→Binds K fd B1 []:=fun f fd F=>F.binds (ps:=B1) fun _ _ _ _ _ _ us hl=>by obtain⟨_,_,rfl⟩:=ln2 hl;rfl
theorem Ps{K:W.Frag}:∀f fd,Fun K "is_cell" "is_cell" s_is_cell f fd→Binds K fd p_is_cell []:=fun f fd F=>F.binds (ps:=p_is_cell) fun _ _ _ _ _ _ us hl=>by obtain⟨_,_,rfl⟩:=ln2 hl;rfl
theorem Iz{K:W.Frag}:∀f fd,Fun K "check_cell" "check_cell" s_check_cell f fd→Binds K fd Bo []:=fun f fd F=>F.binds (ps:=Bo) fun _ _ _ _ _ _ us hl=>by obtain⟨_,_,rfl⟩:=ln2 hl;rfl
theorem Nw{K:W.Frag}:∀f fd,Fun K "is_water" "is_water" s_is_water f fd→Binds K fd p_is_water []:=fun f fd F=>F.binds (ps:=p_is_water) fun _ _ _ _ _ _ us hl=>by obtain⟨_,_,rfl⟩:=ln2 hl;rfl
theorem Fx{K:W.Frag}:∀f fd,Fun K "waters_beside" "waters_beside" s_waters_beside f fd→Binds K fd A5 []:=fun f fd F=>F.binds (ps:=A5) fun _ _ _ _ _ _ us hl=>by obtain⟨_,_,rfl⟩:=ln2 hl;rfl
theorem Ig{K:W.Frag}:∀f fd,Fun K "one_step_on" "one_step_on" s_one_step_on f fd→Binds K fd Bf []:=fun f fd F=>F.binds (ps:=Bf) fun _ _ _ _ _ _ us hl=>by obtain⟨_,_,_,rfl⟩:=ln3 hl;rfl
theorem W6{K:W.Frag}:∀f fd,Fun K "drift" "drift" s_drift f fd→Binds K fd Dw []:=fun f fd F=>F.binds (ps:=Dw) fun _ _ _ _ _ _ us hl=>by obtain⟨_,_,_,rfl⟩:=ln3 hl;rfl
theorem W8{K:W.Frag}:∀f fd,Fun K "_law_sea" "_law_sea" s_L_sea f fd→Binds K fd p_L_sea []:=fun f fd F=>F.binds (ps:=p_L_sea) fun _ _ _ _ _ _ us hl=>by obtain⟨_,_,_,rfl⟩:=ln3 hl;rfl
theorem L6{K:W.Frag}:∀f fd,Fun K "_law_cell_of" "_law_cell_of" s_L_cell_of f fd→Binds K fd p_L_cell_of []:=fun f fd F=>F.binds (ps:=p_L_cell_of) fun _ _ _ _ _ _ us hl=>by obtain⟨_,_,rfl⟩:=ln2 hl;rfl
theorem Pv{K:W.Frag}:∀f fd,Fun K "_law_round" "_law_round" s_L_round f fd→Binds K fd Cm []:=fun f fd F=>F.binds (ps:=Cm) fun _ _ _ _ _ _ us hl=>by obtain⟨_,_,rfl⟩:=ln2 hl;rfl
theorem Ly{K:W.Frag}:∀f fd,Fun K "is_number" "is_number" s_is_number f fd→Binds K fd p_is_number []:=fun f fd F=>F.binds (ps:=p_is_number) fun _ _ _ _ _ _ us hl=>by obtain⟨_,rfl⟩:=ln1 hl;rfl
theorem Pq{K:W.Frag}:∀f fd,Fun K "is_mark" "is_mark" s_is_mark f fd→Binds K fd p_is_mark []:=fun f fd F=>F.binds (ps:=p_is_mark) fun _ _ _ _ _ _ us hl=>by obtain⟨_,rfl⟩:=ln1 hl;rfl
theorem Nx{K:W.Frag}:∀f fd,Fun K "is_shape" "is_shape" s_is_shape f fd→Binds K fd p_is_shape []:=fun f fd F=>F.binds (ps:=p_is_shape) fun _ _ _ _ _ _ us hl=>by obtain⟨_,rfl⟩:=ln1 hl;rfl
theorem L1{K:W.Frag}:∀f fd,Fun K "is_colour" "is_colour" s_is_colour f fd→Binds K fd p_is_colour []:=fun f fd F=>F.binds (ps:=p_is_colour) fun _ _ _ _ _ _ us hl=>by obtain⟨_,rfl⟩:=ln1 hl;rfl
theorem Lx{K:W.Frag}:∀f fd,Fun K "is_sinker" "is_sinker" s_is_sinker f fd→Binds K fd p_is_sinker []:=fun f fd F=>F.binds (ps:=p_is_sinker) fun _ _ _ _ _ _ us hl=>by obtain⟨_,rfl⟩:=ln1 hl;rfl
theorem Ih{K:W.Frag}:∀f fd,Fun K "is_strength" "is_strength" s_is_strength f fd→Binds K fd p_is_strength []:=fun f fd F=>F.binds (ps:=p_is_strength) fun _ _ _ _ _ _ us hl=>by obtain⟨_,rfl⟩:=ln1 hl;rfl
theorem Z4{K:W.Frag}:∀f fd,Fun K "lays" "lays" s_lays f fd→Binds K fd p_lays []:=fun f fd F=>F.binds (ps:=p_lays) fun _ _ _ _ _ _ us hl=>by obtain⟨_,_,rfl⟩:=ln2 hl;rfl
theorem W5{K:W.Frag}:∀f fd,Fun K "lifts" "lifts" s_lifts f fd→Binds K fd p_lifts []:=fun f fd F=>F.binds (ps:=p_lifts) fun _ _ _ _ _ _ us hl=>by obtain⟨_,_,rfl⟩:=ln2 hl;rfl
theorem W7{K:W.Frag}:∀f fd,Fun K "blows" "blows" s_blows f fd→Binds K fd p_blows []:=fun f fd F=>F.binds (ps:=p_blows) fun _ _ _ _ _ _ us hl=>by obtain⟨_,_,rfl⟩:=ln2 hl;rfl
theorem Z2{K:W.Frag}:∀f fd,Fun K "sees" "sees" s_sees f fd→Binds K fd p_sees []:=fun f fd F=>F.binds (ps:=p_sees) fun _ _ _ _ _ _ us hl=>by obtain⟨_,_,rfl⟩:=ln2 hl;rfl
theorem Pt{K:W.Frag}:∀f fd,Fun K "deepens" "deepens" s_deepens f fd→Binds K fd p_deepens []:=fun f fd F=>F.binds (ps:=p_deepens) fun _ _ _ _ _ _ us hl=>by obtain⟨_,_,rfl⟩:=ln2 hl;rfl
theorem Pr{K:W.Frag}:∀f fd,Fun K "is_deed" "is_deed" s_is_deed f fd→Binds K fd Ck []:=fun f fd F=>F.binds (ps:=Ck) fun _ _ _ _ _ _ us hl=>by obtain⟨_,_,rfl⟩:=ln2 hl;rfl
theorem Lz{K:W.Frag}:∀f fd,Fun K "is_notice" "is_notice" s_is_notice f fd→Binds K fd Bu []:=fun f fd F=>F.binds (ps:=Bu) fun _ _ _ _ _ _ us hl=>by obtain⟨_,_,rfl⟩:=ln2 hl;rfl
theorem Ii{K:W.Frag}:∀f fd,Fun K "are_notices" "are_notices" s_are_notices f fd→Binds K fd Bg []:=fun f fd F=>F.binds (ps:=Bg) fun _ _ _ _ _ _ us hl=>by obtain⟨_,_,rfl⟩:=ln2 hl;rfl
theorem Fy{K:W.Frag}:∀f fd,Fun K "check_notices" "check_notices" s_check_notices f fd→Binds K fd p_check_notices []:=fun f fd F=>F.binds (ps:=p_check_notices) fun _ _ _ _ _ _ us hl=>by obtain⟨_,_,rfl⟩:=ln2 hl;rfl
theorem Iy{K:W.Frag}:∀f fd,Fun K "check_held" "check_held" s_check_held f fd→Binds K fd p_check_held []:=fun f fd F=>F.binds (ps:=p_check_held) fun _ _ _ _ _ _ us hl=>by obtain⟨_,rfl⟩:=ln1 hl;rfl
theorem Ix{K:W.Frag}:∀f fd,Fun K "check_mark" "check_mark" s_check_mark f fd→Binds K fd p_check_mark []:=fun f fd F=>F.binds (ps:=p_check_mark) fun _ _ _ _ _ _ us hl=>by obtain⟨_,rfl⟩:=ln1 hl;rfl
theorem L3{K:W.Frag}:∀f fd,Fun K "is_ashore" "is_ashore" s_is_ashore f fd→Binds K fd p_is_ashore []:=fun f fd F=>F.binds (ps:=p_is_ashore) fun _ _ _ _ _ _ us hl=>by obtain⟨_,_,rfl⟩:=ln2 hl;rfl
theorem Gh{K:W.Frag}:∀f fd,Fun K "cells_adrift" "cells_adrift" s_cells_adrift f fd→Binds K fd p_cells_adrift []:=fun f fd F=>F.binds (ps:=p_cells_adrift) fun _ _ _ _ _ _ us hl=>by obtain⟨_,_,_,rfl⟩:=ln3 hl;rfl
theorem Iw{K:W.Frag}:∀f fd,Fun K "with_depth" "with_depth" s_with_depth f fd→Binds K fd p_with_depth []:=fun f fd F=>F.binds (ps:=p_with_depth) fun _ _ _ _ _ _ us hl=>by obtain⟨_,_,_,rfl⟩:=ln3 hl;rfl
theorem Aem{K:W.Frag}:∀f fd,Fun K "lay" "lay" s_lay f fd→Binds K fd p_lay []:=fun f fd F=>F.binds (ps:=p_lay) fun _ _ _ _ _ _ us hl=>by obtain⟨_,_,_,rfl⟩:=ln3 hl;rfl
theorem Z3{K:W.Frag}:∀f fd,Fun K "lift" "lift" s_lift f fd→Binds K fd p_lift []:=fun f fd F=>F.binds (ps:=p_lift) fun _ _ _ _ _ _ us hl=>by obtain⟨_,_,_,rfl⟩:=ln3 hl;rfl
theorem Tl{K:W.Frag}:∀f fd,Fun K "deepen" "deepen" s_deepen f fd→Binds K fd p_deepen []:=fun f fd F=>F.binds (ps:=p_deepen) fun _ _ _ _ _ _ us hl=>by obtain⟨_,_,_,rfl⟩:=ln3 hl;rfl
theorem Ael{K:W.Frag}:∀f fd,Fun K "see" "see" s_see f fd→Binds K fd p_see []:=fun f fd F=>F.binds (ps:=p_see) fun _ _ _ _ _ _ us hl=>by obtain⟨_,_,_,rfl⟩:=ln3 hl;rfl
theorem Z6{K:W.Frag}:∀f fd,Fun K "blow" "blow" s_blow f fd→Binds K fd p_blow []:=fun f fd F=>F.binds (ps:=p_blow) fun _ _ _ _ _ _ us hl=>by obtain⟨_,_,_,rfl⟩:=ln3 hl;rfl
theorem N1{K:W.Frag}:∀f fd,Fun K "chart_of" "chart_of" s_chart_of f fd→Binds K fd p_chart_of []:=fun f fd F=>F.binds (ps:=p_chart_of) fun _ _ _ _ _ _ us hl=>by obtain⟨_,_,_,_,rfl⟩:=ln4 hl;rfl
theorem Z1{K:W.Frag}:∀f fd,Fun K "void" "void" s_void f fd→Binds K fd p_void []:=fun f fd F=>F.binds (ps:=p_void) fun _ _ _ _ _ _ us hl=>by obtain⟨_,_,_,rfl⟩:=ln3 hl;rfl
theorem Pp{K:W.Frag}:∀f fd,Fun K "mark_at" "mark_at" s_mark_at f fd→Binds K fd p_mark_at []:=fun f fd F=>F.binds (ps:=p_mark_at) fun _ _ _ _ _ _ us hl=>by obtain⟨_,_,_,_,_,rfl⟩:=ln5 hl;rfl
theorem Pw{K:W.Frag}:∀f fd,Fun K "_law_drift" "_law_drift" s_L_drift f fd→Binds K fd p_L_drift []:=fun f fd F=>F.binds (ps:=p_L_drift) fun _ _ _ _ _ _ us hl=>by obtain⟨_,_,_,rfl⟩:=ln3 hl;rfl
theorem W9{K:W.Frag}:∀f fd,Fun K "_law_put" "_law_put" s_L_put f fd→Binds K fd p_L_put []:=fun f fd F=>F.binds (ps:=p_L_put) fun _ _ _ _ _ _ us hl=>by obtain⟨_,_,_,_,rfl⟩:=ln4 hl;rfl
theorem Pu{K:W.Frag}:∀f fd,Fun K "_law_water" "_law_water" s_L_water f fd→Binds K fd p_L_water []:=fun f fd F=>F.binds (ps:=p_L_water) fun _ _ _ _ _ _ us hl=>by obtain⟨_,_,rfl⟩:=ln2 hl;rfl
theorem Gj{K:W.Frag}:∀f fd,Fun K "_law_seen_right" "_law_seen_right" s_L_seen_right f fd→Binds K fd p_L_seen_right []:=fun f fd F=>F.binds (ps:=p_L_seen_right) fun _ _ _ _ _ _ us hl=>by obtain⟨_,_,_,_,_,rfl⟩:=ln5 hl;rfl
theorem Gi{K:W.Frag}:∀f fd,Fun K "_law_shut_right" "_law_shut_right" s_L_shut_right f fd→Binds K fd A7 []:=fun f fd F=>F.binds (ps:=A7) fun _ _ _ _ _ _ us hl=>by obtain⟨_,_,_,_,_,rfl⟩:=ln5 hl;rfl
theorem Nz{K:W.Frag}:∀f fd,Fun K "in_order" "in_order" s_in_order f fd→Binds K fd p_in_order []:=fun f fd F=>F.binds (ps:=p_in_order) fun _ _ _ _ _ _ us hl=>by obtain⟨_,_,rfl⟩:=ln2 hl;rfl
theorem Gg{K:W.Frag}:∀f fd,Fun K "chart_behind" "chart_behind" s_chart_behind f fd→Binds K fd A0 []:=fun f fd F=>F.binds (ps:=A0) fun _ _ _ _ _ _ us hl=>by obtain⟨_,_,_,_,rfl⟩:=ln4 hl;rfl
theorem Z5{K:W.Frag}:∀f fd,Fun K "__init__" "Chart.__init__" s_Chart_init f fd→Binds K fd Bc []:=fun f fd F=>F.binds (ps:=Bc) fun _ _ _ _ _ _ us hl=>by obtain⟨_,_,rfl⟩:=ln2 hl;rfl
theorem Aen{h:Heap}(X:K.In h)(G:h.Ns mainGlobals mg)(z0:W.nsIn K mainGlobals "len" = some none)(z1:W.nsIn K mainGlobals "range" = some none)(z2:W.nsIn K mainGlobals "abs" = some none)(z3:W.nsIn K mainGlobals "divmod" = some none)(z4:W.nsIn K mainGlobals "max" = some none)(z5:W.nsIn K mainGlobals "min" = some none)(z6:W.nsIn K mainGlobals "tuple" = some none)(z7:W.nsIn K mainGlobals "int" = some none)(z8:W.nsIn K mainGlobals "bool" = some none)(z9:W.nsIn K mainGlobals "list" = some none)(z10:W.nsIn K mainGlobals "str" = some none)(z11:W.nsIn K mainGlobals "isinstance" = some none)(z12:W.nsIn K mainGlobals "all" = some none)(z13:W.nsIn K mainGlobals "sorted" = some none)(z14:W.nsIn K mainGlobals "repr" = some none)(z15:W.nsIn K mainGlobals "dict" = some none)(z16:W.nsIn K mainGlobals "zip" = some none)(z17:W.nsIn K mainGlobals "set" = some none)(z18:W.nsIn K mainGlobals "sum" = some none)(z19:W.nsIn K mainGlobals "reversed" = some none)(z20:W.nsIn K mainGlobals "enumerate" = some none)(z21:W.nsIn K mainGlobals "ValueError" = some none):Blt mg:=⟨fun {x} hx=>by
 simp only[Ng,List.mem_cons,List.not_mem_nil,or_false] at hx;rcases hx with rfl|rfl|rfl|rfl|rfl|rfl|rfl|rfl|rfl|rfl|rfl|rfl|rfl|rfl|rfl|rfl|rfl|rfl|rfl|rfl|rfl|rfl
 ·exact W.mg_none_of X G z0
 ·exact W.mg_none_of X G z1
 ·exact W.mg_none_of X G z2
 ·exact W.mg_none_of X G z3
 ·exact W.mg_none_of X G z4
 ·exact W.mg_none_of X G z5
 ·exact W.mg_none_of X G z6
 ·exact W.mg_none_of X G z7
 ·exact W.mg_none_of X G z8
 ·exact W.mg_none_of X G z9
 ·exact W.mg_none_of X G z10
 ·exact W.mg_none_of X G z11
 ·exact W.mg_none_of X G z12
 ·exact W.mg_none_of X G z13
 ·exact W.mg_none_of X G z14
 ·exact W.mg_none_of X G z15
 ·exact W.mg_none_of X G z16
 ·exact W.mg_none_of X G z17
 ·exact W.mg_none_of X G z18
 ·exact W.mg_none_of X G z19
 ·exact W.mg_none_of X G z20
 ·exact W.mg_none_of X G z21⟩
theorem Zi{h:Heap}(X:K.In h)(G:h.Ns mainGlobals mg)(B:Blt mg){t0 t1 t2 t3 t4 t5 t6 t7 t8 t9:Tok}(a0:W.nsIn K mainGlobals "LEAST_COLUMNS" = some (some (.int 2 t0)))(a1:W.nsIn K mainGlobals "MOST_COLUMNS" = some (some (.int 16 t1)))(a2:W.nsIn K mainGlobals "LEAST_ROWS" = some (some (.int 1 t2)))(a3:W.nsIn K mainGlobals "MOST_ROWS" = some (some (.int 9 t3)))(a4:W.nsIn K mainGlobals "LAND" = some (some (.int 0 t4)))(a5:W.nsIn K mainGlobals "MOST_DEPTH" = some (some (.int 9 t5)))(a6:W.nsIn K mainGlobals "LAST_DAY" = some (some (.int 400 t6)))(a7:W.nsIn K mainGlobals "LAST_NUMBER" = some (some (.int 99 t7)))(a8:W.nsIn K mainGlobals "LAST_MARK" = some (some (.int 12 t8)))(a9:W.nsIn K mainGlobals "MOST_NOTICES" = some (some (.int 30 t9))):Sn mg:=⟨⟨B,⟨t0,W.mg_of X G a0⟩,⟨t1,W.mg_of X G a1⟩,⟨t2,W.mg_of X G a2⟩,⟨t3,W.mg_of X G a3⟩,⟨t4,W.mg_of X G a4⟩,⟨t5,W.mg_of X G a5⟩,⟨t6,W.mg_of X G a6⟩⟩,⟨t7,W.mg_of X G a7⟩,⟨t8,W.mg_of X G a8⟩,⟨t9,W.mg_of X G a9⟩⟩
theorem nd5:([.inr "lay",.inr "lift",.inr "gale",.inr "seen",.inr "depth"]:List Key).Nodup:=by decide
structure TopIs(P:Program)(w:World)(K:W.Frag)(mg:Str→Option Value)(f0 f1 f2 f3 f4 g0 g1 g2 g3 g4:Addr):Prop where
 ex:∃C aD aO fi fdi,Sd P w K mg aD f0 f1 f2 f3 f4∧So P w K mg C aO g0 g1 g2 g3 g4∧Mk K C fi∧Fun K "__init__" "Chart.__init__" s_Chart_init fi fdi
theorem Ab3{h:Heap}(X:K.In h)(G:h.Ns mainGlobals mg)(N:Sn mg){C aD aO f f0 f1 f2 f3 f4 g0 g1 g2 g3 g4:Addr}{od an:Option Addr}{sl:Array (Option Value)}{oc kV dc pm cd ct:Value}{es eo:Array DictEntry}{ep eq:Nat}(aC:W.nsIn K mainGlobals "Chart" = some (some (.ref C)))(c1:W.plainGet K C Str.empty=true)(c2:W.hasDictIn K C=true)(c3:W.plainOver K C=true)(c4:W.findIn K (.ref C) "__setattr__" = some (some (.builtin "object.__setattr__")))(n1:W.findIn K (.ref C) "sea" = some none)(n2:W.findIn K (.ref C) "placed" = some none)(n3:W.findIn K (.ref C) "adrift" = some none)(n4:W.findIn K (.ref C) "undone" = some none)(m1:W.makesIn K C=true)(m2:W.findIn K (.ref C) "__init__" = some (some (.ref f)))(m3:W.isFn K (.ref f)=true)(m4:W.keepIn K (.ref C)=true)(l:K.lookup f=some ⟨oc,od,.func (W.fnOf "__init__" "Chart.__init__" (defArgs s_Chart_init) (defBody s_Chart_init) (defScope s_Chart_init) .none kV dc pm an cd ct),sl⟩)(c:W.codeIn K cd "Chart.__init__" = true)(k:W.keepIn K (.ref f)=true)(aE:W.nsIn K mainGlobals "DEEDS" = some (some (.ref aD)))(ld:K.lookup aD=some { cls:=.type "dict",data:=.dict es ep })(aF:W.nsIn K mainGlobals "DOINGS" = some (some (.ref aO)))(lo:K.lookup aO=some { cls:=.type "dict",data:=.dict eo eq })(hne:(aD == sysModules)=false)(hno:(aO == sysModules)=false)(hk:EntsAre w es.toList (Oy f0 f1 f2 f3 f4))(ho:EntsAre w eo.toList (La g0 g1 g2 g3 g4)):TopIs P w K mg f0 f1 f2 f3 f4 g0 g1 g2 g3 g4:=
 ⟨C,aD,aO,f,_,⟨N,W.mg_of X G aE,Aa9 ld hne hk nd5⟩,⟨⟨N,⟨c1,c2,c3,c4⟩,n1,n2,n3,n4,W.mg_of X G aC⟩,W.mg_of X G aF,Aa9 lo hno ho nd5⟩,⟨m1,m2,m3,m4⟩,Kv l c k⟩
structure LamIs(K:W.Frag)(x:Str)(st:Stmt)(T0:Addr):Prop where
 ex:∃f fd c0,Fun K x x st f fd∧W.nsIn K mainGlobals x=some (some (.ref f))∧W.keepIn K (.ref f)=true∧fd.code=.ref c0∧W.codeHdIn K c0 T0=true
theorem Mw{x:Str}{st:Stmt}{f c0:Addr}{od an:Option Addr}{sl:Array (Option Value)}{oc kV dc pm ct:Value}(a:W.nsIn K mainGlobals x=some (some (.ref f)))(l:K.lookup f=some ⟨oc,od,.func (W.fnOf x x (defArgs st) (defBody st) (defScope st) .none kV dc pm an (.ref c0) ct),sl⟩)(c:W.codeIn K (.ref c0) x=true)(k:W.keepIn K (.ref f)=true)(t:W.codeHdIn K c0 T0=true):LamIs K x st T0:=
 ⟨f,_,c0,Kv l c k,a,k,rfl,t⟩
structure FnAt(K:W.Frag)(x:Str)(st:Stmt)(f:Addr):Prop where
 ex:∃fd,Fun K x x st f fd∧W.keepIn K (.ref f)=true
theorem B4{x:Str}{st:Stmt}{f:Addr}{od an:Option Addr}{sl:Array (Option Value)}{oc kV dc pm cd ct:Value}(l:K.lookup f=some ⟨oc,od,.func (W.fnOf x x (defArgs st) (defBody st) (defScope st) .none kV dc pm an cd ct),sl⟩)(c:W.codeIn K cd x=true)(k:W.keepIn K (.ref f)=true):FnAt K x st f:=⟨_,Kv l c k,k⟩
theorem Cv{x:Str}{st:Stmt}{f:Addr}{j k:Nat}{ps:List Str}{sp:DSp}(I:FnAt K x st f)(h:j≤k)(hb:∀f fd,Fun K x x st f fd→Binds K fd ps [])(ok:∀f fd,Fun K x x st f fd→FnOk P w K mg base CX0 j f fd ps (liftSp K sp)):FnV P w K mg base CX0 k f sp:=by
 obtain⟨fd,F,kp⟩:=I.ex;exact⟨fd,ps,(ok f fd F).mono h,kp,hb f fd F⟩
theorem Aep{h:Heap}{f0 f1 f2 f3 f4 g0 g1 g2 g3 g4:Addr}(X:K.In h)(G:h.Ns mainGlobals mg)(Z:TopIs P w K mg f0 f1 f2 f3 f4 g0 g1 g2 g3 g4)(J_in_order:LamIs K "in_order" s_in_order T0)(A_lays:FnAt K "lays" s_lays f0)(A_lifts:FnAt K "lifts" s_lifts f1)(A_blows:FnAt K "blows" s_blows f2)(A_sees:FnAt K "sees" s_sees f3)(A_deepens:FnAt K "deepens" s_deepens f4)(A_lay:FnAt K "lay" s_lay g0)(A_lift:FnAt K "lift" s_lift g1)(A_blow:FnAt K "blow" s_blow g2)(A_see:FnAt K "see" s_see g3)(A_deepen:FnAt K "deepen" s_deepen g4)(Ai8:FnIs K "_law_box" s_L_box)(Ai9:FnIs K "_law_more" s_L_more)(Aja:FnIs K "_law_take" s_L_take)(Ajb:FnIs K "is_whole_within" s_is_whole_within)(Ajc:FnIs K "is_depth" s_is_depth)(Ajd:FnIs K "is_day" s_is_day)(Aje:FnIs K "is_column" s_is_column)(Ajf:FnIs K "is_sea" s_is_sea)(Ajg:FnIs K "check_sea" s_check_sea)(Ajh:FnIs K "check_day" s_check_day)(Aji:FnIs K "depth_at" s_depth_at)(Ajj:FnIs K "is_cell" s_is_cell)(Ajk:FnIs K "check_cell" s_check_cell)(Ajl:FnIs K "is_water" s_is_water)(Ajm:FnIs K "waters_beside" s_waters_beside)(Ajn:FnIs K "one_step_on" s_one_step_on)(Ajo:FnIs K "drift" s_drift)(Ajp:FnIs K "_law_sea" s_L_sea)(Ajq:FnIs K "_law_cell_of" s_L_cell_of)(Ajr:FnIs K "_law_round" s_L_round)(Ajs:FnIs K "is_number" s_is_number)(Ajt:FnIs K "is_mark" s_is_mark)(Aju:FnIs K "is_shape" s_is_shape)(Ajv:FnIs K "is_colour" s_is_colour)(Ajw:FnIs K "is_sinker" s_is_sinker)(Ajx:FnIs K "is_strength" s_is_strength)(Ajy:FnIs K "is_deed" s_is_deed)(Ajz:FnIs K "is_notice" s_is_notice)(Aj0:FnIs K "are_notices" s_are_notices)(Aj1:FnIs K "check_notices" s_check_notices)(Aj2:FnIs K "check_held" s_check_held)(Aj3:FnIs K "check_mark" s_check_mark)(Aj4:FnIs K "is_ashore" s_is_ashore)(Aj5:FnIs K "cells_adrift" s_cells_adrift)(Aj6:FnIs K "with_depth" s_with_depth)(Aj7:FnIs K "chart_of" s_chart_of)(Aj8:FnIs K "void" s_void)(Aj9:FnIs K "mark_at" s_mark_at)(Aka:FnIs K "_law_drift" s_L_drift)(Akb:FnIs K "_law_put" s_L_put)(Akc:FnIs K "_law_water" s_L_water)(Akd:FnIs K "_law_seen_right" s_L_seen_right)(Ake:FnIs K "_law_shut_right" s_L_shut_right)(Akf:FnIs K "chart_behind" s_chart_behind){f:Addr}{fd:FuncData}(F:Fun K "law" "law" s_law f fd):FnOk P w K mg base CX0 16 f fd T7 (liftSp K (Kk [(T0,qL)])):=by
 obtain⟨C,aD,aO,fi,fdi,TD,TO,MC,FI⟩:=Z.ex;have T:=TO.toSy;have F_Chart:FnOk P w K mg base CX0 1 fi fdi Bc (liftSp K (Kl C)):=Zc FI T;obtain⟨fo,fdo,c0,FO,ao,kpo,hfc,hC⟩:=J_in_order.ex;have Aix:Def P w K mg base CX0 2 "in_order" p_in_order (spOrder T0 qL):=⟨fo,fdo,We FO T.toSn hfc hC,W.mg_of X G ao,kpo,Nz fo fdo FO⟩;have Ai3:Def P w K mg base CX0 1 "_law_box" p_L_box spBox:=Ai Ai8 X G Xa fun f fd F=>Adz F T.toBlt;have Aig:Def P w K mg base CX0 1 "_law_more" C1 Kj:=Ai Ai9 X G Tp fun f fd F=>Y6 F T.toBlt;have Ah0:Def P w K mg base CX0 2 "_law_take" p_L_take spTake:=Ai Aja X G To fun f fd F=>Y2 F T.toBlt Aig;have Ahz:Def P w K mg base CX0 1 "is_whole_within" Ae Bb:=Ai Ajb X G Eh fun f fd F=>Wa F T.toNums;have Ah6:Def P w K mg base CX0 2 "is_depth" p_is_depth (spIn 0 9):=Ai Ajc X G Ny fun f fd F=>Wh F T.toNums Ahz;have Ah7:Def P w K mg base CX0 2 "is_day" p_is_day (spIn 0 400):=Ai Ajd X G Tk fun f fd F=>Ady F T.toNums Ahz;have Aih:Def P w K mg base CX0 3 "is_column" Bv Ev:=Ai Aje X G L0 fun f fd F=>Sl F T.toNums Ah6;have Aii:Def P w K mg base CX0 4 "is_sea" C0 P7:=Ai Ajf X G Tj fun f fd F=>Adv F T.toNums Aih;have Ah8:Def P w K mg base CX0 5 "check_sea" p_check_sea spCheckSea:=Ai Ajg X G L4 fun f fd F=>Nm F T.toNums Aii;have Ah9:Def P w K mg base CX0 3 "check_day" p_check_day (spChk 0 400):=Ai Ajh X G L5 fun f fd F=>Nn F T.toNums Ah7;have Aij:Def P w K mg base CX0 1 "depth_at" B1 Dz:=Ai Aji X G N0 fun f fd F=>Pc F T.toNums;have Ah1:Def P w K mg base CX0 2 "is_cell" p_is_cell spCell:=Ai Ajj X G Ps fun f fd F=>Zf F T.toNums Ahz;have Ail:Def P w K mg base CX0 3 "check_cell" Bo Cr:=Ai Ajk X G Iz fun f fd F=>Ls F T.toNums Ah1;have Ah5:Def P w K mg base CX0 2 "is_water" p_is_water spWater:=Ai Ajl X G Nw fun f fd F=>Wb F T.toNums Aij;have Aik:Def P w K mg base CX0 3 "waters_beside" A5 Ew:=Ai Ajm X G Fx fun f fd F=>Su F T.toNums Ah1 Ah5;have Aim:Def P w K mg base CX0 4 "one_step_on" Bf Fl:=Ai Ajn X G Ig fun f fd F=>Pa F T.toNums Aik;have Aiv:Def P w K mg base CX0 6 "drift" Dw spDrift:=Ai Ajo X G W6 fun f fd F=>Wg F T.toNums Ah8 Ail Ah9 Ah5 Aim;have Ai4:Def P w K mg base CX0 3 "_law_sea" p_L_sea spLSea:=Ai Ajp X G W8 fun f fd F=>Y8 F T.toBlt Ah0;have Aif:Def P w K mg base CX0 3 "_law_cell_of" p_L_cell_of spCellOf:=Ai Ajq X G L6 fun f fd F=>Ss F T.toBlt Ah0;have Ai0:Def P w K mg base CX0 1 "_law_round" Cm Go:=Ai Ajr X G Pv fun f fd F=>Wd F T.toBlt;have Air:Def P w K mg base CX0 2 "is_number" p_is_number (spIn 1 99):=Ai Ajs X G Ly fun f fd F=>Sg F T.toSn Ahz;have Ah3:Def P w K mg base CX0 2 "is_mark" p_is_mark (spIn 1 12):=Ai Ajt X G Pq fun f fd F=>Y7 F T.toSn Ahz;have Ain:Def P w K mg base CX0 2 "is_shape" p_is_shape (spIn 0 2):=Ai Aju X G Nx fun f fd F=>Wc F T.toSn Ahz;have Aio:Def P w K mg base CX0 2 "is_colour" p_is_colour (spIn 0 2):=Ai Ajv X G L1 fun f fd F=>Sm F T.toSn Ahz;have Aip:Def P w K mg base CX0 2 "is_sinker" p_is_sinker (spIn 1 9):=Ai Ajw X G Lx fun f fd F=>Sf F T.toSn Ahz;have Aiq:Def P w K mg base CX0 2 "is_strength" p_is_strength (spIn 1 9):=Ai Ajx X G Ih fun f fd F=>Nl F T.toSn Ahz;have V_are_parts:∀f sp,Lh f0 f1 f2 f3 f4 f sp→FnV P w K mg base CX0 3 f sp:=by
  rintro f sp (⟨rfl,rfl⟩|⟨rfl,rfl⟩|⟨rfl,rfl⟩|⟨rfl,rfl⟩|⟨rfl,rfl⟩)
  ·exact Cv A_lays (by decide) Z4 fun f fd F=>Zb F T.toSn Ah3 Ah1 Ain Aio Aip
  ·exact Cv A_lifts (by decide) W5 fun f fd F=>Wf F T.toSn Ah3
  ·exact Cv A_blows (by decide) W7 fun f fd F=>Wi F T.toSn Aiq
  ·exact Cv A_sees (by decide) Z2 fun f fd F=>Y4 F T.toSn Ah3 Ah1
  ·exact Cv A_deepens (by decide) Pt fun f fd F=>Pd F T.toSn Ah1 Ah6
 have Ais:Def P w K mg base CX0 4 "is_deed" Ck Oi:=Ai Ajy X G Pr fun f fd F=>Ze F TD V_are_parts;have Ait:Def P w K mg base CX0 5 "is_notice" Bu Hj:=Ai Ajz X G Lz fun f fd F=>Sh F T.toSn Air Ah7 Ais;have Aiu:Def P w K mg base CX0 6 "are_notices" Bg T5:=Ai Aj0 X G Ii fun f fd F=>Pb F T.toSn Ah8 Ait;have Aic:Def P w K mg base CX0 7 "check_notices" p_check_notices spNtsC:=Ai Aj1 X G Fy fun f fd F=>Ge F T.toSn Aiu;have Aid:Def P w K mg base CX0 2 "check_held" p_check_held (spChk 0 99):=Ai Aj2 X G Iy fun f fd F=>Zd F T.toSn Ahz;have Aiz:Def P w K mg base CX0 3 "check_mark" p_check_mark (spChk 1 12):=Ai Aj3 X G Ix fun f fd F=>Lr F T.toSn Ah3;have Aia:Def P w K mg base CX0 1 "is_ashore" p_is_ashore (spAshore C):=Ai Aj4 X G L3 fun f fd F=>Sw F T;have Aib:Def P w K mg base CX0 7 "cells_adrift" p_cells_adrift (spCellsA C):=Ai Aj5 X G Gh fun f fd F=>Sr F T Aiv;have Aiw:Def P w K mg base CX0 1 "with_depth" p_with_depth spWithD:=Ai Aj6 X G Iw fun f fd F=>V9 F T;have V_do_deed:∀f sp,IsDo C g0 g1 g2 g3 g4 f sp→FnV P w K mg base CX0 8 f sp:=by
  rintro f sp (⟨rfl,rfl⟩|⟨rfl,rfl⟩|⟨rfl,rfl⟩|⟨rfl,rfl⟩|⟨rfl,rfl⟩)
  ·exact Cv A_lay (by decide) Aem fun f fd F=>Adw F T Aia Ah5
  ·exact Cv A_lift (by decide) Z3 fun f fd F=>Za F T Aia
  ·exact Cv A_blow (by decide) Z6 fun f fd F=>Zg F T
  ·exact Cv A_see (by decide) Ael fun f fd F=>Adu F T Aib
  ·exact Cv A_deepen (by decide) Tl fun f fd F=>Sk F T Aiw
 have Aie:Def P w K mg base CX0 12 "chart_behind" A0 (Ex C T0 qL):=Ai Akf X G Gg fun f fd F=>Sv F TO Aix MC F_Chart (Z5 _ _ FI) V_do_deed;have Aiy:Def P w K mg base CX0 13 "chart_of" p_chart_of (spChartOf C T0 qL):=Ai Aj7 X G N1 fun f fd F=>Pe F T.toSn Aic Aid Ah9 Aie;have Ai1:Def P w K mg base CX0 13 "void" p_void (spVoid T0 qL):=Ai Aj8 X G Z1 fun f fd F=>Y1 F T Aic Aid Aie;have Ah2:Def P w K mg base CX0 14 "mark_at" p_mark_at (spMarkAt T0 qL):=Ai Aj9 X G Pp fun f fd F=>Si F T Aiy Aiz Aib;have Ah4:Def P w K mg base CX0 2 "_law_drift" p_L_drift spDrift:=Ai Aka X G Pw fun f fd F=>Sj F T.toBlt Ai0;have Ai2:Def P w K mg base CX0 1 "_law_put" p_L_put spLPut:=Ai Akb X G W9 fun f fd F=>Y9 F T.toNums;have Ai5:Def P w K mg base CX0 3 "_law_water" p_L_water spWaterL:=Ai Akc X G Pu fun f fd F=>Se F T.toNums Ah0;have Ai6:Def P w K mg base CX0 15 "_law_seen_right" p_L_seen_right (spSeen T0 qL):=Ai Akd X G Gj fun f fd F=>Y5 F T.toNums Ah0 Ah4 Aif Ai1 Ah2;have Ai7:Def P w K mg base CX0 15 "_law_shut_right" A7 (Oh T0 qL):=Ai Ake X G Gi fun f fd F=>Y3 F T.toNums Ah0 Ah4 Aif Ai2 Ah2;exact Adx F T.toNums Ai3 Ah0 Ai4 Ai5 Ah4 Ah2 Ai6 Ai7
end
end K2
open PySem PySem.W PyProof.Rows L2 D3
set_option maxRecDepth 100000 in
set_option maxHeartbeats 0 in
theorem PySem.Challenge.cw_laidmarks_k08_adrift_day_by_day_holds : PySem.Challenge.rw_laidmarks_k08_adrift_day_by_day.Holds := by
  w_on;o_law;k_head;(case hw=>w_witness2)
  k_fill
  refine D3.U4 (l:=PySem.Challenge.rw_laidmarks_k08_adrift_day_by_day) (n:=63) (k:=16) (x:="_law_script") (ts:=[391]) (CX:=CX0) (sp:=fun K=>liftSp K (Kk [(391,K2.qL)])) ?I rfl (by decide) rfl ⟨rfl,by decide,by decide,rfl⟩ (fun w h Y=>⟨W.km_in_of Y,W.km_tabs_of Y⟩) ?C ?F (Zn [(391,K2.qL)] (by decide)) (fun _ _ _ _ z=>z)
  case I=>first | rfl | decide
  case C=>
    intro w h KX T hT;obtain rfl:=List.mem_singleton.mp hT;have J_in_order:K2.LamIs (KOf KX) "in_order" K2.s_in_order 391:=by (dsimp only [KOf];refine' K2.Mw ?a ?l ?c ?k ?t;(case a=>k_is);(case l=>k_is);(case c=>k_is);(case k=>k_is);(case t=>kernel_rfl))
    obtain ⟨_,_,c0,_,_,_,_,hc⟩:=J_in_order.ex;exact ⟨⟨c0,hc⟩,by kernel_rfl⟩
  case F=>
    intro w mg fa h KX G hmg;have Ai8:FnIs (KOf KX) "_law_box" K2.s_L_box:=by (dsimp only [KOf];refine' Ag ?a ?l ?c ?k;(case a=>k_is);(case l=>k_is);(case c=>k_is);(case k=>k_is))
    have Ai9:FnIs (KOf KX) "_law_more" K2.s_L_more:=by (dsimp only [KOf];refine' Ag ?a ?l ?c ?k;(case a=>k_is);(case l=>k_is);(case c=>k_is);(case k=>k_is))
    have Aja:FnIs (KOf KX) "_law_take" K2.s_L_take:=by (dsimp only [KOf];refine' Ag ?a ?l ?c ?k;(case a=>k_is);(case l=>k_is);(case c=>k_is);(case k=>k_is))
    have Ajb:FnIs (KOf KX) "is_whole_within" K2.s_is_whole_within:=by (dsimp only [KOf];refine' Ag ?a ?l ?c ?k;(case a=>k_is);(case l=>k_is);(case c=>k_is);(case k=>k_is))
    have Ajc:FnIs (KOf KX) "is_depth" K2.s_is_depth:=by (dsimp only [KOf];refine' Ag ?a ?l ?c ?k;(case a=>k_is);(case l=>k_is);(case c=>k_is);(case k=>k_is))
    have Ajd:FnIs (KOf KX) "is_day" K2.s_is_day:=by (dsimp only [KOf];refine' Ag ?a ?l ?c ?k;(case a=>k_is);(case l=>k_is);(case c=>k_is);(case k=>k_is))
    have Aje:FnIs (KOf KX) "is_column" K2.s_is_column:=by (dsimp only [KOf];refine' Ag ?a ?l ?c ?k;(case a=>k_is);(case l=>k_is);(case c=>k_is);(case k=>k_is))
    have Ajf:FnIs (KOf KX) "is_sea" K2.s_is_sea:=by (dsimp only [KOf];refine' Ag ?a ?l ?c ?k;(case a=>k_is);(case l=>k_is);(case c=>k_is);(case k=>k_is))
    have Ajg:FnIs (KOf KX) "check_sea" K2.s_check_sea:=by (dsimp only [KOf];refine' Ag ?a ?l ?c ?k;(case a=>k_is);(case l=>k_is);(case c=>k_is);(case k=>k_is))
    have Ajh:FnIs (KOf KX) "check_day" K2.s_check_day:=by (dsimp only [KOf];refine' Ag ?a ?l ?c ?k;(case a=>k_is);(case l=>k_is);(case c=>k_is);(case k=>k_is))
    have Aji:FnIs (KOf KX) "depth_at" K2.s_depth_at:=by (dsimp only [KOf];refine' Ag ?a ?l ?c ?k;(case a=>k_is);(case l=>k_is);(case c=>k_is);(case k=>k_is))
    have Ajj:FnIs (KOf KX) "is_cell" K2.s_is_cell:=by (dsimp only [KOf];refine' Ag ?a ?l ?c ?k;(case a=>k_is);(case l=>k_is);(case c=>k_is);(case k=>k_is))
    have Ajk:FnIs (KOf KX) "check_cell" K2.s_check_cell:=by (dsimp only [KOf];refine' Ag ?a ?l ?c ?k;(case a=>k_is);(case l=>k_is);(case c=>k_is);(case k=>k_is))
    have Ajl:FnIs (KOf KX) "is_water" K2.s_is_water:=by (dsimp only [KOf];refine' Ag ?a ?l ?c ?k;(case a=>k_is);(case l=>k_is);(case c=>k_is);(case k=>k_is))
    have Ajm:FnIs (KOf KX) "waters_beside" K2.s_waters_beside:=by (dsimp only [KOf];refine' Ag ?a ?l ?c ?k;(case a=>k_is);(case l=>k_is);(case c=>k_is);(case k=>k_is))
    have Ajn:FnIs (KOf KX) "one_step_on" K2.s_one_step_on:=by (dsimp only [KOf];refine' Ag ?a ?l ?c ?k;(case a=>k_is);(case l=>k_is);(case c=>k_is);(case k=>k_is))
    have Ajo:FnIs (KOf KX) "drift" K2.s_drift:=by (dsimp only [KOf];refine' Ag ?a ?l ?c ?k;(case a=>k_is);(case l=>k_is);(case c=>k_is);(case k=>k_is))
    have Ajp:FnIs (KOf KX) "_law_sea" K2.s_L_sea:=by (dsimp only [KOf];refine' Ag ?a ?l ?c ?k;(case a=>k_is);(case l=>k_is);(case c=>k_is);(case k=>k_is))
    have Ajq:FnIs (KOf KX) "_law_cell_of" K2.s_L_cell_of:=by (dsimp only [KOf];refine' Ag ?a ?l ?c ?k;(case a=>k_is);(case l=>k_is);(case c=>k_is);(case k=>k_is))
    have Ajr:FnIs (KOf KX) "_law_round" K2.s_L_round:=by (dsimp only [KOf];refine' Ag ?a ?l ?c ?k;(case a=>k_is);(case l=>k_is);(case c=>k_is);(case k=>k_is))
    have Ajs:FnIs (KOf KX) "is_number" K2.s_is_number:=by (dsimp only [KOf];refine' Ag ?a ?l ?c ?k;(case a=>k_is);(case l=>k_is);(case c=>k_is);(case k=>k_is))
    have Ajt:FnIs (KOf KX) "is_mark" K2.s_is_mark:=by (dsimp only [KOf];refine' Ag ?a ?l ?c ?k;(case a=>k_is);(case l=>k_is);(case c=>k_is);(case k=>k_is))
    have Aju:FnIs (KOf KX) "is_shape" K2.s_is_shape:=by (dsimp only [KOf];refine' Ag ?a ?l ?c ?k;(case a=>k_is);(case l=>k_is);(case c=>k_is);(case k=>k_is))
    have Ajv:FnIs (KOf KX) "is_colour" K2.s_is_colour:=by (dsimp only [KOf];refine' Ag ?a ?l ?c ?k;(case a=>k_is);(case l=>k_is);(case c=>k_is);(case k=>k_is))
    have Ajw:FnIs (KOf KX) "is_sinker" K2.s_is_sinker:=by (dsimp only [KOf];refine' Ag ?a ?l ?c ?k;(case a=>k_is);(case l=>k_is);(case c=>k_is);(case k=>k_is))
    have Ajx:FnIs (KOf KX) "is_strength" K2.s_is_strength:=by (dsimp only [KOf];refine' Ag ?a ?l ?c ?k;(case a=>k_is);(case l=>k_is);(case c=>k_is);(case k=>k_is))
    have Ajy:FnIs (KOf KX) "is_deed" K2.s_is_deed:=by (dsimp only [KOf];refine' Ag ?a ?l ?c ?k;(case a=>k_is);(case l=>k_is);(case c=>k_is);(case k=>k_is))
    have Ajz:FnIs (KOf KX) "is_notice" K2.s_is_notice:=by (dsimp only [KOf];refine' Ag ?a ?l ?c ?k;(case a=>k_is);(case l=>k_is);(case c=>k_is);(case k=>k_is))
    have Aj0:FnIs (KOf KX) "are_notices" K2.s_are_notices:=by (dsimp only [KOf];refine' Ag ?a ?l ?c ?k;(case a=>k_is);(case l=>k_is);(case c=>k_is);(case k=>k_is))
    have Aj1:FnIs (KOf KX) "check_notices" K2.s_check_notices:=by (dsimp only [KOf];refine' Ag ?a ?l ?c ?k;(case a=>k_is);(case l=>k_is);(case c=>k_is);(case k=>k_is))
    have Aj2:FnIs (KOf KX) "check_held" K2.s_check_held:=by (dsimp only [KOf];refine' Ag ?a ?l ?c ?k;(case a=>k_is);(case l=>k_is);(case c=>k_is);(case k=>k_is))
    have Aj3:FnIs (KOf KX) "check_mark" K2.s_check_mark:=by (dsimp only [KOf];refine' Ag ?a ?l ?c ?k;(case a=>k_is);(case l=>k_is);(case c=>k_is);(case k=>k_is))
    have Aj4:FnIs (KOf KX) "is_ashore" K2.s_is_ashore:=by (dsimp only [KOf];refine' Ag ?a ?l ?c ?k;(case a=>k_is);(case l=>k_is);(case c=>k_is);(case k=>k_is))
    have Aj5:FnIs (KOf KX) "cells_adrift" K2.s_cells_adrift:=by (dsimp only [KOf];refine' Ag ?a ?l ?c ?k;(case a=>k_is);(case l=>k_is);(case c=>k_is);(case k=>k_is))
    have Aj6:FnIs (KOf KX) "with_depth" K2.s_with_depth:=by (dsimp only [KOf];refine' Ag ?a ?l ?c ?k;(case a=>k_is);(case l=>k_is);(case c=>k_is);(case k=>k_is))
    have Aj7:FnIs (KOf KX) "chart_of" K2.s_chart_of:=by (dsimp only [KOf];refine' Ag ?a ?l ?c ?k;(case a=>k_is);(case l=>k_is);(case c=>k_is);(case k=>k_is))
    have Aj8:FnIs (KOf KX) "void" K2.s_void:=by (dsimp only [KOf];refine' Ag ?a ?l ?c ?k;(case a=>k_is);(case l=>k_is);(case c=>k_is);(case k=>k_is))
    have Aj9:FnIs (KOf KX) "mark_at" K2.s_mark_at:=by (dsimp only [KOf];refine' Ag ?a ?l ?c ?k;(case a=>k_is);(case l=>k_is);(case c=>k_is);(case k=>k_is))
    have Aka:FnIs (KOf KX) "_law_drift" K2.s_L_drift:=by (dsimp only [KOf];refine' Ag ?a ?l ?c ?k;(case a=>k_is);(case l=>k_is);(case c=>k_is);(case k=>k_is))
    have Akb:FnIs (KOf KX) "_law_put" K2.s_L_put:=by (dsimp only [KOf];refine' Ag ?a ?l ?c ?k;(case a=>k_is);(case l=>k_is);(case c=>k_is);(case k=>k_is))
    have Akc:FnIs (KOf KX) "_law_water" K2.s_L_water:=by (dsimp only [KOf];refine' Ag ?a ?l ?c ?k;(case a=>k_is);(case l=>k_is);(case c=>k_is);(case k=>k_is))
    have Akd:FnIs (KOf KX) "_law_seen_right" K2.s_L_seen_right:=by (dsimp only [KOf];refine' Ag ?a ?l ?c ?k;(case a=>k_is);(case l=>k_is);(case c=>k_is);(case k=>k_is))
    have Ake:FnIs (KOf KX) "_law_shut_right" K2.s_L_shut_right:=by (dsimp only [KOf];refine' Ag ?a ?l ?c ?k;(case a=>k_is);(case l=>k_is);(case c=>k_is);(case k=>k_is))
    have Akf:FnIs (KOf KX) "chart_behind" K2.s_chart_behind:=by (dsimp only [KOf];refine' Ag ?a ?l ?c ?k;(case a=>k_is);(case l=>k_is);(case c=>k_is);(case k=>k_is))
    have I_law:FnIs (KOf KX) "law" K2.s_law:=by (dsimp only [KOf];refine' Ag ?a ?l ?c ?k;(case a=>k_is);(case l=>k_is);(case c=>k_is);(case k=>k_is))
    have A_lays:K2.FnAt (KOf KX) "lays" K2.s_lays 240:=by (dsimp only [KOf];refine' K2.B4 ?l ?c ?k;(case l=>k_is);(case c=>k_is);(case k=>k_is))
    have A_lifts:K2.FnAt (KOf KX) "lifts" K2.s_lifts 247:=by (dsimp only [KOf];refine' K2.B4 ?l ?c ?k;(case l=>k_is);(case c=>k_is);(case k=>k_is))
    have A_blows:K2.FnAt (KOf KX) "blows" K2.s_blows 254:=by (dsimp only [KOf];refine' K2.B4 ?l ?c ?k;(case l=>k_is);(case c=>k_is);(case k=>k_is))
    have A_sees:K2.FnAt (KOf KX) "sees" K2.s_sees 261:=by (dsimp only [KOf];refine' K2.B4 ?l ?c ?k;(case l=>k_is);(case c=>k_is);(case k=>k_is))
    have A_deepens:K2.FnAt (KOf KX) "deepens" K2.s_deepens 268:=by (dsimp only [KOf];refine' K2.B4 ?l ?c ?k;(case l=>k_is);(case c=>k_is);(case k=>k_is))
    have A_lay:K2.FnAt (KOf KX) "lay" K2.s_lay 360:=by (dsimp only [KOf];refine' K2.B4 ?l ?c ?k;(case l=>k_is);(case c=>k_is);(case k=>k_is))
    have A_lift:K2.FnAt (KOf KX) "lift" K2.s_lift 367:=by (dsimp only [KOf];refine' K2.B4 ?l ?c ?k;(case l=>k_is);(case c=>k_is);(case k=>k_is))
    have A_blow:K2.FnAt (KOf KX) "blow" K2.s_blow 374:=by (dsimp only [KOf];refine' K2.B4 ?l ?c ?k;(case l=>k_is);(case c=>k_is);(case k=>k_is))
    have A_see:K2.FnAt (KOf KX) "see" K2.s_see 381:=by (dsimp only [KOf];refine' K2.B4 ?l ?c ?k;(case l=>k_is);(case c=>k_is);(case k=>k_is))
    have A_deepen:K2.FnAt (KOf KX) "deepen" K2.s_deepen 388:=by (dsimp only [KOf];refine' K2.B4 ?l ?c ?k;(case l=>k_is);(case c=>k_is);(case k=>k_is))
    have J_in_order:K2.LamIs (KOf KX) "in_order" K2.s_in_order 391:=by (dsimp only [KOf];refine' K2.Mw ?a ?l ?c ?k ?t;(case a=>k_is);(case l=>k_is);(case c=>k_is);(case k=>k_is);(case t=>kernel_rfl))
    have B:K2.Blt mg:=by (refine' K2.Aen KX G ?z0 ?z1 ?z2 ?z3 ?z4 ?z5 ?z6 ?z7 ?z8 ?z9 ?z10 ?z11 ?z12 ?z13 ?z14 ?z15 ?z16 ?z17 ?z18 ?z19 ?z20 ?z21;(case z0=>k_is);(case z1=>k_is);(case z2=>k_is);(case z3=>k_is);(case z4=>k_is);(case z5=>k_is);(case z6=>k_is);(case z7=>k_is);(case z8=>k_is);(case z9=>k_is);(case z10=>k_is);(case z11=>k_is);(case z12=>k_is);(case z13=>k_is);(case z14=>k_is);(case z15=>k_is);(case z16=>k_is);(case z17=>k_is);(case z18=>k_is);(case z19=>k_is);(case z20=>k_is);(case z21=>k_is))
    have N:K2.Sn mg:=by (refine' K2.Zi KX G B ?a0 ?a1 ?a2 ?a3 ?a4 ?a5 ?a6 ?a7 ?a8 ?a9;(case a0=>k_is);(case a1=>k_is);(case a2=>k_is);(case a3=>k_is);(case a4=>k_is);(case a5=>k_is);(case a6=>k_is);(case a7=>k_is);(case a8=>k_is);(case a9=>k_is))
    have T:K2.TopIs PySem.Challenge.rw_laidmarks_k08_adrift_day_by_day.prog w (KOf KX) mg 240 247 254 261 268 360 367 374 381 388:=by (dsimp only [KOf];refine' K2.Ab3 KX G N ?aC ?c1 ?c2 ?c3 ?c4 ?n1 ?n2 ?n3 ?n4 ?m1 ?m2 ?m3 ?m4 ?l ?c ?k ?aE ?ld ?aF ?lo ?hne ?hno ?hk ?ho;(case aC=>k_is);(case c1=>k_is);(case c2=>k_is);(case c3=>k_is);(case c4=>k_is);(case n1=>k_is);(case n2=>k_is);(case n3=>k_is);(case n4=>k_is);(case m1=>k_is);(case m2=>k_is);(case m3=>k_is);(case m4=>k_is);(case l=>k_is);(case c=>k_is);(case k=>k_is);(case aE=>k_is);(case ld=>k_is);(case aF=>k_is);(case lo=>k_is);(case hne=>first | decide | kernel_rfl);(case hno=>first | decide | kernel_rfl);(case hk=>exact .cons (.ref _) (.cons (.ref _) (.cons (.ref _) (.cons (.ref _) (.cons (.ref _) .nil)))));(case ho=>exact .cons (.ref _) (.cons (.ref _) (.cons (.ref _) (.cons (.ref _) (.cons (.ref _) .nil))))))
    obtain ⟨f,fd,F,a,kp⟩:=I_law.ex;have e0:=hmg.symm.trans (W.mg_of KX G a);cases e0;obtain ⟨oc,od,kV,doc,pm,an,cdv,ct,osl,efd,lk,hcd⟩:=id F.ex;refine ⟨fd,fun s u=>by (subst efd;exact .of_eq rfl),fun base kb nb=>K2.Aep KX G T J_in_order A_lays A_lifts A_blows A_sees A_deepens A_lay A_lift A_blow A_see A_deepen Ai8 Ai9 Aja Ajb Ajc Ajd Aje Ajf Ajg Ajh Aji Ajj Ajk Ajl Ajm Ajn Ajo Ajp Ajq Ajr Ajs Ajt Aju Ajv Ajw Ajx Ajy Ajz Aj0 Aj1 Aj2 Aj3 Aj4 Aj5 Aj6 Aj7 Aj8 Aj9 Aka Akb Akc Akd Ake Akf F⟩

