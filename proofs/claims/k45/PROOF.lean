import PyProof.Rows.All
import Wide.All
import OpenK.AllK
import Wide.FinOn
import Lean
import PyProof.EqAt
import PyProof.EqKinds
import PyProof.TupleCall
import OpenK.KOwn
import KE.KIsAll
import KE.KRevIter
import KE.KDictList
import PyProof.RulesAs
import PyProof.Rows.SumAny
import PyProof.Rows.SortRunsK
import KE.KSortTup
import KE.KDictOf
import PyProof.AttrMissHeap
import PyProof.EnumMake
import PyProof.EnumFor
import PyProof.EnumStmt
import PySem.Challenge.RW_laidmarks_k45_fairways_refused
set_option linter.all false
set_option compiler.extract_closed false
set_option Elab.async false
set_option maxRecDepth 100000
set_option maxHeartbeats 4000000
namespace PySem.W.Fast
def tw2590236331765371669:=0
def tw3426749805687552394:=0
def tw5839575331622949613:=0
def tw12710959674243570839:=0
def tw5799599223012741823:=0
def tw10684845578420150961:=0
def tw3780162173055368502:=0
def tw17234452385140686440:=0
def tw26631188472225060:=0
def tw13823129734834408723:=0
def tw11176314058105062731:=0
def tw16533372179022683842:=0
def tw819702150916494261:=0
def tw13870676665658561385:=0
def tw14136863870443936345:=0
def tw17324343047534240620:=0
def tw1969117340651495129:=0
def tw14781700551310956656:=0
def tw39538169410553203:=0
def tw7351334474714155269:=0
def tw3805333183581831120:=0
def tw17932022180098032435:=0
def tw1761323409467232802:=0
def tw11168906034031027892:=0
def tw90450447083645103:=0
def tw18195681564956070458:=0
def tw12846318160409513693:=0
def tw6187822516889242514:=0
def tw16208382419204352367:=0
def tw11440210118597561799:=0
def tw14343830249041193935:=0
def tw1606471995068674641:=0
def tw12237806272809079822:=0
def tw16346731689080390221:=0
def tw6733867283523922631:=0
def tw4060971996145154199:=0
def tw8088518423550274863:=0
def tw12266275427122416284:=0
def tw12410523031570634163:=0
def tw7736613191136532225:=0
def tw10034002993350820491:=0
def tw13977360101796100680:=0
def tw3494072941078706276:=0
def tw14535475110981803067:=0
def tw6575903884761330633:=0
def tw18050385564206066229:=0
def tw5238342529636799528:=0
def tw13157721126255237089:=0
def tw4711904963973570523:=0
def tw4998263914059150533:=0
def tw7792876390816961321:=0
def tw4201704832295125422:=0
def tw17525789803797831670:=0
def tw60031926378627498:=0
def tw11187635233869854035:=0
def tw15943943155281450053:=0
def tw9539740839722646645:=0
def tw7021735964661629644:=0
def tw10037711440944513397:=0
def tw16382641543223854834:=0
def tw14029037065496361300:=0
def tw6339203235651301150:=0
def tw10601559993313341545:=0
def tw13529276861786801624:=0
def tw8139902898751071373:=0
def tw17055042183171667242:=0
def tw2650938849136788582:=0
def tw10226118725392797642:=0
def tw8061655974157963313:=0
def tw17307266622014849878:=0
def tw10424621887268494863:=0
def tw759009127111774399:=0
def tw6825650168485426209:=0
def tw4954597768148428104:=0
def tw6722275131801725826:=0
def tw6339356435332601193:=0
def tw7724839896095653590:=0
def tw2466249128938021469:=0
def tw1172031271982150695:=0
def tw15361941591498468347:=0
def tw17100944620809685181:=0
def tw16224646631914614886:=0
def tw4860169687880311283:=0
def tw14508395529960295272:=0
def tw1832762005795967222:=0
def tw12212058733237790585:=0
def tw5016988615438690021:=0
def tw5875959402073931665:=0
def tw12953969177354686237:=0
def tw12133932274460385518:=0
def tw12919379600598608327:=0
def tw7828448931016550245:=0
def tw2900709377986438210:=0
def tw4350408173366871434:=0
def tw7057410841540425502:=0
def tw8191139978004948932:=0
def tw187766830150125685:=0
def tw2926794157341251718:=0
def tw712787059368589100:=0
def tw7716035243589824167:=0
def tw5358628964159204542:=0
def tw8884876572896297331:=0
def tw18259686139269602254:=0
def tw8757044202159281967:=0
def tw14121730693142184458:=0
def tw17399346467584581512:=0
def tw10254397880134710756:=0
def tw6477264179875930349:=0
def tw10256648557104436961:=0
def tw11370585593364621570:=0
def tw1526047393879447090:=0
def tw9837174287630915138:=0
def tw6364647203625993519:=0
def tw1555511035533932338:=0
def tw4434618594848322508:=0
def tw4330878075637963502:=0
def tw1253596778241865440:=0
def tw13509676069654036612:=0
def tw8224846869986726884:=0
def tw11229290105510562253:=0
def tw17604412916996505999:=0
def tw6856804543827818030:=0
def tw13491196013063793814:=0
def tw13903133990934334738:=0
def tw11623714456785214294:=0
def tw13914637490983586016:=0
def tw11214917470015370440:=0
def tw6473117198305496160:=0
def tw3808586615744940573:=0
def tw5599822779170701306:=0
def tw9019172132651616211:=0
def tw8210978096727446715:=0
def tw8855441440778079644:=0
def tw9285559787316600135:=0
def tw4425783047808792458:=0
def tw5840237200653573620:=0
def tw8547913667358394535:=0
def tw13539779839061520171:=0
def tw9510144612048037653:=0
def tw4553753222651807852:=0
def tw16003081470746376974:=0
def tw13281222096325809889:=0
def tw8148711506610383282:=0
def tw461655812278223152:=0
def tw11814254390815148541:=0
def tw10054505114305005703:=0
def tw11355957944293169201:=0
def tw10301019819230771903:=0
def tw166704433540473717:=0
def tw6113412162212259398:=0
def tw13052892399842988639:=0
def tw466673866867671004:=0
def tw13238125958997323282:=0
def tw11089389823062606754:=0
def tw6362135061824804415:=0
def tw3547633145778572486:=0
def tw7450736773810734316:=0
def tw3684408880274215012:=0
def tw15814587437296934942:=0
def tw14426480188536826495:=0
def tw1882279869526187251:=0
def tw18429658468617143760:=0
def tw3282037370519673969:=0
def tw11620179654440033741:=0
def tw15143811642318711025:=0
def tw473890880089518555:=0
def tw14862645463875077723:=0
def tw16227772865412373301:=0
def tw182833228729304627:=0
def tw531187432530400378:=0
def tw14836888498533832434:=0
def tw6065044709209926490:=0
def tw16597631154435540133:=0
def tw5830306605418782853:=0
def tw5672831187618281570:=0
def tw17424903905450232798:=0
def tw16859059903190998526:=0
def tw15463426360166100398:=0
def tw24109969618063987:=0
def tw11192176912659789882:=0
def tw6408071015125646954:=0
def tw11488195786117285307:=0
def tw583312140588485228:=0
def tw13633843808309193334:=0
def tw4993083803235346363:=0
def tw4086224948193661222:=0
def tw17701306853323785580:=0
def tw1504322638980353582:=0
def tw16448396463343469802:=0
def tw3317149118629857908:=0
def tw12819728647487814992:=0
def tw3285915979479712670:=0
def tw3064760513037630607:=0
def tw10152210727467086271:=0
def tw2840271047524434369:=0
def tw10130872418461515975:=0
def tw1559537503423214744:=0
def tw11819051090447061773:=0
def tw9215907024322625071:=0
def tw2371422018541217679:=0
def tw9019339036684004640:=0
def tw8796385093773804166:=0
def tw7258039138687088893:=0
def tw5325180321538080090:=0
def tw5954310316826977448:=0
def tw13285735395136913400:=0
def tw17123867733791608002:=0
def tw14323563856261407064:=0
def tw14683667718207339033:=0
def tw7587628822503027914:=0
def tw9968378459449449639:=0
def tw16789125189686399211:=0
def tw14950603961180666241:=0
def tw15512409100600129366:=0
def tw1285561255565347241:=0
def tw8750965638709232039:=0
def tw4924483180660135866:=0
def tw14563537240106796945:=0
def tw14188742450549135252:=0
def tw5717067509672101592:=0
def tw1215516274227524095:=0
def tw11603583528960746843:=0
def tw1846227422358778832:=0
def tw6316660077291147791:=0
def tw2090041724983698923:=0
def tw10098267424081691129:=0
def tw16966577566333196973:=0
def tw1539263401788362062:=0
def tw17834230372310974328:=0
def tw15060164511106574871:=0
def tw16564364703787890552:=0
def tw11341777904487014220:=0
def tw18054981158164180256:=0
def tw10338534780306059003:=0
def tw7068800784647614297:=0
def tw4526892473650991323:=0
def tw15059699830610564110:=0
def tw3341211892430174601:=0
def tw17863032995198319030:=0
def tw5542559342745065434:=0
def tw9287251880248804541:=0
def tw6972564630102402544:=0
def tw2168660211894723186:=0
def tw16744486657319384152:=0
def tw18362455897809435773:=0
def tw3712546158704790182:=0
def tw267643340320184257:=0
def tw15248051571157076195:=0
def tw17979812470040379123:=0
def tw3271220749853042729:=0
def tw11006649851684655046:=0
def tw10720188041225571153:=0
def tw16110228852686213524:=0
def tw10357907081701743207:=0
def tw7156379335208909189:=0
def tw10818969502866974038:=0
def tw11878297868066661547:=0
def tw17535364282966171648:=0
def tw14213298133112303786:=0
def tw15242500594141093255:=0
def tw16947571689381695874:=0
def tw13434758844255021107:=0
def tw13801161217072187535:=0
def tw5408566258906098395:=0
def tw3135835691475920236:=0
def tw7320832728373777502:=0
def tw12849820212041422324:=0
def tw10705828258805411578:=0
def tw14936831713785865272:=0
def tw13750092899449940281:=0
def tw10432748519234338699:=0
def tw14533006385736131671:=0
def tw399731693661480482:=0
def tw10658879393085880160:=0
def tw1663216658347993296:=0
def tw16510316613708826630:=0
def tw9419902884092964087:=0
def tw14818748644675776786:=0
def tw10980945226776985727:=0
def tw11499795691956067873:=0
def tw1451408166128040895:=0
def tw31867165546907865:=0
def tw1719352311732574233:=0
def tw1520512641570728774:=0
def tw1295666348348588216:=0
def tw7124852251986480038:=0
def tw9909105567885165053:=0
def tw9718325303415519096:=0
def tw13659803475810334759:=0
def tw6987794027893277015:=0
def tw636426509363321959:=0
def tw6268635786493303894:=0
def tw1303241342534961344:=0
def tw2930827492119483442:=0
def tw11285894714083317830:=0
def tw4464102061884666809:=0
def tw6308346416662208843:=0
def tw2002624395106219745:=0
def tw4489642820223970870:=0
def tw5763017706697392470:=0
def tw1223830358975578879:=0
def tw16198924220632393245:=0
def tw3949643655696325764:=0
def tw10517905392876834179:=0
def tw3852488718114377257:=0
def tw3160828859394194509:=0
def tw12132179776910405240:=0
def tw14971566334540372340:=0
def tw16046579500609618536:=0
def tw8957076933865926362:=0
def tw7830428275628634787:=0
def tw11678568904617934856:=0
def tw5256115304908780656:=0
def tw1512840075012383596:=0
def tw5636868199129800541:=0
def tw6243556354042942888:=0
def tw18174975304655295782:=0
def tw1395930952757296857:=0
def tw13443599050252025494:=0
def tw13398523465590261596:=0
def tw13473809751871250616:=0
def tw8441634223033617869:=0
def tw6361663719934222203:=0
def tw8291052647011657179:=0
def tw7379195890536736886:=0
def tw10543177567801177428:=0
def tw4633389789891709175:=0
def tw6198878048025392455:=0
def tw4348862635101577325:=0
def tw8500713663826231093:=0
def tw14896268830308925100:=0
def tw18029196719284130065:=0
def tw3888566627183005668:=0
def tw17911942949776795299:=0
def tw6517994053269837700:=0
def tw13620796415421977418:=0
def tw4727249570635630971:=0
def tw929119589070404178:=0
def tw14533252162604622443:=0
def tw1779592946302950317:=0
def tw10213717586677196535:=0
def tw2294166439081281043:=0
def tw1275520636726034292:=0
def tw2515211357952758001:=0
def tw12030519527217178070:=0
def tw4408524464910216652:=0
def tw18123279650956677842:=0
def tw3300121676765213593:=0
def tw8602840893611246867:=0
def tw7180606342574375234:=0
def tw13941887995320290963:=0
def tw4289897382045992806:=0
def tw15418319101409135795:=0
def tw3513739466755988290:=0
def tw13814702575766906567:=0
def tw16406026670701652510:=0
def tw9054812354116748477:=0
def tw2128694154282233907:=0
def tw1233533486926033216:=0
def tw1471738036983691217:=0
def tw12253755455004118838:=0
def tw4795071284515786466:=0
def tw12342146234078440741:=0
def tw3348928598173152431:=0
def tw8045750696738799370:=0
def tw12969772954221216402:=0
def tw13411566920021049972:=0
def tw15027763862584408191:=0
def tw2925050547192892537:=0
def tw14501633325762531568:=0
def tw16670929037207415489:=0
def tw11240052080880558577:=0
def tw13489673098832198447:=0
def tw5067544145905540802:=0
def tw14315129707365052408:=0
def tw17824827125562864802:=0
def tw6899078513152567491:=0
def tw2619129842096455032:=0
def tw1095019522729320207:=0
def tw1504581122140848013:=0
def tw13354985122001955816:=0
def tw4673769599773179691:=0
def tw17046817363777194706:=0
def tw16697424481947357263:=0
def tw12236675257296477651:=0
def tw5914104242878903399:=0
def tw1987390946158541860:=0
def tw2900569726217929464:=0
def tw3290182374082673200:=0
def tw13636230551104008941:=0
def tw14041122614077580330:=0
def tw9894179511468155853:=0
def tw6916448318523518679:=0
def tw15685264785498850900:=0
def tw16556618123725950990:=0
def tw8162064670793669778:=0
def tw4612852064523984540:=0
def tw203839315195935894:=0
def tw11660859472317154753:=0
def tw1443787816051055412:=0
def tw16495306208023385611:=0
def tw7154097860255460164:=0
def tw7296639352412095055:=0
def tw3758203986939935522:=0
def tw4314081897592493526:=0
def tw1805952627555164308:=0
def tw637719508117041767:=0
def tw53519680733595502:=0
def tw1518084494001277762:=0
def tw14655567937265469431:=0
def tw3897816414308661931:=0
def tw5571220959581181188:=0
def tw4067647387374470020:=0
def tw16004116818016680540:=0
def tw7680724624034519465:=0
def tw10482267598366062019:=0
def tw16577336894547560574:=0
def tw8946823197966090244:=0
def tw17413834753486235093:=0
def tw15288960969054768930:=0
def tw12171917989630092162:=0
def tw817691877379256185:=0
def tw7849200581577113213:=0
def tw4370077741372220116:=0
def tw5064246518910595350:=0
def tw7860494940427048288:=0
def tw14184912926652098140:=0
def tw7723580810813955164:=0
def tw5077643436631742826:=0
def tw12611362206062327342:=0
def tw6477927274674707818:=0
def tw10498393263881960011:=0
def tw1196206347549141461:=0
def tw15151019999261489388:=0
def tw14808374604477109917:=0
def tw2663539596516364112:=0
def tw16766763428466034998:=0
def tw14439664444420751273:=0
def tw12524859651987787379:=0
def tw9868372759800260184:=0
def tw904534009216483014:=0
def tw2745598145958744896:=0
def tw7313708104413393887:=0
def tw8191508001576124351:=0
def tw11744769621517607337:=0
def tw14899359579567158138:=0
def tw6167920973485137578:=0
def tw1541894089688927326:=0
def tw273744679929241699:=0
def tw4672608519598184833:=0
def tw13647779743556593693:=0
def tw10783131746693726260:=0
def tw2590448992014841231:=0
def tw10431867241881480729:=0
def tw10163796413726351769:=0
def tw12663815038242314257:=0
def tw11756454583584638553:=0
def tw12030423599665006176:=0
def tw17001662470520243479:=0
def tw12365879029066011782:=0
def tw1582530357681036001:=0
def tw11896334036399925306:=0
def tw6596025098378455352:=0
def tw12455430391269915380:=0
def tw14014761320782706101:=0
def tw6134718600928121495:=0
def tw8039625015504783938:=0
def tw12159789832225317542:=0
def tw8005441985578194542:=0
def tw12367624641395538915:=0
def tw8179906886762109281:=0
def tw80907484403873312:=0
def tw1058531841051272765:=0
def tw14494280303730241030:=0
def tw14137437366683330269:=0
def tw9582757581490718406:=0
def tw2096741514257587529:=0
def tw16209573513017629985:=0
def tw2358286506468355143:=0
def tw11760468372299287338:=0
def tw7689158127918114542:=0
def tw709383105497778382:=0
def tw10788316389439713991:=0
def tw17466850563868635864:=0
def tw10760963516358907614:=0
def tw2099605169262774552:=0
def tw13360180781939049989:=0
def tw11210666064052531026:=0
def tw4489213936523788971:=0
def tw5174294909768816431:=0
def tw12532980490973593303:=0
def tw13143187306387856288:=0
def tw7927411703110610566:=0
def tw10686872110923696323:=0
def tw7937332937477868990:=0
def tw13193055501319483483:=0
def tw11886329169896405414:=0
def tw798853701240067224:=0
def tw10618900578328603926:=0
def tw5417465438379694780:=0
def tw15058826816553515283:=0
def tw13416540047119772205:=0
def tw6451280843728882609:=0
def tw8762749521978162033:=0
def tw5187726761956717265:=0
def tw1459092323300358195:=0
def tw15617571555987791148:=0
def tw4525429718637379617:=0
def tw7033338535458192302:=0
def tw13838161624730283931:=0
def tw1923591281151692883:=0
def tw8533159335562404077:=0
def tw14643018214818365367:=0
def tw5054439085549384309:=0
def tw8804581264567669578:=0
def tw8897626395842134241:=0
def tw9416318611705038178:=0
def tw17339676254121113608:=0
def tw1326116777063112208:=0
def tw608765496629960856:=0
def tw16380978536139566445:=0
def tw2670586583410810107:=0
def tw9930791582445621517:=0
def tw11433499877476686696:=0
def tw10492008145622534368:=0
def tw5054900760207917855:=0
def tw5504773697490644457:=0
def tw18073705648408295886:=0
def tw13991387943570867792:=0
def tw5078447285696700583:=0
def tw2574168929948227264:=0
def tw15337882852980380180:=0
def tw11442788738286798841:=0
def tw14640310688662843298:=0
def tw7463157053841839547:=0
def tw8735479107861210945:=0
def tw14845338140969270683:=0
def tw5525902669992677985:=0
def tw2418424107838259422:=0
def tw15749031794970611124:=0
def tw3079518929568179592:=0
def tw765672162198753906:=0
def tw1228206786585393362:=0
def tw12559035533049785512:=0
def tw16605923267845270519:=0
def tw10153500765053237913:=0
def tw10969058547909621903:=0
def tw1406162621410764770:=0
def tw17573524630463457603:=0
def tw17656908522374031448:=0
def tw12305810590915773346:=0
def tw3951167078088409635:=0
def tw6710631819374933560:=0
def tw13642484961705079514:=0
def tw12153603787805453144:=0
def tw10660594358579728606:=0
def tw15904281451854176877:=0
def tw15371668159345049599:=0
def tw17632488685003149756:=0
def tw4244670668530541409:=0
def tw8297838200215011034:=0
def tw7828422341909151156:=0
def tw7047520810803328856:=0
def tw7769474134524384577:=0
def tw7850070864746900025:=0
def tw15173472890674569991:=0
def tw14091595633915785306:=0
def tw5647511718432675914:=0
def tw11757332701660717238:=0
def tw5098782902859646522:=0
def tw8403392304191256048:=0
def tw3030986738037838838:=0
def tw6936658923760676261:=0
def tw11050367053482906081:=0
def tw10873447183564837708:=0
def tw17954738199718554934:=0
def tw5635456453022095251:=0
def tw79249125878993784:=0
def tw9202291587454165617:=0
def tw6268399562392385028:=0
def tw7225448359654504048:=0
def tw7964040596206607173:=0
def tw6356206107929162606:=0
def tw4757671560057429882:=0
def tw13054695899864602656:=0
def tw13001524335985301356:=0
def tw7862062771284190655:=0
def tw3226150586124419678:=0
def tw17181295946832372664:=0
def tw17686712846749863619:=0
def tw8536140544602318894:=0
def tw2653730540942889943:=0
def tw6906450711301488181:=0
def tw16520238952641708746:=0
def tw5854374483780623212:=0
def tw3769540630100689295:=0
def tw14869736200262990635:=0
def tw17426279587862005420:=0
def tw13164260670488355636:=0
def tw1807501421106216930:=0
def tw10240744336186940789:=0
def tw16912690392033357865:=0
def tw12974967548969037938:=0
def tw1275435662496246360:=0
def tw11724578924475199711:=0
def tw10666582721306952204:=0
def tw3852612581292141243:=0
def tw1791916168724586251:=0
def tw14073057577406252526:=0
def tw16592804119436205586:=0
def tw18046273767795597312:=0
def tw7558153007912117702:=0
def tw6383003581483534237:=0
def tw1859080353767036445:=0
def tw6267998808796108256:=0
def tw9083639415421357176:=0
def tw15710090980314020628:=0
def tw17587413565553093275:=0
def tw10704771111548366865:=0
def tw9277733230714192606:=0
def tw9075388114538916522:=0
def tw18037239683882907090:=0
def tw9564197165782289829:=0
def tw2058900277393593365:=0
def tw1217858758682123920:=0
def tw3084533637152670931:=0
def tw11005408383654321167:=0
def tw8519341016907380030:=0
def tw7775567889121756888:=0
def tw5754381701122937591:=0
def tw7059153495781305307:=0
def tw9157634134996693533:=0
def tw14602809292629699998:=0
def tw9146834188316832481:=0
def tw18066130811907054278:=0
def tw2415113130179994365:=0
def tw13225858547223285226:=0
def tw1065136894522542080:=0
def tw5836722659789613499:=0
def tw13195827411184302936:=0
def tw13601712177043147606:=0
def tw18256831765489849306:=0
def tw16899261518907192004:=0
def tw3285118286766533057:=0
def tw15351072645742636912:=0
def tw3703513080746256701:=0
def tw9398567650497210880:=0
def tw6779494253701350138:=0
def tw6164275304757346961:=0
def tw16563254659297614078:=0
def tw15327458560258663948:=0
def tw16754392095580074606:=0
def tw874278686243060462:=0
def tw16234334991246371598:=0
def tw7946360237342253538:=0
def tw17777280090053104585:=0
def tw15224181747434403266:=0
def tw8624280696465130754:=0
def tw17603463446271887751:=0
def tw17697016777340273189:=0
def tw9292567904991900060:=0
def tw11930784703229950449:=0
def tw8629054990766131274:=0
def tw10737788213005878792:=0
def tw12454008980812784382:=0
def tw17165377514410891312:=0
def tw12995749725842106974:=0
def tw10011682437069199059:=0
def tw2167061718422150603:=0
def tw9980112133968881973:=0
def tw426526750220659180:=0
def tw12364090501736387680:=0
def tw11181540617354027848:=0
def tw3402313643956666288:=0
def tw18341722666080933645:=0
def tw10324536070453561469:=0
def tw8226934868170911601:=0
def tw15152759352357832966:=0
def tw1120515249006486467:=0
def tw2286271075903002677:=0
def tw15370002788946284719:=0
def tw5283322622925631645:=0
def tw17455367723640032676:=0
def tw1555239552670311906:=0
def tw12044083457062106236:=0
def tw6613868530536292111:=0
def tw3151219014607927663:=0
def tw5866279560275196258:=0
def tw13155587898374304457:=0
def tw3327273272363254615:=0
def tw1243495983909555610:=0
def tw1334509125343795046:=0
def tw7388231223153701997:=0
def tw16807238747117019929:=0
def tw18271559539894824145:=0
def tw622966993263823909:=0
def tw5771935489410855727:=0
def tw16335004789013094724:=0
def tw6067685691777977993:=0
def tw17050084484420373893:=0
def tw17652784940918486721:=0
def tw3498387123546167729:=0
def tw8717175131233620184:=0
def tw10743292652553580273:=0
def tw1220911480016130445:=0
def tw14141716774263603816:=0
def tw9777500964706515675:=0
def tw8142267253991715094:=0
def tw14391197480706743985:=0
def tw10550789802927292368:=0
def tw13572250742830014153:=0
def tw12052037652690359686:=0
def tw1491001141427298089:=0
def tw17980255308310544711:=0
def tw12295859471468443527:=0
def tw524961613873776012:=0
def tw18095491369810998884:=0
def tw2598750522184777856:=0
def tw14989758781109111352:=0
def tw259482952369142711:=0
def tw13257516893987157188:=0
def tw9944890669139041178:=0
def tw15190405835483443938:=0
def tw5573582158453007839:=0
def tw11890987461210698790:=0
def tw18010740714245268610:=0
def tw11405542062409379277:=0
def tw12862199238900636575:=0
def tw9277208540388667301:=0
def tw3041059663802860939:=0
def tw4237258179548904051:=0
def tw3440909743644298879:=0
def tw4022374076719995916:=0
def tw8663348058398674253:=0
def tw6722908132179823512:=0
def tw13139280612909965612:=0
def tw15683144304503500739:=0
def tw1832582740303058400:=0
def tw8126734991039707114:=0
def tw11614458786689318005:=0
def tw3311937646430236237:=0
def tw6683315020004953078:=0
def tw12906720806997737088:=0
def tw359942569175171892:=0
def tw16502937500728875103:=0
def tw5169084300912683903:=0
def tw16717320613598816408:=0
def tw15835044528776005857:=0
def tw6559274183725425212:=0
def tw878832593378197669:=0
def tw6091588244030352688:=0
def tw4309591582150612444:=0
def tw16445882979898576507:=0
def tw14382067125471147616:=0
def tw6697406016403306533:=0
def tw2089821735530292013:=0
def tw5836464513877493386:=0
def tw15202443005339056253:=0
def tw13511164532350069496:=0
def tw13593503242168834869:=0
def tw15736341730853160293:=0
def tw13331991784897051451:=0
def tw15051284675360448913:=0
def tw12767892322843214703:=0
def tw1373381587706159639:=0
def tw2654283904059919143:=0
def tw11267455421104819851:=0
def tw4319333314190000030:=0
def tw17105094400970308336:=0
def tw10289330653159394944:=0
def tw6262389095910015245:=0
def tw14431447639347566115:=0
def tw8063367669248511108:=0
def tw6446551730477467565:=0
def tw16953607978602852348:=0
def tw7010324386742510040:=0
def tw13329098906946183117:=0
def tw4348731750922202239:=0
def tw1197777123778518088:=0
def tw10419130727960765532:=0
def tw441693479435521096:=0
def tw2765926123734568741:=0
def tw11437194057482445959:=0
def tw5262031544722401165:=0
def tw18306304911400902205:=0
def tw1317739904728017231:=0
def tw3096409871572867846:=0
def tw6203365375024812519:=0
def tw1623413210698869720:=0
def tw6681846848734071628:=0
def tw13196499693333356108:=0
def tw15459410472116188396:=0
def tw6577700542144081773:=0
def tw9418931840849817709:=0
def tw2646479999612467472:=0
def tw7691536987223447131:=0
def tw2029411414899980664:=0
end PySem.W.Fast
namespace L2
open PySem PySem.Spec PyProof.Rows
abbrev Key:=Sum Int Str
def Kk:Key→Value→Bool
 |.inl k,v=>Value.isInt k v
 |.inr x,v=>Value.isStrOf x v
def keyH(w:World):Key→Int
 |.inl k=>hashInt k
 |.inr x=>hashStr w x
theorem A7:∀{k:Key} {v:Value},Kk k v=true→(∃i t,k=Sum.inl i∧v=Value.int i t)∨(∃x t,k=Sum.inr x∧v=Value.str x t)
 |.inl i,v,h=>by
  obtain⟨t,e⟩:=Value.isInt_shape (k:=i) (v:=v) h;exact .inl ⟨i,t,rfl,e⟩
 |.inr x,v,h=>by
  obtain⟨t,e⟩:=Value.isStrOf_shape (x:=x) (v:=v) h;exact .inr ⟨x,t,rfl,e⟩
theorem Ta(i:Int)(t:Tok):Kk (.inl i) (.int i t)=true:=by simp[Kk,Value.isInt]
theorem S9(x:Str)(t:Tok):Kk (.inr x) (.str x t)=true:=by simp[Kk,Value.isStrOf]
theorem Ady(a b:Int):decide ((Sum.inl a:Key)=Sum.inl b)=(a == b):=by
 by_cases e:a=b
 ·subst e;simp
 ·have h:¬(Sum.inl a:Key)=Sum.inl b:=fun q=>e (Sum.inl.inj q);rw[decide_eq_false h];exact(beq_eq_false_iff_ne.mpr e).symm
theorem Adu(a b:Str):decide ((Sum.inr a:Key)=Sum.inr b)=decide (a=b):=by
 by_cases e:a=b
 ·subst e;simp
 ·have h:¬(Sum.inr a:Key)=Sum.inr b:=fun q=>e (Sum.inr.inj q);rw[decide_eq_false h,decide_eq_false e]
theorem Adx(a:Int)(b:Str):decide ((Sum.inl a:Key)=Sum.inr b)=false:=decide_eq_false (fun q=>nomatch q)
theorem Adv(a:Str)(b:Int):decide ((Sum.inr a:Key)=Sum.inl b)=false:=decide_eq_false (fun q=>nomatch q)

def Ar(prog:Program)(w:World):PySem.KeyKind prog w Key where
 is:=Kk
 hash:=keyH w
 inj:=fun v a b ha hb=>by
  rcases A7 ha with ⟨i,t,rfl,rfl⟩|⟨x,t,rfl,rfl⟩
  ·rcases A7 hb with ⟨j,u,rfl,e⟩|⟨y,u,rfl,e⟩
   ·injection e with e1 _;rw[e1]
   ·exact nomatch e
  ·rcases A7 hb with ⟨j,u,rfl,e⟩|⟨y,u,rfl,e⟩
   ·exact nomatch e
   ·injection e with e1 _;rw[e1]
 byValue:=fun k v h=>by
  rcases A7 h with ⟨i,t,rfl,rfl⟩|⟨x,t,rfl,rfl⟩<;>rfl
 pyHash:=fun hv h=>by
  rcases A7 hv with ⟨i,t,rfl,rfl⟩|⟨x,t,rfl,rfl⟩
  ·exact wpAny_pyHash_int h
  ·exact wpAny_pyHash_str h
 eqBool:=fun hu hv h=>by
  rcases A7 hu with ⟨i,t,rfl,rfl⟩|⟨x,t,rfl,rfl⟩
  ·rcases A7 hv with ⟨j,u,rfl,rfl⟩|⟨y,u,rfl,rfl⟩
   ·rw[Ady] at h;exact wpAny_eqBool_int h
   ·rw[Adx] at h;exact SeqAt.EqAt.int_str i t y u _ _ _ _ h
  ·rcases A7 hv with ⟨j,u,rfl,rfl⟩|⟨y,u,rfl,rfl⟩
   ·rw[Adv] at h;exact SeqAt.EqAt.str_int x t j u _ _ _ _ h
   ·rw[Adu] at h;exact wpAny_eqBool_str h
 «strs»:=fun k x t v h=>by
  rcases A7 h with ⟨i,u,rfl,e⟩|⟨y,u,rfl,e⟩
  ·exact nomatch e
  ·injection e with e1 _;subst e1;cases v<;>rfl

theorem Om(prog:Program)(w:World)(i:Int)(t:Tok):(Ar prog w).is (.inl i) (.int i t)=true:=Ta i t
theorem Ol(prog:Program)(w:World)(x:Str)(t:Tok):(Ar prog w).is (.inr x) (.str x t)=true:=S9 x t
end L2
namespace L2
open PySem PySem.Spec PyProof.Rows
inductive V where
 |non|bl (b:Bool)|int (i:Int)|str (x:Str)|byt (b:Array UInt8)|flt (b:UInt64)|ref (a:Addr)|ty (n:String)
 deriving DecidableEq

def RelV:V→Value→Prop
 |.non,u=>u=Value.none
 |.bl b,u=>u=Value.bool b
 |.int i,u=>∃t,u=Value.int i t
 |.str x,u=>∃t,u=Value.str x t
 |.byt b,u=>∃t,u=Value.bytes b t
 |.flt b,u=>∃t,u=Value.float b t
 |.ref a,u=>u=Value.ref a
 |.ty n,u=>u=Value.type n

abbrev Vals:List V→List Value→Prop:=Paired RelV
theorem Vals.length{xs:List V}{us:List Value}(r:Vals xs us):xs.length=us.length:=Paired.length r
theorem Vals.get:∀{xs:List V} {us:List Value} {i:Nat} {x:V},Vals xs us→xs[i]? = some x→∃u,us[i]? = some u∧RelV x u
 |_,_,_,_,.nil,e=>by simp at e
 |_,_,0,_,.cons r _,e=>by simp at e;subst e;exact⟨_,rfl,r⟩
 |_,_,i+1,x,.cons _ t,e=>by
  obtain⟨u,h1,h2⟩:=Vals.get (i:=i) (x:=x) t (by simpa using e)
  exact⟨u,by simpa using h1,h2⟩
theorem Vals.set{x:V}{u:Value}(r:RelV x u):∀{xs:List V} {us:List Value} (i:Nat),Vals xs us→Vals (xs.set i x) (us.set i u)
 |_,_,_,.nil=>.nil
 |_,_,0,.cons _ t=>.cons r t
 |_,_,i+1,.cons q t=>.cons q (Vals.set r i t)
theorem Vals.append:∀{xs ys:List V} {us ws:List Value},Vals xs us→Vals ys ws→Vals (xs++ys) (us++ws)
 |_,_,_,_,.nil,s=>s
 |_,_,_,_,.cons r t,s=>.cons r (Vals.append t s)
theorem Vals.take:∀{xs:List V} {us:List Value} (n:Nat),Vals xs us→Vals (xs.take n) (us.take n)
 |_,_,0,_=>.nil
 |_,_,_+1,.nil=>.nil
 |_,_,n+1,.cons r t=>.cons r (Vals.take n t)
theorem Vals.drop:∀{xs:List V} {us:List Value} (n:Nat),Vals xs us→Vals (xs.drop n) (us.drop n)
 |_,_,0,r=>r
 |_,_,_+1,.nil=>.nil
 |_,_,n+1,.cons _ t=>Vals.drop n t
def RelO:Option V→Option Value→Prop
 |some v,some u=>RelV v u
 |none,none=>True
 |_,_=>False
def KV{κ:Type}:List (κ×V)→List (κ×Value)→Prop:=Paired fun(p:κ×V) (q:κ×Value)=>p.1=q.1∧RelV p.2 q.2

def kV:Key→V
 |.inl i=>.int i
 |.inr x=>.str x

inductive HO where
 /-- a list -/
 |lst (xs:List V)
 /-- a tuple (never changes) -/
 |tup (xs:List V)
 /-- a dict whose keys are ints and texts;one whose keys are tuples of ints and texts (the empty one is both) -/
 |dK (kvs:List (Key×V))|dT (kvs:List (List Key×V))
 /-- a set of ints: its members,its size -/
 |set (S:Int→Bool) (n:Nat)
 /-- an instance of the class at C,its dict at dx,its attributes -/
 |ins (C dx:Addr) (fs:List (Str×V))
 /-- the dict of the instance at x -/
 |own (x:Addr)
 /-- the dict of an exception -/
 |xd (fs:List (Str×V))
 /-- a bound method,f of x -/
 |met (f x:Addr)
 /-- a range object lo,lo+1,.. below hi -/
 |rng (lo hi:Int)
 /-- a thing that is known to the object (the script;a dict while a loop walks it): read,never written while it is so -/
 |frz (o:Obj) (u:HO)
 /-- a code object's table -/
 |tbl (ps:Array Value)
 /-- any other thing,by what is true of its one object (a def of one's own: SetO a S n:=HO.ext fun h=>..) -/
 |ext (φ:Heap→Prop)

abbrev Hp:=Addr→Option HO
def upd(H:Hp)(a:Addr)(o:HO):Hp:=fun b=>if b=a then some o else H b
theorem Ae{H:Hp}{a:Addr}{o:HO}:upd H a o a=some o:=by unfold upd;rw[if_pos rfl]
theorem Ac{H:Hp}{a b:Addr}{o:HO}(h:b≠a):upd H a o b=H b:=by unfold upd;rw[if_neg h]
theorem Ds{H:Hp}{a b:Addr}{o u:HO}(h:H a=some o)(h':H b=some u)(d:o≠u):a≠b:=by
 intro e;subst e;rw[h] at h';exact d (Option.some.inj h')
theorem Ak{H:Hp}{a b:Addr}{o:HO}(h:H a=some o)(h':H b=none):a≠b:=by
 intro e;subst e;rw[h] at h';cases h'

section
variable(P:Program)(w:World)
def ObjOk(H:Hp)(h:Heap)(a:Addr):HO→Prop
 |.lst xs=>xs.length≤sizeLine∧∃(its:List Value) (n:Nat),Vals xs its∧h.get? a=some { cls:=.type "list",data:=.seq its.toArray n }
 |.tup xs=>xs.length≤sizeLine∧∃its:List Value,Vals xs its∧IsTup h a its.toArray
 |.dK kvs=>kvs.length≤sizeLine∧(a == sysModules)=false∧∃vs,KV kvs vs∧h.DictOf (Ar P w) a vs
 |.dT kvs=>kvs.length≤sizeLine∧(a == sysModules)=false∧∃xs:List (List Key×Addr×Value),
   Paired (fun(p:List Key×V) (q:List Key×Addr×Value)=>p.1=q.1∧H q.2.1=some (.tup (p.1.map kV))∧RelV p.2 q.2.2) kvs xs∧
   ∃o es ep,h.get? a=some o∧o.ExactDict∧o.data=.dict es ep∧es.toList=xs.map (entryOfKey (tupleKind (Ar P w)))∧(xs.map (·.1)).Nodup
 |.set S n=>h.SetOf (intKind P w) a S n
 |.ins C dx fs=>H dx=some (.own a)∧fs.length≤1000∧dx≠a∧h.get? a=some (W.instObj C dx)∧
   ∃mA,h.Ns1 dx mA∧(∀f,RelO (fs.lookup f) (mA f))∧PySem.Within mA (fs.map (·.1))
 |.own _=>∃o,h.get? a=some o
 |.xd fs=>∃mA,h.Ns1 a mA∧∀f,RelO (fs.lookup f) (mA f)
 |.rng lo hi=>∃t u v,h.get? a=some { cls:=.type "range",data:=.fields #[.int lo t,.int hi u,.int 1 v] }
 |.frz o u=>h.get? a=some o∧ObjOk H h a u
 |.tbl ps=>h.get? a=some { cls:=.none,data:=.fields ps }
 |.met f x=>h.get? a=some (W.methodObj (.ref f) (.ref x))
 |.ext φ=>φ h∧(∃o,h.get? a=some o)∧∀h1 h2:Heap,φ h1→(∀o,h1.get? a=some o→h2.get? a=some o)→φ h2
def HOk(H:Hp)(h:Heap):Prop:=∀a o,H a=some o→ObjOk P w H h a o
end
section
variable{P:Program}{w:World}{H H':Hp}{h h':Heap}{a:Addr}{o:HO}
theorem ObjOk.lt(x:ObjOk P w H h a o):a<h.objs.size:=by
 cases o with
 |lst xs=>obtain⟨_,_,_,_,e⟩:=x;exact Heap.lt_size e
 |tup xs=>obtain⟨_,_,_,p⟩:=x;exact p.lt
 |dK kvs=>obtain⟨_,_,_,_,o,_,_,e,_⟩:=x;exact Heap.lt_size e
 |dT kvs=>obtain⟨_,_,_,_,o,_,_,e,_⟩:=x;exact Heap.lt_size e
 |set S n=>obtain⟨o,_,_,_,e,_⟩:=x;exact Heap.lt_size e
 |ins C dx fs=>obtain⟨_,_,_,e,_⟩:=x;exact Heap.lt_size e
 |own y=>obtain⟨_,e⟩:=x;exact Heap.lt_size e
 |xd fs=>obtain⟨_,⟨_,_,_,e,_⟩,_⟩:=x;exact Heap.lt_size e
 |rng lo hi=>obtain⟨_,_,_,e⟩:=x;exact Heap.lt_size e
 |frz ob u=>obtain⟨e,_⟩:=x;exact Heap.lt_size e
 |tbl ps=>exact Heap.lt_size (show h.get? a=some _ from x)
 |met f y=>exact Heap.lt_size (show h.get? a=some _ from x)
 |ext φ=>obtain⟨_,⟨_,e⟩,_⟩:=x;exact Heap.lt_size e
theorem Paired.mapP{α β:Type}{F G:α→β→Prop}:∀{l₁:List α} {l₂:List β},Paired F l₁ l₂→(∀a b,F a b→G a b)→Paired G l₁ l₂
 |_,_,.nil,_=>.nil
 |_,_,.cons r t,f=>.cons (f _ _ r) (Paired.mapP t f)
theorem ObjOk.stay(x:ObjOk P w H h a o)(k:∀b u,(b=a∨H b=some (.own a))→h.get? b=some u→h'.get? b=some u)(ho:∀b,H b=some (.own a)→H' b=some (.own a))(ht:∀b xs,H b=some (.tup xs)→H' b=some (.tup xs)):ObjOk P w H' h' a o:=by
 induction o with
 |lst xs=>obtain⟨z,its,n,r,e⟩:=x;exact⟨z,its,n,r,k _ _ (.inl rfl) e⟩
 |tup xs=>obtain⟨z,its,r,ob,e,c⟩:=x;exact⟨z,its,r,ob,k _ _ (.inl rfl) e,c⟩
 |dK kvs=>obtain⟨z,y,vs,r,ob,es,ep,e,c⟩:=x;exact⟨z,y,vs,r,ob,es,ep,k _ _ (.inl rfl) e,c⟩
 |dT kvs=>
  obtain⟨z,y,xs,r,ob,es,ep,e,c⟩:=x;exact⟨z,y,xs,Paired.mapP r fun p q z=>⟨z.1,ht _ _ z.2.1,z.2.2⟩,ob,es,ep,k _ _ (.inl rfl) e,c⟩
 |set S n=>obtain⟨ob,es,ep,t,e,c⟩:=x;exact⟨ob,es,ep,t,k _ _ (.inl rfl) e,c⟩
 |ins C dx fs=>
  obtain⟨d,z,ne,e,mA,⟨od,es,ep,e2,c⟩,r⟩:=x;exact⟨ho _ d,z,ne,k _ _ (.inl rfl) e,mA,⟨od,es,ep,k _ _ (.inr d) e2,c⟩,r⟩
 |own y=>obtain⟨ob,e⟩:=x;exact⟨ob,k _ _ (.inl rfl) e⟩
 |xd fs=>obtain⟨mA,⟨od,es,ep,e,c⟩,r⟩:=x;exact⟨mA,⟨od,es,ep,k _ _ (.inl rfl) e,c⟩,r⟩
 |rng lo hi=>obtain⟨t,u,v,e⟩:=x;exact⟨t,u,v,k _ _ (.inl rfl) e⟩
 |frz ob u ih=>obtain⟨e,q⟩:=x;exact⟨k _ _ (.inl rfl) e,ih q⟩
 |tbl ps=>
  have e:h.get? a=some { cls:=.none,data:=.fields ps }:=x;show h'.get? a=some { cls:=.none,data:=.fields ps };exact k a _ (.inl rfl) e
 |met f y=>
  have e:h.get? a=some (W.methodObj (.ref f) (.ref y)):=x;show h'.get? a=some (W.methodObj (.ref f) (.ref y));exact k a _ (.inl rfl) e
 |ext φ=>obtain⟨p,⟨o,e⟩,st⟩:=x;exact⟨st _ _ p fun o q=>k _ _ (.inl rfl) q,⟨o,k _ _ (.inl rfl) e⟩,st⟩
theorem HOk.lt(x:HOk P w H h)(e:H a=some o):a<h.objs.size:=(x a o e).lt
theorem HOk.fresh(x:HOk P w H h)(e:h.objs.size≤a):H a=none:=by
 cases q:H a with
 |none=>rfl
 |some u=>exact absurd (Nat.lt_of_lt_of_le (x.lt q) e) (Nat.lt_irrefl _)
theorem HOk.kept(x:HOk P w H h)(k:∀b u,h.get? b=some u→h'.get? b=some u):HOk P w H h':=fun a o e=>
 (x a o e).stay (fun b u _ q=>k b u q) (fun _ q=>q) fun _ _ q=>q
theorem HOk.laid(x:HOk P w H h)(k:∀b u,h.get? b=some u→h'.get? b=some u)(hp:h.objs.size≤a)(new:ObjOk P w (upd H a o) h' a o):HOk P w (upd H a o) h':=fun b u e=>by
 have hn:=x.fresh hp
 by_cases hb:b=a
 ·subst hb;rw[Ae] at e;cases e;exact new
 ·rw[Ac hb] at e;exact(x b u e).stay (fun c v _ q=>k c v q) (fun c q=>by rw[Ac (Ak q hn)];exact q) fun c xs q=>by rw[Ac (Ak q hn)];exact q
end
def Rd(H:Hp)(a:Addr)(u:HO):Prop:=H a=some u∨∃o,H a=some (.frz o u)
theorem Rd.ok{P:Program}{w:World}{H:Hp}{h:Heap}{a:Addr}{u:HO}(r:Rd H a u)(x:HOk P w H h):ObjOk P w H h a u:=by
 rcases r with r|⟨o,r⟩
 ·exact x a u r
 ·obtain⟨_,q⟩:=x a _ r;exact q
def Mut:Option HO→Prop
 |some (.lst _)=>True
 |some (.dK _)=>True
 |some (.dT _)=>True
 |some (.set _ _)=>True
 |some (.ins _ _ _)=>True
 |some (.ext _)=>True
 |_=>False
section
variable{P:Program}{w:World}{H:Hp}{h h':Heap}{x e:Addr}{o':HO}
theorem HOk.write(ok:HOk P w H h)(mu:Mut (H x))(he:e=x∨H e=some (.own x))(k:∀b u,b≠e→h.get? b=some u→h'.get? b=some u)(heo:∃u,h'.get? e=some u)(new:ObjOk P w (upd H x o') h' x o'):HOk P w (upd H x o') h':=fun b u q=>by
 have nown:∀c y,H c=some (.own y)→c≠x:=fun c y r z=>by subst z;rw[r] at mu;exact mu
 have ntup:∀c xs,H c=some (.tup xs)→c≠x:=fun c xs r z=>by subst z;rw[r] at mu;exact mu
 by_cases hb:b=x
 ·subst hb;rw[Ae] at q;cases q;exact new
 ·rw[Ac hb] at q
  by_cases hbe:b=e
  ·have q':H b=some (.own x):=by
    rcases he with z|z
    ·exact absurd (hbe.trans z) hb
    ·rw[hbe];exact z
   rw[q] at q';cases q';obtain⟨v,hv⟩:=heo;exact⟨v,by rw[hbe];exact hv⟩
  ·refine(ok b u q).stay (fun c v hc r=>k c v ?_ r) (fun c r=>by rw[Ac (nown c b r)];exact r) fun c xs r=>by rw[Ac (ntup c xs r)];exact r
   rcases hc with rfl|hc
   ·exact hbe
   ·rintro rfl;rcases he with z|z
    ·exact nown c b hc z
    ·rw[hc] at z;cases z;exact hb rfl
end
structure Un(fs ex:List Addr)(H H':Hp)(h h':Heap):Prop where
 keep:∀b o,h.get? b=some o→H b=none→b ∉ fs→b ∉ ex→h'.get? b=some o
 slot:∀b o,h.get? b=some o→H b=none→b∈fs→b ∉ ex→∃sl,h'.get? b=some { o with slots:=sl }
 free:∀b o,h.get? b=some o→H b=none→b ∉ ex→H' b=none
 there:∀b o,h.get? b=some o→b ∉ ex→∃o',h'.get? b=some o'
 tups:∀b xs,H b=some (.tup xs)→H' b=some (.tup xs)
 frzs:∀b o u,H b=some (.frz o u)→H' b=some (.frz o u)
 tbls:∀b ps,H b=some (.tbl ps)→∃more,H' b=some (.tbl (ps++more))
section
variable{fs fs' ex ex':List Addr}{H H1 H2:Hp}{h h1 h2 h':Heap}{a x e:Addr}{o:HO}
theorem Un.any(u:Un fs ex H H1 h h1){b:Addr}{ob:Obj}(q:h.get? b=some ob)(n:H b=none)(hx:b ∉ ex):∃sl,h1.get? b=some { ob with slots:=sl }:=by
 by_cases hb:b∈fs
 ·exact u.slot b ob q n hb hx
 ·exact⟨ob.slots,u.keep b ob q n hb hx⟩
theorem Un.trans(a:Un fs ex H H1 h h1)(b:Un fs ex H1 H2 h1 h2):Un fs ex H H2 h h2 where
 keep:=fun c ob q n hc hx=>b.keep c ob (a.keep c ob q n hc hx) (a.free c ob q n hx) hc hx
 slot:=fun c ob q n hc hx=>by
  obtain⟨sl,e1⟩:=a.slot c ob q n hc hx;obtain⟨sl',e2⟩:=b.slot c _ e1 (a.free c ob q n hx) hc hx;exact⟨sl',e2⟩
 free:=fun c ob q n hx=>by
  obtain⟨o',e1⟩:=a.there c ob q hx;exact b.free c o' e1 (a.free c ob q n hx) hx
 there:=fun c ob q hx=>by
  obtain⟨o',e1⟩:=a.there c ob q hx;exact b.there c o' e1 hx
 tups:=fun c xs q=>b.tups c xs (a.tups c xs q)
 frzs:=fun c ob xs q=>b.frzs c ob xs (a.frzs c ob xs q)
 tbls:=fun c ps q=>by
  obtain⟨m1,e1⟩:=a.tbls c ps q;obtain⟨m2,e2⟩:=b.tbls c _ e1;exact⟨m1++m2,by rw[e2,Array.append_assoc]⟩
theorem Un.kept(k:∀b u,h.get? b=some u→h'.get? b=some u):Un fs ex H H h h':=
 ⟨fun b ob q _ _ _=>k b ob q,fun b ob q _ _ _=>⟨ob.slots,k b ob q⟩,fun _ _ _ n _=>n,fun b ob q _=>⟨ob,k b ob q⟩,fun _ _ q=>q,fun _ _ _ q=>q,fun _ ps q=>⟨#[],by rw[q];simp⟩⟩
theorem Un.refl:Un fs ex H H h h:=Un.kept fun _ _ q=>q
theorem Un.laid(k:∀b u,h.get? b=some u→h'.get? b=some u)(hp:h.objs.size≤a)(hn:H a=none):Un fs ex H (upd H a o) h h' where
 keep:=fun b u q _ _ _=>k b u q
 slot:=fun b u q _ _ _=>⟨u.slots,k b u q⟩
 free:=fun b u q n _=>by rw[Ac (Nat.ne_of_lt (Nat.lt_of_lt_of_le (Heap.lt_size q) hp))];exact n
 there:=fun b u q _=>⟨u,k b u q⟩
 tups:=fun b xs q=>by rw[Ac (Ak q hn)];exact q
 frzs:=fun b u xs q=>by rw[Ac (Ak q hn)];exact q
 tbls:=fun b ps q=>⟨#[],by rw[Ac (Ak q hn),q];simp⟩
theorem Un.write(mu:Mut (H x))(he:e=x∨H e=some (.own x))(k:∀b u,b≠e→h.get? b=some u→h'.get? b=some u)(heo:∃u,h'.get? e=some u):Un fs ex H (upd H x o) h h':=by
 have hx:∀b,H b=none→b≠x:=fun b n z=>by subst z;rw[n] at mu;exact mu
 have hb:∀b,H b=none→b≠e:=fun b n z=>by
  subst z;rcases he with r|r
  ·exact hx b n r
  ·rw[n] at r;cases r
 have hm:∀b u,H b=some u→¬Mut (some u)→b≠x:=fun b u q nm z=>by subst z;rw[q] at mu;exact nm mu
 refine⟨fun b u q n _ _=>k b u (hb b n) q,fun b u q n _ _=>⟨u.slots,k b u (hb b n) q⟩,fun b u q n _=>by rw[Ac (hx b n)];exact n,fun b u q _=>?_,
  fun b xs q=>by rw[Ac (hm b _ q fun z=>z)];exact q,fun b u xs q=>by rw[Ac (hm b _ q fun z=>z)];exact q,fun b ps q=>⟨#[],by rw[Ac (hm b _ q fun z=>z),q];simp⟩⟩
 by_cases hbe:b=e
 ·subst hbe;exact heo
 ·exact⟨u,k b u hbe q⟩
end
def trk(h:Heap)(H:Hp):List Addr:=(List.range h.objs.size).filter fun a=>(H a).isSome
def Lc(h:Heap)(H:Hp):Heap:=W.hideAll h (trk h H)
theorem Te(h:Heap)(H:Hp):(Lc h H).objs.size=h.objs.size:=W.hideAll_size _ _
theorem Xf{h:Heap}{H:Hp}{b:Addr}{o:Obj}(e:h.get? b=some o)(n:H b=none):(Lc h H).get? b=some o:=
 W.hideAll_get _ e fun hm=>by
  have q:(H b).isSome=true:=(List.mem_filter.mp hm).2;rw[n] at q;simp at q
theorem Zm{h:Heap}{H:Hp}{b:Addr}{o:Obj}(e:(Lc h H).get? b=some o):h.get? b=some o∧H b=none:=by
 have e':h.get? b=some o:=W.of_hideAll (trk h H) e;refine⟨e',?_⟩;cases q:H b with
 |none=>rfl
 |some x=>
  have hm:b∈trk h H:=List.mem_filter.mpr ⟨List.mem_range.mpr (Heap.lt_size e'),by simp[q]⟩
  have z:(Lc h H).get? b=none:=W.hideAll_none (trk h H) hm;rw[z] at e;cases e

def Aae(g h:Heap)(L:Addr):List (Addr×Obj):=(List.range h.objs.size).filterMap fun a=>if a=L∨(g.get? a).isSome=true then none else (h.get? a).map fun o=>(a,o)
def rest(g h:Heap)(L d:Addr):List (Addr×Obj):=(Aae g h L).filter fun p=>decide (p.1≠d)
end L2
namespace L2
open PySem PySem.Spec PyProof.Rows
structure Mod(K:W.Frag)(mg:Str→Option Value)(base:Heap):Prop where
 kin:K.In base
 glob:base.Ns mainGlobals mg
 sm:∃mm,base.Ns sysModules mm
 bm:∃bm ob,mg "__builtins__" = some (.ref bm)∧bm≠builtinsNs∧base.get? bm=some ob∧ob.cls=.type "module"∧ob.dict=some builtinsNs∧ob.data=.plain
 blt:∃mb,base.Ns builtinsNs mb∧∀x:Str,x≠"__name__"→mb x=bootBuiltins x
 nolimit:base.NoLimit

structure Cx where
 prog:Program
 w:World
 K:W.Frag
 mg:Str→Option Value
 base:Heap
 A:Around
 N:List Str
 s₀:Shared
 H₀:Hp
 env:Env
 outer:List Env
 stack:List Env
 ex:List Addr
 fn:Str→Bool
 calm:Bool
 pn:List (Addr×Obj)
 xe:Value→Shared→Prop
def frs(l:List Env):List Addr:=l.filterMap (·.frame)
abbrev Cx.fs(X:Cx):List Addr:=frs X.outer

def Vis(sc:Scope)(x:Str):Prop:=sc.names.lookup x=some .local∨sc.names.lookup x=some .cell∨sc.names.lookup x=some .free
def Loc(sc:Scope)(x:Str):Prop:=sc.names.lookup x=some .local∨sc.names.lookup x=some .cell
def Look(env:Env)(h:Heap)(m:Str→Option Value)(x:Str)(u:Value):Prop:=
 (env.kindOf x=some .local∧m x=some u)∨((env.kindOf x=some .cell∨env.kindOf x=some .free)∧∃c,env.cells.lookup x=some c∧h.IsCell c (some u))

structure Cx.Ok(X:Cx):Prop where
 mod:Mod X.K X.mg X.base
 kind:X.env.scope.kind=.function
 glob:X.env.globals=mainGlobals
 blt:X.env.builtins=builtinsNs
 above:X.s₀.heap.objs.size≤X.env.locals
 inj:∀x y c,X.env.cells.lookup x=some c→X.env.cells.lookup y=some c→x=y
 has:∀x,(X.env.kindOf x=some .cell∨X.env.kindOf x=some .free)→∃c,X.env.cells.lookup x=some c
 cab:∀x c,X.fn x=true→X.env.cells.lookup x=some c→X.s₀.heap.objs.size≤c
 hd:X.calm=true→X.A.handled=none
 frames:X.A.frames=some X.stack
 stk:X.stack=X.outer∨(X.stack=X.env::X.outer∧X.env.frame=some X.env.locals)
 exf:∀b∈X.ex,b≠X.env.locals∧∀x c,X.env.cells.lookup x=some c→c≠b
 bs:∀b o,X.base.get? b=some o→X.s₀.heap.get? b=some o∧X.H₀ b=none
 bsz:X.base.objs.size≤X.s₀.heap.objs.size
 noex:∀b o,X.base.get? b=some o→b ∉ X.ex
 exfs:∀b∈X.ex,b ∉ X.fs
 funs:X.s₀.heap.FunFrames X.base X.outer
 frf:∀b∈X.fs,X.H₀ b=none

structure Inv(X:Cx)(pins:List (Addr×Obj))(σ:List (Option V))(H:Hp)(s:Shared):Prop where
 ok:X.Ok
 os:s.os=X.s₀.os
 bare:AllBare s.gens
 base:Un X.fs X.ex X.H₀ H X.s₀.heap s.heap
 loc:∃m,s.heap.Ns X.env.locals m∧∀(i:Nat) (x:Str) (v:V),X.N[i]? = some x→σ[i]? = some (some v)→Vis X.env.scope x→∃u,RelV v u∧Look X.env s.heap m x u
 cell:∀x c,X.env.cells.lookup x=some c→∃v,s.heap.IsCell c v
 free:H X.env.locals=none
 freeC:∀x c,X.env.cells.lookup x=some c→H c=none
 pin:∀p∈X.pn++pins,s.heap.get? p.1=some p.2∧H p.1=none∧p.1≠X.env.locals∧p.1 ∉ X.fs∧∀v,p.2.data≠.cell v
 hok:HOk X.prog X.w H s.heap
 len:σ.length=X.N.length

section
variable{X:Cx}{pins:List (Addr×Obj)}{σ:List (Option V)}{H H':Hp}{s:Shared}{h':Heap}
theorem Cx.Ok.nofr(ok:X.Ok){b:Addr}{o:Obj}(e:X.base.get? b=some o):b ∉ X.fs:=fun hb=>by
 have:=(ok.funs.mem hb).1
 rw[e] at this;cases this
theorem Inv.bs(I:Inv X pins σ H s):∀b o,X.base.get? b=some o→s.heap.get? b=some o∧H b=none:=fun b o e=>
 ⟨I.base.keep b o (I.ok.bs b o e).1 (I.ok.bs b o e).2 (I.ok.nofr e) (I.ok.noex b o e),I.base.free b o (I.ok.bs b o e).1 (I.ok.bs b o e).2 (I.ok.noex b o e)⟩
theorem Inv.bk(I:Inv X pins σ H s):∀b o,X.base.get? b=some o→s.heap.get? b=some o:=fun b o e=>(I.bs b o e).1
theorem Inv.mod(I:Inv X pins σ H s):Mod X.K X.mg X.base:=I.ok.mod
theorem Inv.kIn(I:Inv X pins σ H s):X.K.In s.heap:=I.ok.mod.kin.keeps I.bk
theorem Inv.fr(I:Inv X pins σ H s):∃m,Fr X.base X.env.locals s.heap m:=
 let ⟨m,hn,_⟩:=I.loc
 ⟨m,hn,I.bk,Nat.le_trans I.ok.bsz I.ok.above⟩
theorem Inv.lt(I:Inv X pins σ H s):X.env.locals<s.heap.objs.size:=let ⟨_,hn,_⟩:=I.loc;hn.lt
theorem Inv.sz(I:Inv X pins σ H s):X.s₀.heap.objs.size≤s.heap.objs.size:=Nat.le_trans I.ok.above (Nat.le_of_lt I.lt)
theorem Inv.nofs(I:Inv X pins σ H s){a:Addr}(h:s.heap.objs.size≤a):a ∉ X.fs:=fun hb=>by
 obtain⟨_,o,ho,_⟩:=I.ok.funs.mem hb;exact absurd (Nat.lt_of_lt_of_le (Heap.lt_size ho) (Nat.le_trans I.sz h)) (Nat.lt_irrefl _)
theorem Inv.cne(I:Inv X pins σ H s):∀x c,X.env.cells.lookup x=some c→c≠X.env.locals:=fun x c e z=>by
 obtain⟨v,o,ho,hd⟩:=I.cell x c e;obtain⟨m,⟨o',es,ep,ho',hd',_⟩,_⟩:=I.loc;rw[z,ho'] at ho;cases ho;rw[hd'] at hd;cases hd
theorem Inv.funs(I:Inv X pins σ H s):s.heap.FunFrames X.base X.outer:=by
 have all:∀(l:List Env),(∀b∈frs l,b∈X.fs)→X.s₀.heap.FunFrames X.base l→s.heap.FunFrames X.base l:=by
  intro l
  induction l with
  |nil=>intro _ _;trivial
  |cons env r ih=>
   intro hs hl;obtain⟨hk,⟨L,o,hf,hn,ho,hd⟩,hr⟩:=hl;have hL:L∈X.fs:=hs L (by unfold frs;rw[List.filterMap_cons,hf];exact List.mem_cons_self)
   obtain⟨sl,e⟩:=I.base.slot L o ho (I.ok.frf L hL) hL fun z=>I.ok.exfs L z hL;exact⟨hk,⟨L,_,hf,hn,e,hd⟩,ih (fun b hb=>hs b (by unfold frs;rw[List.filterMap_cons,hf];exact List.mem_cons_of_mem _ hb)) hr⟩
 exact all X.outer (fun _ hb=>hb) I.ok.funs

theorem Inv.stack(I:Inv X pins σ H s):s.heap.FunFrames X.base X.stack:=by
 rcases I.ok.stk with e|⟨e,hf⟩
 ·rw[e];exact I.funs
 ·rw[e];obtain⟨m,hn,_⟩:=I.loc;refine .cons (by rw[I.ok.kind];decide) hf hn ?_ I.funs
  exact Heap.get?_none_of_le (Nat.le_trans I.ok.bsz I.ok.above)
theorem Inv.stkSub(I:Inv X pins σ H s):∀b∈frs X.stack,b∈X.env.locals::X.fs:=fun b hb=>by
 rcases I.ok.stk with e|⟨e,hf⟩
 ·rw[e] at hb;exact List.mem_cons_of_mem _ hb
 ·rw[e] at hb;unfold frs at hb;rw[List.filterMap_cons,hf] at hb;exact hb
theorem Inv.stkFree(I:Inv X pins σ H s):∀b∈frs X.stack,H b=none:=fun b hb=>by
 rcases List.mem_cons.mp (I.stkSub b hb) with e|hb
 ·rw[e];exact I.free
 ·obtain⟨_,o,ho,_⟩:=I.ok.funs.mem hb;exact I.base.free b o ho (I.ok.frf b hb) fun z=>I.ok.exfs b z hb

theorem Inv.step{g':Array GenState}{t':Nat}{d':Drawn}{ch:List Addr}(I:Inv X pins σ H s)(hch:∀b∈ch,(b∈X.ex∨X.s₀.heap.objs.size≤b)∧b≠X.env.locals∧(∀x c,X.env.cells.lookup x=some c→c≠b)∧∀p∈X.pn++pins,p.1≠b)(keep:∀b o,b≠X.env.locals→b ∉ X.fs→b ∉ ch→s.heap.get? b=some o→H b=none→h'.get? b=some o)(slot:∀b o,b≠X.env.locals→b∈X.fs→b ∉ ch→s.heap.get? b=some o→H b=none→∃sl,h'.get? b=some { o with slots:=sl })(free:∀b o,b ∉ ch→s.heap.get? b=some o→H b=none→H' b=none)(there:∀b o,b ∉ ch→s.heap.get? b=some o→∃o',h'.get? b=some o')(tups:∀b xs,H b=some (.tup xs)→H' b=some (.tup xs))(frzs:∀b o u,H b=some (.frz o u)→H' b=some (.frz o u))(tbls:∀b ps,H b=some (.tbl ps)→∃more,H' b=some (.tbl (ps++more)))(ns:∀m,s.heap.Ns X.env.locals m→h'.Ns X.env.locals m)(hok:HOk X.prog X.w H' h')(hg:AllBare g') :
  Inv X pins σ H' { s with heap:=h',gens:=g',drawn:=d',toks:=t' }:=by
 have neL:∀b o,X.s₀.heap.get? b=some o→b≠X.env.locals:=fun b o e=>Nat.ne_of_lt (Nat.lt_of_lt_of_le (Heap.lt_size e) I.ok.above);have neC:∀b o,X.s₀.heap.get? b=some o→b ∉ X.ex→b ∉ ch:=fun b o e hx hb=>by
  rcases(hch b hb).1 with z|z
  ·exact hx z
  ·exact absurd (Nat.lt_of_lt_of_le (Heap.lt_size e) z) (Nat.lt_irrefl _)
 have Ur:∀x c,X.env.cells.lookup x=some c→∀v,s.heap.IsCell c v→h'.IsCell c v:=fun x c e v zz=>by
  obtain⟨o,ho,hd⟩:=zz;have nch:c ∉ ch:=fun z=>(hch c z).2.2.1 x c e rfl
  by_cases hc:c∈X.fs
  ·obtain⟨sl,q⟩:=slot c o (I.cne x c e) hc nch ho (I.freeC x c e);exact⟨_,q,hd⟩
  ·exact⟨o,keep c o (I.cne x c e) hc nch ho (I.freeC x c e),hd⟩
 refine⟨I.ok,I.os,hg,⟨fun b o e n hb hx=>?_,fun b o e n hb hx=>?_,fun b o e n hx=>?_,fun b o e hx=>?_,fun b xs e=>tups b xs (I.base.tups b xs e),fun b o xs e=>frzs b o xs (I.base.frzs b o xs e),fun b ps e=>?_⟩,?_,fun x c e=>?_,?_,fun x c e=>?_,fun p hp=>?_,hok,I.len⟩
 ·exact keep b o (neL b o e) hb (neC b o e hx) (I.base.keep b o e n hb hx) (I.base.free b o e n hx)
 ·obtain⟨sl,e1⟩:=I.base.slot b o e n hb hx;obtain⟨sl',e2⟩:=slot b _ (neL b o e) hb (neC b o e hx) e1 (I.base.free b o e n hx);exact⟨sl',e2⟩
 ·obtain⟨o',e1⟩:=I.base.there b o e hx;exact free b o' (neC b o e hx) e1 (I.base.free b o e n hx)
 ·obtain⟨o',e1⟩:=I.base.there b o e hx;exact there b o' (neC b o e hx) e1
 ·obtain⟨m1,e1⟩:=I.base.tbls b ps e;obtain⟨m2,e2⟩:=tbls b _ e1;exact⟨m1++m2,by rw[e2,Array.append_assoc]⟩
 ·obtain⟨m,hn,hl⟩:=I.loc;refine⟨m,ns m hn,fun i x v e1 e2 e3=>?_⟩;obtain⟨u,r,l⟩:=hl i x v e1 e2 e3;refine⟨u,r,?_⟩;rcases l with l|⟨k,c,e,z⟩
  ·exact .inl l
  ·exact .inr ⟨k,c,e,Ur x c e _ z⟩
 ·obtain⟨v,z⟩:=I.cell x c e;exact⟨v,Ur x c e v z⟩
 ·obtain⟨m,⟨o,_,_,ho,_⟩,_⟩:=I.loc;exact free _ o (fun z=>(hch _ z).2.1 rfl) ho I.free
 ·obtain⟨v,o,ho,hd⟩:=I.cell x c e;exact free c o (fun z=>(hch c z).2.2.1 x c e rfl) ho (I.freeC x c e)
 ·obtain⟨e,n,ne,nf,d⟩:=I.pin p hp;have nch:p.1 ∉ ch:=fun z=>(hch p.1 z).2.2.2 p hp rfl;exact⟨keep p.1 p.2 ne nf nch e n,free p.1 p.2 nch e n,ne,nf,d⟩
theorem Inv.un{t':Nat}(I:Inv X pins σ H s)(u:Un X.fs [] H H' s.heap h')(hok:HOk X.prog X.w H' h'):Inv X pins σ H' { s with heap:=h',toks:=t' }:=by
 obtain⟨m,⟨o,es,ep,ho,r⟩,_⟩:=id I.loc;obtain⟨sl,hL⟩:=u.any ho I.free (by simp)
 exact I.step (g':=s.gens) (d':=s.drawn) (ch:=[]) (fun _ z=>nomatch z) (fun b o _ hb _ e n=>u.keep b o e n hb (by simp)) (fun b o _ hb _ e n=>u.slot b o e n hb (by simp)) (fun b o _ e n=>u.free b o e n (by simp)) (fun b o _ e=>u.there b o e (by simp)) u.tups u.frzs u.tbls (fun m' hm=>by
  obtain⟨o',es',ep',ho',r'⟩:=hm;rw[ho] at ho';cases ho';exact⟨_,es',ep',hL,r'⟩) hok I.bare
theorem Inv.call{g':Array GenState}{t':Nat}{d':Drawn}{ch:List Addr}(I:Inv X pins σ H s)(u:Un (frs X.stack) ch H H' s.heap h')(hok:HOk X.prog X.w H' h')(hg:AllBare g')(hch:∀b∈ch,(b∈X.ex∨X.s₀.heap.objs.size≤b)∧b≠X.env.locals∧(∀x c,X.env.cells.lookup x=some c→c≠b)∧∀p∈X.pn++pins,p.1≠b) :
  Inv X pins σ H' { s with heap:=h',gens:=g',drawn:=d',toks:=t' }:=by
 obtain⟨m,⟨o,es,ep,ho,r⟩,_⟩:=id I.loc;obtain⟨sl,hL⟩:=u.any ho I.free fun z=>(hch _ z).2.1 rfl;exact I.step (ch:=ch) hch (fun b o hL hb hc e n=>u.keep b o e n (fun z=>(List.mem_cons.mp (I.stkSub b z)).elim hL hb) hc) (fun b o _ _ hc e n=>u.any e n hc) (fun b o hc e n=>u.free b o e n hc) (fun b o hc e=>u.there b o e hc) u.tups u.frzs u.tbls (fun m' hm=>by
  obtain⟨o',es',ep',ho',r'⟩:=hm;rw[ho] at ho';cases ho';exact⟨_,es',ep',hL,r'⟩) hok hg
theorem Inv.turned{t':Nat}{it:Addr}(I:Inv X pins σ H s)(k:∀b o,b≠it→s.heap.get? b=some o→h'.get? b=some o)(hn:H it=none)(hL:it≠X.env.locals)(h1:it∈X.ex∨X.s₀.heap.objs.size≤it)(h2:∀x c,X.env.cells.lookup x=some c→c≠it)(h3:∀p∈X.pn++pins,p.1≠it):Inv X pins σ H { s with heap:=h',toks:=t' }:=by
 have nit:∀b u,H b=some u→b≠it:=fun b u e z=>by rw[z,hn] at e;cases e
 refine I.step (g':=s.gens) (d':=s.drawn) (ch:=[it]) (fun b hb=>?_) (fun b o _ _ hc e _=>k b o (fun z=>hc (by simp[z])) e) (fun b o _ _ hc e _=>⟨o.slots,k b o (fun z=>hc (by simp[z])) e⟩) (fun _ _ _ _ n=>n)
  (fun b o hc e=>⟨o,k b o (fun z=>hc (by simp[z])) e⟩) (fun _ _ e=>e) (fun _ _ _ e=>e) (fun b ps e=>⟨#[],by rw[e];simp⟩) (fun m hm=>?_) (fun b u e=>?_) I.bare
 ·have e:b=it:=by simpa using hb
  subst e;exact⟨h1,hL,h2,h3⟩
 ·obtain⟨o,es,ep,ho,r⟩:=hm;exact⟨o,es,ep,k _ o (Ne.symm hL) ho,r⟩
 ·refine(I.hok b u e).stay (fun c v hc q=>k c v ?_ q) (fun _ q=>q) fun _ _ q=>q;rcases hc with z|z
  ·rw[z];exact nit b u e
  ·exact nit c _ z
theorem Inv.tok(I:Inv X pins σ H s)(t:Nat):Inv X pins σ H { s with toks:=t }:=I.un (h':=s.heap) (t':=t) Un.refl I.hok
theorem Inv.kept{t':Nat}(I:Inv X pins σ H s)(k:∀b u,s.heap.get? b=some u→h'.get? b=some u):Inv X pins σ H { s with heap:=h',toks:=t' }:=I.un (Un.kept k) (I.hok.kept k)
theorem Inv.laid{a:Addr}{o:HO}{t':Nat}(I:Inv X pins σ H s)(k:∀b u,s.heap.get? b=some u→h'.get? b=some u)(hp:s.heap.objs.size≤a)(new:ObjOk X.prog X.w (upd H a o) h' a o) :
  Inv X pins σ (upd H a o) { s with heap:=h',toks:=t' }:=I.un (Un.laid k hp (I.hok.fresh hp)) (I.hok.laid k hp new)
theorem Inv.write{x e:Addr}{o:HO}{t':Nat}(I:Inv X pins σ H s)(mu:Mut (H x))(he:e=x∨H e=some (.own x))(k:∀b u,b≠e→s.heap.get? b=some u→h'.get? b=some u)(heo:∃u,h'.get? e=some u)(new:ObjOk X.prog X.w (upd H x o) h' x o):Inv X pins σ (upd H x o) { s with heap:=h',toks:=t' }:=I.un (Un.write mu he k heo) (I.hok.write mu he k heo new)
theorem Inv.weak{σ':List (Option V)}(I:Inv X pins σ H s)(hl:σ'.length=σ.length)(w:∀(i:Nat) v,σ'[i]? = some (some v)→σ[i]? = some (some v)):Inv X pins σ' H s:=
 ⟨I.ok,I.os,I.bare,I.base,let ⟨m,hn,hl'⟩:=I.loc;⟨m,hn,fun i x v e1 e2 e3=>hl' i x v e1 (w i v e2) e3⟩,I.cell,I.free,I.freeC,I.pin,I.hok,hl.trans I.len⟩
theorem Inv.pins_of{pins':List (Addr×Obj)}(I:Inv X pins σ H s)(h:∀p∈pins',s.heap.get? p.1=some p.2∧H p.1=none∧p.1≠X.env.locals∧p.1 ∉ X.fs∧∀v,p.2.data≠.cell v):Inv X pins' σ H s:=
 ⟨I.ok,I.os,I.bare,I.base,I.loc,I.cell,I.free,I.freeC,fun p hp=>(List.mem_append.mp hp).elim (fun z=>I.pin p (List.mem_append_left _ z)) (h p),I.hok,I.len⟩

theorem Np{N:List Str}(hN:N.Nodup){i j:Nat}{x:Str}(a:N[i]? = some x)(b:N[j]? = some x):i=j:=by
 obtain⟨h1,e1⟩:=List.getElem?_eq_some_iff.mp a;obtain⟨h2,e2⟩:=List.getElem?_eq_some_iff.mp b;exact(List.getElem_inj hN).mp (e1.trans e2.symm)

theorem Ga{M:Model}{A:Around}{E:Value→Shared→Prop}{i:Nat}{x:Str}{v:V}{u:Value}{Q:Unit→Shared→Prop}(I:Inv X pins σ H s)(hN:X.N.Nodup)(hi:X.N[i]? = some x)(hx:Loc X.env.scope x)(r:RelV v u)(h:∀s',Inv X pins (σ.set i (some v)) H s'→(∃a,Heap.SameBut a s.heap s'.heap∧(a=X.env.locals∨X.env.cells.lookup x=some a))→Q () s')(hf:X.fn x=true∨X.env.scope.names.lookup x=some .local:=by first|exact .inl rfl|exact .inr rfl|assumption):wpAny M A (storeName X.env x u) Q E s:=by
 obtain⟨m,hn,hl⟩:=id I.loc;have hcls:(X.env.scope.kind == .class||(X.env.scope.kind == .module&&X.env.locals != X.env.globals))=false:=by rw[I.ok.kind];rfl
 have hiσ:i<σ.length:=by rw[I.len];exact(List.getElem?_eq_some_iff.mp hi).1
 have cne:=I.cne;have tracked:∀{a:Addr} {h':Heap},(∃o,s.heap.get? a=some o∧H a=none)→Heap.SameBut a s.heap h'→HOk X.prog X.w H h':=fun {a h'} ha hs b ob e=>by
  obtain⟨_,_,hfree⟩:=ha;refine(I.hok b ob e).stay (fun c w' hc q=>(hs.2 c ?_).trans q) (fun _ q=>q) fun _ _ q=>q;rintro rfl;rcases hc with rfl|hc
  ·rw[hfree] at e;cases e
  ·rw[hfree] at hc;cases hc
 rcases hx with hk|hk
 ·refine wpAny_storeName_local hk hn (fun h' hn' hs=>?_) hcls;obtain⟨oL,_,_,hoL,_⟩:=id hn;refine h _ ⟨I.ok,I.os,I.bare,⟨fun b o e n hb hx=>?_,fun b o e n hb hx=>?_,I.base.free,fun b o e hx=>?_,I.base.tups,I.base.frzs,I.base.tbls⟩,⟨_,hn',fun j y v' e1 e2 e3=>?_⟩,fun y c e=>?_,I.free,I.freeC,fun p hp=>?_,tracked ⟨oL,hoL,I.free⟩ hs,by simpa using I.len⟩ ⟨_,hs,.inl rfl⟩
  ·exact(hs.2 b (Nat.ne_of_lt (Nat.lt_of_lt_of_le (Heap.lt_size e) I.ok.above))).trans (I.base.keep b o e n hb hx)
  ·obtain⟨sl,e1⟩:=I.base.slot b o e n hb hx;exact⟨sl,(hs.2 b (Nat.ne_of_lt (Nat.lt_of_lt_of_le (Heap.lt_size e) I.ok.above))).trans e1⟩
  ·obtain⟨o',e1⟩:=I.base.there b o e hx;exact⟨o',(hs.2 b (Nat.ne_of_lt (Nat.lt_of_lt_of_le (Heap.lt_size e) I.ok.above))).trans e1⟩
  ·by_cases hj:j=i
   ·subst hj;rw[hi] at e1;cases e1;rw[List.getElem?_set_self hiσ] at e2;cases e2;exact⟨u,r,.inl ⟨hk,by simp⟩⟩
   ·rw[List.getElem?_set_ne (Ne.symm hj)] at e2;obtain⟨u',r',q⟩:=hl j y v' e1 e2 e3;refine⟨u',r',?_⟩;rcases q with ⟨k,e⟩|⟨k,c,e,z⟩
    ·refine .inl ⟨k,?_⟩
     have:y≠x:=fun e=>hj (Np hN e1 (e ▸ hi))
     simp[this,e]
    ·exact .inr ⟨k,c,e,z.sameBut hs (cne y c e)⟩
  ·obtain⟨w',z⟩:=I.cell y c e;exact⟨w',z.sameBut hs (cne y c e)⟩
  ·obtain⟨e,n,ne,nf,d⟩:=I.pin p hp;exact⟨(hs.2 p.1 ne).trans e,n,ne,nf,d⟩
 ·have hfn:X.fn x=true:=by
   rcases hf with z|z
   ·exact z
   ·rw[z] at hk;cases hk
  obtain⟨c,hc⟩:=I.ok.has x (.inl hk);obtain⟨w',z⟩:=I.cell x c hc;refine wpAny_storeName_cell I.ok.kind hk hc z (fun h' hc' hs=>?_);obtain⟨oc,hoc,hocd⟩:=id z;refine h { s with heap:=h' } ⟨I.ok,I.os,I.bare,⟨fun b o e n hb hx=>?_,fun b o e n hb hx=>?_,I.base.free,fun b o e hx=>?_,I.base.tups,I.base.frzs,I.base.tbls⟩,⟨m,hn.sameBut hs (Ne.symm (cne x c hc)),fun j y v' e1 e2 e3=>?_⟩,fun y c' e=>?_,I.free,I.freeC,fun p hp=>?_,tracked ⟨oc,hoc,I.freeC x c hc⟩ hs,by simpa using I.len⟩ ⟨c,hs,.inr hc⟩
  ·exact(hs.2 b (Nat.ne_of_lt (Nat.lt_of_lt_of_le (Heap.lt_size e) (I.ok.cab x c hfn hc)))).trans (I.base.keep b o e n hb hx)
  ·obtain⟨sl,e1⟩:=I.base.slot b o e n hb hx;exact⟨sl,(hs.2 b (Nat.ne_of_lt (Nat.lt_of_lt_of_le (Heap.lt_size e) (I.ok.cab x c hfn hc)))).trans e1⟩
  ·obtain⟨o',e1⟩:=I.base.there b o e hx;exact⟨o',(hs.2 b (Nat.ne_of_lt (Nat.lt_of_lt_of_le (Heap.lt_size e) (I.ok.cab x c hfn hc)))).trans e1⟩
  ·by_cases hj:j=i
   ·subst hj;rw[hi] at e1;cases e1;rw[List.getElem?_set_self hiσ] at e2;cases e2;exact⟨u,r,.inr ⟨.inl hk,c,hc,hc'⟩⟩
   ·rw[List.getElem?_set_ne (Ne.symm hj)] at e2;obtain⟨u',r',q⟩:=hl j y v' e1 e2 e3;refine⟨u',r',?_⟩;rcases q with q|⟨k,c',e,z'⟩
    ·exact .inl q
    ·refine .inr ⟨k,c',e,z'.sameBut hs ?_⟩;rintro rfl;exact hj (Np hN e1 (I.ok.inj _ _ _ e hc ▸ hi))
  ·by_cases hcc:c'=c
   ·subst hcc;exact⟨_,hc'⟩
   ·obtain⟨w2,z2⟩:=I.cell y c' e;exact⟨w2,z2.sameBut hs hcc⟩
  ·obtain⟨e,n,ne,nf,d⟩:=I.pin p hp;refine⟨(hs.2 p.1 ?_).trans e,n,ne,nf,d⟩;intro q;rw[q,hoc] at e;have q':oc=p.2:=Option.some.inj e;exact d w' (by rw[←q'];exact hocd)
theorem B6{M:Model}{A:Around}{E:Value→Shared→Prop}{i:Nat}{x:Str}{v:V}{u:Value}{Q:Unit→Shared→Prop}(I:Inv X pins σ H s)(hN:X.N.Nodup)(hi:X.N[i]? = some x)(hx:Loc X.env.scope x)(r:RelV v u)(h:∀s',Inv X pins (σ.set i (some v)) H s'→Q () s')(hf:X.fn x=true∨X.env.scope.names.lookup x=some .local:=by first|exact .inl rfl|exact .inr rfl|assumption):wpAny M A (storeName X.env x u) Q E s:=
 Ga I hN hi hx r (fun s' I' _=>h s' I') hf
theorem Inv.call'{s':Shared}{ch:List Addr}(I:Inv X pins σ H s)(ho:s'.os=s.os)(u:Un (frs X.stack) ch H H' s.heap s'.heap)(hok:HOk X.prog X.w H' s'.heap)(hg:AllBare s'.gens)(hch:∀b∈ch,(b∈X.ex∨X.s₀.heap.objs.size≤b)∧b≠X.env.locals∧(∀x c,X.env.cells.lookup x=some c→c≠b)∧∀p∈X.pn++pins,p.1≠b):Inv X pins σ H' s':=by
 obtain⟨h',g',d',t',o'⟩:=s';have e:o'=s.os:=ho;subst e;exact I.call (g':=g') (t':=t') (d':=d') u hok hg hch
end
abbrev XK:=Value→Option Addr→Hp→Prop
abbrev St:=List (Option V)
abbrev VK:=V→Hp→Prop
abbrev TE:=St→Hp→VK→Prop
abbrev TT:=St→Hp→(Bool→Hp→Prop)→Prop
abbrev TA:=St→Hp→(List V→Hp→Prop)→Prop
structure Ends where
 nx:St→Hp→Prop
 rt:VK
 bk:St→Hp→Prop:=fun _ _=>False
 ct:St→Hp→Prop:=fun _ _=>False
abbrev TS:=Ends→St→Hp→Prop

def EP(X:Cx)(pins:List (Addr×Obj))(σ:St)(Q:VK)(u:Value)(s':Shared):Prop:=∃v H',Inv X pins σ H' s'∧RelV v u∧Q v H'
def TP(X:Cx)(pins:List (Addr×Obj))(σ:St)(Q:Bool→Hp→Prop)(b:Bool)(s':Shared):Prop:=∃H',Inv X pins σ H' s'∧Q b H'
def AP(X:Cx)(pins:List (Addr×Obj))(σ:St)(Q:List V→Hp→Prop)(us:List Value)(s':Shared):Prop:=∃vs H',Inv X pins σ H' s'∧Vals vs us∧Q vs H'
def SP(X:Cx)(pins:List (Addr×Obj))(D:Ends)(f:Flow)(s':Shared):Prop:=
 match f with
 |.next=>∃σ' H',Inv X pins σ' H' s'∧D.nx σ' H'
 |.brk=>∃σ' H',Inv X pins σ' H' s'∧D.bk σ' H'
 |.cont=>∃σ' H',Inv X pins σ' H' s'∧D.ct σ' H'
 |.ret u=>∃v σ' H',Inv X pins σ' H' s'∧RelV v u∧D.rt v H'

def PE(X:Cx)(e:Expr)(t:TE):Prop:=
 ∀(pins:List (Addr×Obj)) (s:Shared) (σ:St) (H:Hp) (Q:VK),Inv X pins σ H s→t σ H Q→wpAny (model X.prog X.w) X.A (eval e X.env) (EP X pins σ Q) X.xe s
def PT(X:Cx)(e:Expr)(t:TT):Prop:=
 ∀(pins:List (Addr×Obj)) (s:Shared) (σ:St) (H:Hp) (Q:Bool→Hp→Prop),Inv X pins σ H s→t σ H Q→wpAny (model X.prog X.w) X.A (isTrue e X.env (eval e X.env)) (TP X pins σ Q) X.xe s
def PW(X:Cx)(e:Expr)(t:TT):Prop:=
 ∀(whole:Sem Value) (pins:List (Addr×Obj)) (s:Shared) (σ:St) (H:Hp) (Q:Bool→Hp→Prop),Inv X pins σ H s→t σ H Q→wpAny (model X.prog X.w) X.A (isTrue e X.env whole) (TP X pins σ Q) X.xe s
theorem PW.pt{X:Cx}{e:Expr}{t:TT}(h:PW X e t):PT X e t:=h _
def PA(X:Cx)(es:List Expr)(t:TA):Prop:=
 ∀(pos:Pos) (pins:List (Addr×Obj)) (s:Shared) (σ:St) (H:Hp) (Q:List V→Hp→Prop),Inv X pins σ H s→t σ H Q→wpAny (model X.prog X.w) X.A (spliced (backTo pos (starEach es X.env))) (AP X pins σ Q) X.xe s
def PS(X:Cx)(st:Stmt)(t:TS):Prop:=
 ∀(pins:List (Addr×Obj)) (s:Shared) (σ:St) (H:Hp) (D:Ends),Inv X pins σ H s→t D σ H→wpAny (model X.prog X.w) X.A (exec st X.env) (SP X pins D) X.xe s
def PSs(X:Cx)(st:List Stmt)(t:TS):Prop:=
 ∀(pins:List (Addr×Obj)) (s:Shared) (σ:St) (H:Hp) (D:Ends),Inv X pins σ H s→t D σ H→wpAny (model X.prog X.w) X.A (execs st X.env) (SP X pins D) X.xe s
theorem thn{α:Type}{t:Sem α}{Q Q':α→Shared→Prop}{M:Model}{A:Around}{E:Value→Shared→Prop}{s:Shared}(h:wpAny M A t Q E s)(hQ:∀a s,Q a s→Q' a s):wpAny M A t Q' E s:=wpAny_mono h hQ fun _ _ x=>x
end L2
namespace L2
open PySem PySem.Spec PyProof.Rows
section
variable{X:Cx}
theorem bin{a b:Expr}{ta tb:TE}(ha:PE X a ta)(hb:PE X b tb){pins:List (Addr×Obj)}{s:Shared}{σ:St}{H:Hp}{R:V→V→Hp→Prop}(I:Inv X pins σ H s)(h:ta σ H fun x H1=>tb σ H1 fun y H2=>R x y H2){α:Type}{Q:α→Shared→Prop}{f:Value→Value→Sem α}(hf:∀v u s2 x y H2,Inv X pins σ H2 s2→RelV x v→RelV y u→R x y H2→wpAny (model X.prog X.w) X.A (f v u) Q X.xe s2) :
  wpAny (model X.prog X.w) X.A (eval a X.env) (fun v s₁=>wpAny (model X.prog X.w) X.A (eval b X.env) (fun u s₂=>wpAny (model X.prog X.w) X.A (f v u) Q X.xe s₂) X.xe s₁) X.xe s:=by
 refine thn (ha pins s σ H _ I h) fun v s1 zz=>?_;obtain⟨x,H1,I1,r1,q1⟩:=zz;refine thn (hb pins s1 σ H1 _ I1 q1) fun u s2 zz=>?_;obtain⟨y,H2,I2,r2,q2⟩:=zz;exact hf v u s2 x y H2 I2 r1 r2 q2

def tVar(i:Nat):TE:=fun σ H Q=>∃v,σ[i]? = some (some v)∧Q v H
def tC(v:V):TE:=fun _ H Q=>Q v H
theorem Lq{i:Nat}{x:Str}{pos:Pos}(hN:X.N[i]? = some x)(hv:Vis X.env.scope x)(hd:(x == ("__debug__" : Str))=false:=by decide)(hcd:(x == ("__classdict__" : Str))=false:=by decide):PE X (.Name x pos) (tVar i):=by
 intro pins s σ H Q I h;obtain⟨v,e,h⟩:=h;obtain⟨m,hn,hl⟩:=I.loc;obtain⟨u,r,l⟩:=hl i x v hN e hv;have fin:EP X pins σ Q u s:=⟨v,H,I,r,h⟩;rcases l with ⟨hk,hm⟩|⟨hk,c,hc,hcell⟩
 ·exact wpAny_Name (wpAny_loadName_local I.ok.kind hk hn hm fin) hd
 ·rcases hk with hk|hk
  ·exact wpAny_Name (wpAny_loadName_cell I.ok.kind hk hc hcell fin) hd
  ·exact wpAny_Name (wpAny_loadName_free I.ok.kind hk hc hcell fin hcd) hd
theorem Ac1{i j pos}:PE X (.Constant (.int i) j pos) (tC (.int i)):=fun _ _ _ H _ I h=>wpAny_Constant_int ⟨.int i,H,I.tok _,⟨_,rfl⟩,h⟩
theorem pe_bl{b j pos}:PE X (.Constant (.bool b) j pos) (tC (.bl b)):=fun _ _ _ H _ I h=>Constant_bool ⟨.bl b,H,I,rfl,h⟩
theorem U4{j pos}:PE X (.Constant .none j pos) (tC .non):=fun _ _ _ H _ I h=>Constant_none ⟨.non,H,I,rfl,h⟩
theorem Acy{x j pos}:PE X (.Constant (.str x) j pos) (tC (.str x)):=fun _ _ _ H _ I h=>Calls.Constant_str ⟨.str x,H,I.tok _,⟨_,rfl⟩,h⟩

def Gl(X:Cx)(x:Str):Prop:=X.env.kindOf x=some .globalImplicit
theorem Di{E:Value→Shared→Prop}{pins:List (Addr×Obj)}{s:Shared}{σ:St}{H:Hp}{x:Str}{u:Value}{pos:Pos}{Q:Value→Shared→Prop}(I:Inv X pins σ H s)(hg:Gl X x)(hm:X.mg x=some u)(h:Q u s)(hd:(x == ("__debug__" : Str))=false:=by decide):wpAny (model X.prog X.w) X.A (eval (.Name x pos) X.env) Q E s:=
 Calls.Name_function_global I.ok.kind hg (Calls.loadGlobal_global (by rw[I.ok.glob];exact I.mod.glob.keeps I.bk) hm h) hd
theorem Dw{E:Value→Shared→Prop}{pins:List (Addr×Obj)}{s:Shared}{σ:St}{H:Hp}{x:Str}{u:Value}{pos:Pos}{Q:Value→Shared→Prop}(I:Inv X pins σ H s)(hg:Gl X x)(hm:X.mg x=none)(hv:bootBuiltins x=some u)(h:Q u s)(hn:x≠"__name__":=by decide)(hd:(x == ("__debug__" : Str))=false:=by decide):wpAny (model X.prog X.w) X.A (eval (.Name x pos) X.env) Q E s:=by
 obtain⟨mb,h1,h2⟩:=I.mod.blt;exact Calls.Name_function_global I.ok.kind hg (Calls.loadGlobal_builtin (by rw[I.ok.glob];exact I.mod.glob.keeps I.bk) hm (by rw[I.ok.blt];exact h1.keeps I.bk) ((h2 x hn).trans hv) h) hd
theorem Rh{x:Str}{v:V}{u:Value}{pos:Pos}(hg:Gl X x)(hm:X.mg x=some u)(r:RelV v u)(hd:(x == ("__debug__" : Str))=false:=by decide):PE X (.Name x pos) (tC v):=
 fun _ _ _ H _ I h=>Di I hg hm ⟨v,H,I,r,h⟩ hd
theorem Y6{x:Str}{v:V}{u:Value}{pos:Pos}(hg:Gl X x)(hm:X.mg x=none)(hv:bootBuiltins x=some u)(r:RelV v u)(hn:x≠"__name__":=by decide)(hd:(x == ("__debug__" : Str))=false:=by decide):PE X (.Name x pos) (tC v):=
 fun _ _ _ H _ I h=>Dw I hg hm hv ⟨v,H,I,r,h⟩ hn hd

variable{a b:Expr}{ta tb:TE}{pos:Pos}
variable{tA tB':TT}{rest:List Expr}
def tAnd(t u:TT):TT:=fun σ H Q=>t σ H fun c H1=>if c=true then u σ H1 Q else Q false H1
def tOr(t u:TT):TT:=fun σ H Q=>t σ H fun c H1=>if c=true then Q true H1 else u σ H1 Q
def tNot(t:TT):TT:=fun σ H Q=>t σ H fun c H1=>Q (!c) H1
theorem Yu(ha:PT X a tA):PW X (.BoolOp .And [a] pos) tA:=by
 intro wh pins s σ H Q I h;refine isTrue_and (thn (ha pins s σ H Q I h) fun c s1 e=>?_);cases c with
 |true=>exact isTrue_and_nil e
 |false=>exact e
theorem Acj(ha:PT X a tA):PW X (.BoolOp .Or [a] pos) tA:=by
 intro wh pins s σ H Q I h;refine isTrue_or (thn (ha pins s σ H Q I h) fun c s1 e=>?_);cases c with
 |false=>exact isTrue_or_nil e
 |true=>exact e
theorem Ack(ha:PT X a tA)(hb:PW X (.BoolOp .And (b::rest) pos) tB'):PW X (.BoolOp .And (a::b::rest) pos) (tAnd tA tB'):=by
 intro wh pins s σ H Q I h;refine isTrue_and (thn (ha pins s σ H _ I h) fun c s1 zz=>?_);obtain⟨H1,I1,q1⟩:=zz;cases c with
 |true=>exact hb wh pins s1 σ H1 Q I1 q1
 |false=>exact⟨H1,I1,q1⟩
theorem pw_or(ha:PT X a tA)(hb:PW X (.BoolOp .Or (b::rest) pos) tB'):PW X (.BoolOp .Or (a::b::rest) pos) (tOr tA tB'):=by
 intro wh pins s σ H Q I h;refine isTrue_or (thn (ha pins s σ H _ I h) fun c s1 zz=>?_);obtain⟨H1,I1,q1⟩:=zz;cases c with
 |true=>exact⟨H1,I1,q1⟩
 |false=>exact hb wh pins s1 σ H1 Q I1 q1
theorem Acl(ha:PT X a tA):PT X (.UnaryOp .Not a pos) (tNot tA):=by
 intro pins s σ H Q I h;exact isTrue_not (ha pins s σ H (fun c H1=>Q (!c) H1) I h)
def tAndV(ta tb:TE):TE:=fun σ H Q=>ta σ H fun x H1=>∃c,x=.bl c∧if c=true then tb σ H1 Q else Q (.bl false) H1
def tNotV(ta:TE):TE:=fun σ H Q=>ta σ H fun x H1=>∃c,x=.bl c∧Q (.bl (!c)) H1
theorem Acz{op}{t:TE}(h:PE X a t):PE X (.BoolOp op [a] pos) t:=fun pins s σ H Q I hw=>BoolOp_one (h pins s σ H Q I hw)
theorem Ac3(ha:PE X a ta)(hb:PE X (.BoolOp .And (b::rest) pos) tb):PE X (.BoolOp .And (a::b::rest) pos) (tAndV ta tb):=by
 intro pins s σ H Q I h;refine BoolOp_and (thn (ha pins s σ H _ I h) fun v s1 zz=>?_);obtain⟨x,H1,I1,r1,q1⟩:=zz;obtain⟨c,rfl,q1⟩:=q1;cases r1;refine wpAny_truthy_bool ?_;cases c with
 |true=>exact hb pins s1 σ H1 Q I1 q1
 |false=>exact⟨.bl false,H1,I1,rfl,q1⟩
theorem Ac0(ha:PE X a ta):PE X (.UnaryOp .Not a pos) (tNotV ta):=by
 intro pins s σ H Q I h;refine UnaryOp_ (thn (ha pins s σ H _ I h) fun v s1 zz=>?_);obtain⟨x,H1,I1,r1,q1⟩:=zz;obtain⟨c,rfl,q1⟩:=q1;cases r1;exact not_of (wpAny_truthy_bool ⟨.bl (!c),H1,I1,rfl,q1⟩)
def tIf(t:TT)(ta tb:TE):TE:=fun σ H Q=>t σ H fun c H1=>if c=true then ta σ H1 Q else tb σ H1 Q
theorem Wi{c:Expr}(hc:PT X c tA)(ha:PE X a ta)(hb:PE X b tb):PE X (.IfExp c a b pos) (tIf tA ta tb):=by
 intro pins s σ H Q I h;refine wpAny_IfExp (thn (hc pins s σ H _ I h) fun d s1 zz=>?_);obtain⟨H1,I1,q1⟩:=zz;cases d with
 |true=>exact ha pins s1 σ H1 Q I1 q1
 |false=>exact hb pins s1 σ H1 Q I1 q1
end
end L2
namespace L2
open PySem PySem.Spec PyProof.Rows
def SqL(K:W.Frag)(H:Hp)(a:Addr)(xs:List V):Prop:=
 Rd H a (.lst xs)∨
  ∃(o:Obj) (its:Array Value) (n:Nat),K.lookup a=some o∧o.cls=.type "list"∧o.dict=none∧o.data=.seq its n∧its.size≤sizeLine∧Vals xs its.toList
def SqT(K:W.Frag)(H:Hp)(a:Addr)(xs:List V):Prop:=
 Rd H a (.tup xs)∨
  ∃(o:Obj) (its:Array Value) (n:Nat),K.lookup a=some o∧o.cls=.type "tuple"∧o.data=.seq its n∧its.size≤sizeLine∧Vals xs its.toList
def absV:Value→Option V
 |.none=>some .non
 |.bool b=>some (.bl b)
 |.int i _=>some (.int i)
 |.str x _=>some (.str x)
 |.bytes b _=>some (.byt b)
 |.float b _=>some (.flt b)
 |.ref a=>some (.ref a)
 |.type n=>some (.ty n)
 |_=>none
theorem RelV.abs{x:V}{u:Value}(r:RelV x u):absV u=some x:=by
 cases x with
 |non=>cases r;rfl
 |bl _=>cases r;rfl
 |int _=>obtain⟨t,rfl⟩:=r;rfl
 |str _=>obtain⟨t,rfl⟩:=r;rfl
 |byt _=>obtain⟨t,rfl⟩:=r;rfl
 |flt _=>obtain⟨t,rfl⟩:=r;rfl
 |ref _=>cases r;rfl
 |ty _=>cases r;rfl
theorem RelV.inj{x y:V}{u:Value}(r:RelV x u)(q:RelV y u):x=y:=Option.some.inj (r.abs.symm.trans q.abs)
theorem Vals.inj:∀{xs ys:List V} {us:List Value},Vals xs us→Vals ys us→xs=ys
 |_,_,_,.nil,.nil=>rfl
 |_,_,_,.cons r t,.cons r' t'=>by rw[r.inj r',Vals.inj t t']
section
variable{X:Cx}{pins:List (Addr×Obj)}{σ:St}{H:Hp}{s:Shared}{a:Addr}{xs ys:List V}
theorem Inv.list(I:Inv X pins σ H s)(h:SqL X.K H a xs):∃its:List Value,Vals xs its∧PlainL s.heap a its.toArray∧xs.length≤sizeLine:=by
 rcases h with h|⟨o,its,n,hk,hc,hd,hs,hz,r⟩
 ·obtain⟨z,its,n,r,e⟩:=h.ok I.hok;exact⟨its,r,⟨_,n,e,rfl,rfl,rfl⟩,z⟩
 ·refine⟨its.toList,r,⟨o,n,I.kIn a o hk,hc,hd,by simpa using hs⟩,?_⟩
  have e:=r.length;simp only[Array.length_toList] at e;omega
theorem Inv.tuple(I:Inv X pins σ H s)(h:SqT X.K H a xs):∃its:List Value,Vals xs its∧IsTup s.heap a its.toArray∧xs.length≤sizeLine:=by
 rcases h with h|⟨o,its,n,hk,hc,hs,hz,r⟩
 ·obtain⟨z,its,r,p⟩:=h.ok I.hok;exact⟨its,r,p,z⟩
 ·refine⟨its.toList,r,⟨o,I.kIn a o hk,hc,n,by simpa using hs⟩,?_⟩
  have e:=r.length;simp only[Array.length_toList] at e;omega
theorem Inv.list_inj(I:Inv X pins σ H s)(h:SqL X.K H a xs)(h':SqL X.K H a ys):xs=ys:=by
 obtain⟨its,r,⟨o,n,e,_,_,d⟩,_⟩:=I.list h;obtain⟨its',r',⟨o',n',e',_,_,d'⟩,_⟩:=I.list h';rw[e] at e';cases e';rw[d] at d';injection d' with d1 _
 have:its=its':=by simpa using congrArg Array.toList d1
 subst this;exact r.inj r'
theorem Inv.tuple_inj(I:Inv X pins σ H s)(h:SqT X.K H a xs)(h':SqT X.K H a ys):xs=ys:=by
 obtain⟨its,r,⟨o,e,_,n,d⟩,_⟩:=I.tuple h;obtain⟨its',r',⟨o',e',_,n',d'⟩,_⟩:=I.tuple h';rw[e] at e';cases e';rw[d] at d';injection d' with d1 _
 have:its=its':=by simpa using congrArg Array.toList d1
 subst this;exact r.inj r'
end
abbrev Cx.wish(X:Cx)(E:Value→Shared→Prop):Cx:={ X with xe:=E }
abbrev Cx.nox(X:Cx):Cx:=X.wish fun _ _=>False
theorem Cx.Ok.wish{X:Cx}(ok:X.Ok)(E:Value→Shared→Prop):(X.wish E).Ok:=
 ⟨ok.mod,ok.kind,ok.glob,ok.blt,ok.above,ok.inj,ok.has,ok.cab,ok.hd,ok.frames,ok.stk,ok.exf,ok.bs,ok.bsz,ok.noex,ok.exfs,ok.funs,ok.frf⟩
theorem Cx.Ok.unwish{X:Cx}{E:Value→Shared→Prop}(ok:(X.wish E).Ok):X.Ok:=
 ⟨ok.mod,ok.kind,ok.glob,ok.blt,ok.above,ok.inj,ok.has,ok.cab,ok.hd,ok.frames,ok.stk,ok.exf,ok.bs,ok.bsz,ok.noex,ok.exfs,ok.funs,ok.frf⟩
section
variable{X:Cx}{pins:List (Addr×Obj)}{σ:St}{H:Hp}{s:Shared}{E:Value→Shared→Prop}
theorem Inv.wish(I:Inv X pins σ H s)(E:Value→Shared→Prop):Inv (X.wish E) pins σ H s:=⟨I.ok.wish E,I.os,I.bare,I.base,I.loc,I.cell,I.free,I.freeC,I.pin,I.hok,I.len⟩
theorem Inv.unwish(I:Inv (X.wish E) pins σ H s):Inv X pins σ H s:=⟨I.ok.unwish,I.os,I.bare,I.base,I.loc,I.cell,I.free,I.freeC,I.pin,I.hok,I.len⟩
theorem SP.unwish{D:Ends}{f:Flow}{s':Shared}(h:SP (X.wish E) pins D f s'):SP X pins D f s':=by
 cases f with
 |next=>obtain⟨σ',H',I,q⟩:=h;exact⟨σ',H',I.unwish,q⟩
 |brk=>obtain⟨σ',H',I,q⟩:=h;exact⟨σ',H',I.unwish,q⟩
 |cont=>obtain⟨σ',H',I,q⟩:=h;exact⟨σ',H',I.unwish,q⟩
 |ret u=>obtain⟨v,σ',H',I,r,q⟩:=h;exact⟨v,σ',H',I.unwish,r,q⟩
theorem PSs.nox{st:List Stmt}{t:TS}(h:PSs X.nox st t):PSs X st t:=fun pins s σ H D I hw=>
 wpAny_mono (h pins s σ H D (I.wish _) hw) (fun _ _ q=>q.unwish) fun _ _ z=>False.elim z
end
section
variable{X:Cx}{st:Stmt}{rest:List Stmt}{t u:TS}{e:Expr}{te:TE}{pos:Pos}
def tNext:TS:=fun D σ H=>D.nx σ H
def tSeq(t u:TS):TS:=fun D σ H=>t { D with nx:=u D } σ H
theorem pss_nil:PSs X [] tNext:=fun _ _ σ H _ I h=>wpAny_execs_nil ⟨σ,H,I,h⟩
theorem Wa(h1:PS X st t)(h2:PSs X rest u):PSs X (st::rest) (tSeq t u):=by
 intro pins s σ H D I h;refine wpAny_execs_cons (thn (h1 pins s σ H { D with nx:=u D } I h) fun f s1 q=>?_);cases f with
 |next=>
  obtain⟨σ',H',I',q⟩:=q;exact h2 pins s1 σ' H' D I' q
 |ret v=>exact q
 |brk=>exact q
 |cont=>exact q
theorem Ie(h1:PS X st t):PSs X [st] t:=by
 intro pins s σ H D I h;refine wpAny_execs_cons (thn (h1 pins s σ H D I h) fun f s1 q=>?_);cases f with
 |next=>exact wpAny_execs_nil q
 |ret v=>exact q
 |brk=>exact q
 |cont=>exact q
theorem Inv.quiet{pins:List (Addr×Obj)}{σ:St}{H:Hp}{s:Shared}(I:Inv X pins σ H s):interactive X.env=false:=by simp[interactive,I.ok.kind]
def tDrop(te:TE):TS:=fun D σ H=>te σ H fun _ H1=>D.nx σ H1
theorem Yy(he:PE X e te)(hs:swapsWith e none pos.line X.env=pure false:=by rfl):PS X (.Expr e pos) (tDrop te):=by
 intro pins s σ H D I h;exact wpAny_Expr_any (thn (he pins s σ H _ I h) fun v s1 ⟨x,H1,I1,r1,q1⟩=>⟨σ,H1,I1,q1⟩) I.quiet hs
def tRet(te:TE):TS:=fun D σ H=>te σ H D.rt
theorem Pm(he:PE X e te):PS X (.Return (some e) pos) (tRet te):=by
 intro pins s σ H D I h;exact wpAny_Return_some (thn (he pins s σ H _ I h) fun v s1 ⟨x,H1,I1,r1,q1⟩=>⟨x,σ,H1,I1,r1,q1⟩)
def tIfS(c:TT)(t u:TS):TS:=fun D σ H=>c σ H fun b H1=>if b=true then t D σ H1 else u D σ H1
theorem Aao{c:Expr}{a b:List Stmt}{tc:TT}(hc:PT X c tc)(ha:PSs X a t)(hb:PSs X b u):PS X (.If c a b pos) (tIfS tc t u):=by
 intro pins s σ H D I h;refine wpAny_If (thn (hc pins s σ H _ I h) fun d s1 zz=>?_);obtain⟨H1,I1,q1⟩:=zz;cases d with
 |true=>exact ha pins s1 σ H1 D I1 q1
 |false=>exact hb pins s1 σ H1 D I1 q1
def Abp:TS:=fun _ _ _=>False
theorem ps_never:PS X st Abp:=fun _ _ _ _ _ _ h=>h.elim
end
abbrev TG:=V→St→Hp→(St→Hp→Prop)→Prop
abbrev TGs:=List V→St→Hp→(St→Hp→Prop)→Prop
def PG(X:Cx)(target:Expr)(t:TG):Prop:=
 ∀(pins:List (Addr×Obj)) (s:Shared) (σ:St) (H:Hp) (v:V) (u:Value) (Q:St→Hp→Prop),Inv X pins σ H s→RelV v u→t v σ H Q→
  wpAny (model X.prog X.w) X.A (assign target X.env u) (fun _ s'=>∃σ' H',Inv X pins σ' H' s'∧Q σ' H') X.xe s
def PGs(X:Cx)(ts:List Expr)(t:TGs):Prop:=
 ∀(pins:List (Addr×Obj)) (s:Shared) (σ:St) (H:Hp) (vs:List V) (us:List Value) (Q:St→Hp→Prop),Inv X pins σ H s→Vals vs us→t vs σ H Q→
  wpAny (model X.prog X.w) X.A (assignInOrder ((assignEach ts X.env).map (·.2)) us) (fun _ s'=>∃σ' H',Inv X pins σ' H' s'∧Q σ' H') X.xe s
abbrev T6:=V→V→V→Hp→(Hp→Prop)→Prop
def PSet(X:Cx)(t:T6):Prop:=
 ∀(pins:List (Addr×Obj)) (s:Shared) (σ:St) (H:Hp) (o i v:V) (ov iv u:Value) (Q:Hp→Prop),Inv X pins σ H s→RelV o ov→RelV i iv→RelV v u→t o i v H Q→
  wpAny (model X.prog X.w) X.A (setItem ov iv u) (fun _ s'=>∃H',Inv X pins σ H' s'∧Q H') X.xe s
abbrev TIp:=V→V→Hp→VK→Prop
def PIp(X:Cx)(op:Operator)(t:TIp):Prop:=
 ∀(pins:List (Addr×Obj)) (s:Shared) (σ:St) (H:Hp) (x y:V) (v u:Value) (Q:VK),Inv X pins σ H s→RelV x v→RelV y u→t x y H Q→
  wpAny (model X.prog X.w) X.A (inplaceOp op v u) (EP X pins σ Q) X.xe s
section
variable{X:Cx}{pos:Pos}
def Q2(i:Nat):TG:=fun v σ H Q=>Q (σ.set i (some v)) H
theorem Y0{i:Nat}{x:Str}(hN:X.N.Nodup)(hi:X.N[i]? = some x)(hx:Loc X.env.scope x)(hf:X.fn x=true∨X.env.scope.names.lookup x=some .local:=by first|exact .inl rfl|exact .inr rfl|assumption):PG X (.Name x pos) (Q2 i):=by
 intro pins s σ H v u Q I r h;exact wpAny_assign_Name (B6 I hN hi hx r (fun s' I'=>⟨_,H,I',h⟩) hf)
def gNil:TGs:=fun vs σ H Q=>vs=[]∧Q σ H
def gCons(t:TG)(u:TGs):TGs:=fun vs σ H Q=>∃v r,vs=v::r∧t v σ H fun σ' H'=>u r σ' H' Q
theorem pgs_nil:PGs X [] gNil:=by
 intro pins s σ H vs us Q I r h;obtain⟨e,h⟩:=h;subst e;cases r;exact assignInOrder_nil ⟨σ,H,I,h⟩
theorem Wf{e:Expr}{es:List Expr}{t:TG}{u:TGs}(h1:PG X e t)(h2:PGs X es u)(hs:(assignEach (e::es) X.env).map (·.2)=assign e X.env::(assignEach es X.env).map (·.2):=by rfl):PGs X (e::es) (gCons t u):=by
 intro pins s σ H vs us Q I r h;obtain⟨v,vr,e1,h⟩:=h;subst e1;cases r with
 |cons r rr=>
  rw[hs];refine assignInOrder_cons (thn (h1 pins s σ H _ _ _ I r h) fun _ s1 zz=>?_);obtain⟨σ1,H1,I1,q1⟩:=zz;exact h2 pins s1 σ1 H1 _ _ Q I1 rr q1
def gTup(K:W.Frag)(n:Nat)(t:TGs):TG:=fun v σ H Q=>∃a xs,v=.ref a∧SqT K H a xs∧xs.length=n∧t xs σ H Q
theorem Acs{es:List Expr}{k:Nat}{t:TGs}{n:Nat}(hc:X.calm=true)(h:PGs X es t)(hn:(assignEach es X.env).length=n:=by rfl)(hst:(assignEach es X.env).findIdx? (·.1)=none:=by rfl):PG X (.Tuple es k pos) (gTup X.K n t):=by
 intro pins s σ H v u Q I r hw;obtain⟨a,xs,e1,hq,hl,hw⟩:=hw;subst e1;cases r;obtain⟨its,rv,ht,hz⟩:=I.tuple hq;refine assign_Tuple_tuple (I.ok.hd hc) ht (by simp[hn,←hl,rv.length]) hst fun h' hx=>?_
 have I1:Inv X pins σ H { s with heap:=h' }:=I.kept (t':=s.toks) fun b o e=>hx b o (Nat.ne_of_lt (Heap.lt_size e)) e;exact h pins _ σ H xs _ Q I1 (by simpa using rv) hw
def gSub(to ti:TE)(t:T6):TG:=fun v σ H Q=>to σ H fun o H1=>ti σ H1 fun i H2=>t o i v H2 fun H3=>Q σ H3
theorem Acu{o i:Expr}{to ti:TE}{t:T6}(ho:PE X o to)(hi:PE X i ti)(hs:PSet X t)(ha:∀v,assign (.Subscript o i pos) X.env v=(do
   let ov ←holding [v] (eval o X.env)
   let iv ←holding [v,ov] (eval i X.env)
   standAt pos
   holding [v,ov,iv] (setItem ov iv v)
   release [v,ov,iv] []):=by intro _;rfl):PG X (.Subscript o i pos) (gSub to ti t):=by
 intro pins s σ H v u Q I r h;rw[ha];refine wpAny_bind (wpAny_holding (thn (ho pins s σ H _ I h) fun ov s1 zz=>?_));obtain⟨x,H1,I1,r1,q1⟩:=zz;refine wpAny_bind (wpAny_holding (thn (hi pins s1 σ H1 _ I1 q1) fun iv s2 zz=>?_));obtain⟨y,H2,I2,r2,q2⟩:=zz;refine wpAny_bind (wpAny_standAt (wpAny_bind (wpAny_holding (thn (hs pins s2 σ H2 x y v ov iv u _ I2 r1 r2 r q2) fun _ s3 zz=>?_))));obtain⟨H3,I3,q3⟩:=zz;exact wpAny_release ⟨σ,H3,I3,q3⟩
def T5(te:TE)(g:TG):TS:=fun D σ H=>te σ H fun x H1=>g x σ H1 D.nx
theorem Acr{tg e:Expr}{te:TE}{g:TG}(he:PE X e te)(hg:PG X tg g)(hs:swapsWithSole [tg] e pos.line X.env=pure false:=by rfl)(hw:swappedStores [tg] e X.env=pure none:=by rfl)(h1:(assignEach [tg] X.env).map (·.2)=[assign tg X.env]:=by rfl):PS X (.Assign [tg] e pos) (T5 te g):=by
 intro pins s σ H D I h;refine wpAny_Assign_stores (thn (he pins s σ H _ I h) fun v s1 ⟨x,H1,I1,r1,q1⟩=>?_) hs hw;rw[h1];exact thn (hg pins s1 σ H1 x v _ I1 r1 q1) fun _ s2 q=>q
theorem Acn{i:Nat}{x:Str}{e:Expr}{te:TE}{pos':Pos}(hN:X.N.Nodup)(hi:X.N[i]? = some x)(hx:Loc X.env.scope x)(he:PE X e te)(hs:swapsWith e (some (.Name x pos')) pos.line X.env=pure false:=by rfl)(hf:X.fn x=true∨X.env.scope.names.lookup x=some .local:=by first|exact .inl rfl|exact .inr rfl|assumption) :
  PS X (.Assign [.Name x pos'] e pos) (T5 te (Q2 i)):=by
 intro pins s σ H D I h;refine wpAny_Assign_Name (thn (he pins s σ H _ I h) fun v s1 ⟨y,H1,I1,r1,q1⟩=>?_) hs;exact B6 I1 hN hi hx r1 (fun s2 I2=>⟨_,H1,I2,q1⟩) hf
def tPar(i j:Nat)(ta:TA):TS:=fun D σ H=>ta σ H fun vs H1=>∃v w,vs=[v,w]∧D.nx ((σ.set i (some v)).set j (some w)) H1
theorem Aco{i j:Nat}{x y:Str}{a b:Expr}{ta:TA}{px py pt:Pos}{kt k2 pt2}(hc:X.calm=true)(hN:X.N.Nodup)(hi:X.N[i]? = some x)(hj:X.N[j]? = some y)(hij:i≠j)(hx:X.env.scope.names.lookup x=some .local)(hy:X.env.scope.names.lookup y=some .local)(ha:PA X [a,b] ta)(hw:swappedStores [.Tuple [.Name x px,.Name y py] kt pt] (.Tuple [a,b] k2 pt2) X.env=pure (some [x,y]))(hs:swapsWithSole [.Tuple [.Name x px,.Name y py] kt pt] (.Tuple [a,b] k2 pt2) pos.line X.env=pure false:=by rfl) :
  PS X (.Assign [.Tuple [.Name x px,.Name y py] kt pt] (.Tuple [a,b] k2 pt2) pos) (tPar i j ta):=by
 intro pins s σ H D I h;rw[exec_Assign_arm];refine wpAny_bind (wpAny_standAt ?_);rw[hs];refine wpAny_bind (wpAny_pure ?_);rw[if_neg (by decide)]
 refine wpAny_bind (Tuple_ (thn (ha _ pins s σ H _ I h) fun us s1 zz=>?_));obtain⟨vs,H1,I1,r1,q1⟩:=zz;obtain⟨v,w,e1,q1⟩:=q1;subst e1;obtain⟨u1,u2,rfl,rv,rw'⟩:∃u1 u2,us=[u1,u2]∧RelV v u1∧RelV w u2:=by
  cases r1 with
  |cons p q=>
   cases q with
   |cons p' q'=>
    cases q';exact⟨_,_,rfl,p,p'⟩
 refine wpAny_newObj_type ?_ (by show 2≤sizeLine;decide)
 have I2:Inv X pins σ H1 { s1 with heap:=s1.heap.push { cls:=.type "tuple",data:=.seq [u1,u2].toArray } }:=I1.kept (t':=s1.toks) fun b o e=>Heap.get?_push_of_some _ e;rw[hw];refine wpAny_bind (wpAny_pure ?_);show wpAny (model X.prog X.w) X.A (do rule "assign.swapped-stores";let items ←unpackItems (.ref s1.heap.objs.size) 2 none;assignInOrder [fun v=>bindName X.env y v,fun v=>bindName X.env x v] items.reverse;pure Flow.next) _ _ _
 refine wpAny_bind (wpAny_rule (wpAny_bind (unpackItems_tuple (items:=#[u1,u2]) (I.ok.hd hc) (IsTup.new s1.heap _) fun h' hx'=>?_)));have I3:=I2.kept (h':=h') (t':=s1.toks) fun b o e=>hx' b o (Nat.ne_of_lt (Heap.lt_size e)) e;show wpAny _ _ (assignInOrder [fun v=>bindName X.env y v,fun v=>bindName X.env x v] [u2,u1] >>= fun _=>pure Flow.next) _ _ _;refine wpAny_bind (assignInOrder_cons (wpAny_bindName (B6 I3 hN hj (.inl hy) rw' (fun s2 I4=>?_) (.inr hy))));refine assignInOrder_cons (wpAny_bindName (B6 I4 hN hi (.inl hx) rv (fun s3 I5=>assignInOrder_nil (wpAny_pure ?_)) (.inr hx)));rw[List.set_comm _ _ (Ne.symm hij)] at I5;exact⟨_,H1,I5,q1⟩
def tAug(i:Nat)(te:TE)(ti:TIp):TS:=fun D σ H=>∃x,σ[i]? = some (some x)∧te σ H fun y H1=>ti x y H1 fun z H2=>D.nx (σ.set i (some z)) H2
theorem Acq{i:Nat}{x:Str}{e:Expr}{te:TE}{op:Operator}{ti:TIp}{pos':Pos}(hN:X.N.Nodup)(hi:X.N[i]? = some x)(hx:Loc X.env.scope x)(he:PE X e te)(ho:PIp X op ti)(hf:X.fn x=true∨X.env.scope.names.lookup x=some .local:=by first|exact .inl rfl|exact .inr rfl|assumption) :
  PS X (.AugAssign (.Name x pos') op e pos) (tAug i te ti):=by
 intro pins s σ H D I h;obtain⟨v,e1,h⟩:=h;obtain⟨m,hn,hl⟩:=I.loc;have vis:Vis X.env.scope x:=by rcases hx with k|k;exact .inl k;exact .inr (.inl k)
 obtain⟨u,r,l⟩:=hl i x v hi e1 vis;refine wpAny_AugAssign_Name ?_;have go:wpAny (model X.prog X.w) X.A (eval e X.env) (fun w s₂=>wpAny (model X.prog X.w) X.A (inplaceOp op u w) (fun r s₃=>wpAny (model X.prog X.w) X.A (storeName X.env x r) (fun _=>SP X pins D .next) X.xe s₃) X.xe s₂) X.xe s:=by
  refine thn (he pins s σ H _ I h) fun w s1 zz=>?_;obtain⟨y,H1,I1,r1,q1⟩:=zz;refine thn (ho pins s1 σ H1 v y u w _ I1 r r1 q1) fun z s2 zz=>?_;obtain⟨zv,H2,I2,r2,q2⟩:=zz;exact B6 I2 hN hi hx r2 (fun s3 I3=>⟨_,H2,I3,q2⟩) hf
 rcases l with ⟨hk,hm⟩|⟨hk,c,hc,hcell⟩
 ·exact wpAny_loadName_local I.ok.kind hk hn hm go
 ·rcases hk with hk|hk
  ·exact wpAny_loadName_cell I.ok.kind hk hc hcell go
  ·rcases hx with k|k
   ·have:X.env.scope.names.lookup x=some .free:=hk
    rw[k] at this;cases this
   ·have:X.env.scope.names.lookup x=some .free:=hk
    rw[k] at this;cases this
def ipI(f:Int→Int→Int):TIp:=fun x y H Q=>∃i j,x=.int i∧y=.int j∧Q (.int (f i j)) H
theorem Ad1:PIp X .Add (ipI fun i j=>i+j):=by
 intro pins s σ H x y v u Q I r1 r2 h;obtain⟨i,j,e1,e2,q⟩:=h;subst e1;subst e2;obtain⟨t,rfl⟩:=r1;obtain⟨t',rfl⟩:=r2;exact iadd_int ⟨.int _,H,I.tok _,⟨_,rfl⟩,q⟩
def Abo(c:TT)(tb:TS):TS:=fun D σ H=>∃W:Nat→St→Hp→Prop,(∃m,W m σ H)∧∀m σ H,W m σ H→
 c σ H fun b H1=>if b=true then ∃N:St→Hp→Prop,(∀σ' H',N σ' H'→∃m',m'<m∧W m' σ' H')∧tb { D with nx:=N,ct:=N,bk:=D.nx } σ H1 else D.nx σ H1
theorem Wb{c:Expr}{body:List Stmt}{tc:TT}{tb:TS}(hp:PassesOwn (model X.prog X.w) X.A X.env X.xe)(hc:PT X c tc)(hb:PSs X body tb):PS X (.While c body [] pos) (Abo tc tb):=by
 intro pins s σ H D I h;obtain⟨W,⟨m0,w0⟩,turn⟩:=h;refine wpAny_While (codeAny_whileLoop (fun n s'=>∃σ' H',Inv X pins σ' H' s'∧W n σ' H') ?_ m0 ⟨σ,H,I,w0⟩);rintro n s1 ⟨σ1,H1,I1,w1⟩;refine wpAny_passesOwn hp (thn (hc pins s1 σ1 H1 _ I1 (turn n σ1 H1 w1)) fun b s2 zz=>?_);obtain⟨H2,I2,q2⟩:=zz;cases b with
 |true=>
  obtain⟨N,hN,q2⟩:=q2;rw[if_pos rfl];refine wpAny_passesOwn hp (thn (hb pins s2 σ1 H2 _ I2 q2) fun f s3 q3=>?_);cases f with
  |next=>
   obtain⟨σ3,H3,I3,n3⟩:=q3;obtain⟨m',hm,w3⟩:=hN σ3 H3 n3;exact⟨m',hm,σ3,H3,I3,w3⟩
  |cont=>
   obtain⟨σ3,H3,I3,n3⟩:=q3;obtain⟨m',hm,w3⟩:=hN σ3 H3 n3;exact⟨m',hm,σ3,H3,I3,w3⟩
  |brk=>exact q3
  |ret v=>exact q3
 |false=>
  rw[if_neg Bool.false_ne_true];exact wpAny_execs_nil ⟨σ1,H2,I2,q2⟩
end
structure It where
 go:Nat→Hp→Prop
 yld:Nat→Hp→V→Hp→Prop
 stop:Nat→Hp→Prop
def Ej(X:Cx)(pins:List (Addr×Obj))(H:Hp)(b:Addr):Prop:=
 H b=none∧b≠X.env.locals∧b ∉ X.fs∧(b∈X.ex∨X.s₀.heap.objs.size≤b)∧(∀x c,X.env.cells.lookup x=some c→c≠b)∧∀p∈X.pn++pins,p.1≠b
theorem Inv.fpOk{X:Cx}{pins:List (Addr×Obj)}{σ:St}{H H':Hp}{s:Shared}{b:Addr}(I:Inv X pins σ H s)(hb:s.heap.objs.size≤b)(hn:H' b=none):Ej X pins H' b:=by
 refine⟨hn,Nat.ne_of_gt (Nat.lt_of_lt_of_le I.lt hb),I.nofs hb,.inr (Nat.le_trans I.sz hb),fun x c e z=>?_,fun p hp z=>?_⟩
 ·obtain⟨v,q⟩:=I.cell x c e;exact absurd (Nat.lt_of_lt_of_le q.lt (by rw[z];exact hb)) (Nat.lt_irrefl _)
 ·exact absurd (Nat.lt_of_lt_of_le (Heap.lt_size (I.pin p hp).1) (by rw[z];exact hb)) (Nat.lt_irrefl _)
structure Turn(P:Program)(w:World)(K:W.Frag)(tg:Expr)(J:It)(fp:List Addr)(it:Addr)(tn:Nat→Heap→Prop):Prop where
 mem:it∈fp
 obj:∀i h,tn i h→∀b∈fp,∃o,h.get? b=some o∧∀v,o.data≠.cell v
 keep:∀i h h',tn i h→(∀b∈fp,∀o,h.get? b=some o→h'.get? b=some o)→tn i h'
 item:∀(X:Cx),X.prog=P→X.w=w→X.K=K→X.calm=true→∀(i:Nat) (pins:List (Addr×Obj)) (s:Shared) (σ:St) (H:Hp) (E:Value→Shared→Prop),Inv X pins σ H s→(∀b∈fp,Ej X pins H b)→tn i s.heap→J.go i H→
  wpAny (model P w) X.A (pyNext (.ref it)) (fun r s1=>∃u,r=some u∧
   wpAny (model P w) X.A (letOwnedTupleGo tg (.ref it) u) (fun _ s2=>∃x H',Inv X pins σ H' s2∧RelV x u∧J.yld i H x H'∧tn (i+1) s2.heap∧∀b∈fp,H' b=none) E s1) E s
 done:∀(X:Cx),X.prog=P→X.w=w→X.K=K→X.calm=true→∀(i:Nat) (pins:List (Addr×Obj)) (s:Shared) (σ:St) (H:Hp) (E:Value→Shared→Prop),Inv X pins σ H s→(∀b∈fp,Ej X pins H b)→tn i s.heap→J.stop i H→
  wpAny (model P w) X.A (pyNext (.ref it)) (fun r s1=>r=none∧Inv X pins σ H s1) E s
 self:∀(A:Around) (i:Nat) (s:Shared) (Q:Value→Shared→Prop) (E:Value→Shared→Prop),tn i s.heap→Q (.ref it) s→wpAny (model P w) A (pyIter (.ref it)) Q E s
abbrev TI:=St→Hp→(It→Hp→Prop)→Prop
def PIE(X:Cx)(pins:List (Addr×Obj))(σ:St)(tg:Expr)(R:It→Hp→Prop)(itv:Value)(s2:Shared):Prop:=
 ∃(it:Addr) (fp:List Addr) (tn:Nat→Heap→Prop) (J:It) (H':Hp),itv=.ref it∧Inv X pins σ H' s2∧Turn X.prog X.w X.K tg J fp it tn∧tn 0 s2.heap∧(∀b∈fp,Ej X pins H' b)∧R J H'
def PI(X:Cx)(tg iter:Expr)(wi:TI):Prop:=
 ∀(pins:List (Addr×Obj)) (s:Shared) (σ:St) (H:Hp) (R:It→Hp→Prop),Inv X pins σ H s→wi σ H R→
  wpAny (model X.prog X.w) X.A (eval iter X.env) (fun v s1=>wpAny (model X.prog X.w) X.A (pyIter v) (PIE X pins σ tg R) X.xe s1) X.xe s

theorem Uo {M:Model} {A:Around} {E:Value→Shared→Prop} {s:Shared} {tg:Expr} {it:Addr} {u:Value} {o:Obj} {n:String} {vs:Array Value} {Q:Unit→Shared→Prop} (ho:s.heap.get? it=some o) (hc:o.cls=.type n) (hd:o.data=.fields vs)
    (hn:["enumerate", "zip", "dict_itemiterator", "dict_reverseitemiterator", "odict_iterator", "itertools.zip_longest", "itertools.pairwise"].contains n=false) (hQ:Q () s):wpAny M A (letOwnedTupleGo tg (.ref it) u) Q E s:=by
  unfold letOwnedTupleGo;cases tg<;>first
    | exact wpAny_pure hQ
    | (cases u<;>first
        | exact wpAny_pure hQ
        | (refine wpAny_bind (wpAny_load ho ?_)
           rw [hc,hd];show wpAny M A (if (["enumerate", "zip", "dict_itemiterator", "dict_reverseitemiterator", "odict_iterator", "itertools.zip_longest", "itertools.pairwise"].contains n&&vs[0]? == some (rawInt _))=true then _ else _) Q E s;rw [if_neg (by intro h;rw [hn,Bool.false_and] at h;cases h)]
           exact wpAny_pure hQ))

def Itl(K:W.Frag)(a:Addr):It:=
 ⟨fun i H=>∃xs x,SqL K H a xs∧xs[i]? = some x,fun i H x H'=>H'=H∧∀xs,SqL K H a xs→xs[i]? = some x,fun i H=>∃xs,SqL K H a xs∧xs.length≤i⟩
def Itt(K:W.Frag)(a:Addr):It:=
 ⟨fun i H=>∃xs x,SqT K H a xs∧xs[i]? = some x,fun i H x H'=>H'=H∧∀xs,SqT K H a xs→xs[i]? = some x,fun i H=>∃xs,SqT K H a xs∧xs.length≤i⟩
def Itr(lo:Int)(n:Nat):It:=⟨fun i _=>i<n,fun i H x H'=>H'=H∧x=.int (lo+i),fun i _=>n≤i⟩
theorem Sa{P:Program}{w:World}{K:W.Frag}{tg:Expr}(a it:Addr):Turn P w K tg (Itl K a) [it] it (fun i h=>h.IsListIter it a i) where
 mem:=by simp
 obj:=fun i h st b hb=>by
  have e:b=it:=by simpa using hb
  subst e;obtain⟨o,e,c,d⟩:=st;exact⟨o,e,fun v z=>by rw[d] at z;cases z⟩
 keep:=fun i h h' st k=>st.at fun o e=>k it (by simp) o e
 item:=by
  intro X hP hw hK hc i pins s σ H E I hf st hg;subst hP hw hK;obtain⟨xs,x,hq,hx⟩:=hg;obtain⟨its,rv,p,hz⟩:=I.list hq;obtain⟨u,hu,ru⟩:=rv.get hx;obtain⟨f0,f1,f2,f3,f4,f5⟩:=hf it (by simp)
  refine wpAny_pyNext_list_item st p.isList (x:=u) (by simpa using hu) fun h' st' sb=>?_
  have I1:Inv X pins σ H { s with heap:=h' }:=I.turned (t':=s.toks) (fun b o hb e=>(sb.2 b hb).trans e) f0 f1 f3 f4 f5;obtain⟨o,e,c,d⟩:=id st';exact⟨u,rfl,Uo (s:={ s with heap:=h' }) e c d (by decide) ⟨x,H,I1,ru,⟨rfl,fun ys hy=>by rw[I.list_inj hy hq];exact hx⟩,st',fun b hb=>(hf b hb).1⟩⟩
 done:=by
  intro X hP hw hK hc i pins s σ H E I hf st hg;subst hP hw hK;obtain⟨xs,hq,hx⟩:=hg;obtain⟨its,rv,p,hz⟩:=I.list hq;obtain⟨f0,f1,f2,f3,f4,f5⟩:=hf it (by simp)
  have hl:=rv.length;exact wpAny_pyNext_list_end (I.ok.hd hc) st p.isList (by simp;omega) fun h' eb=>⟨rfl,I.turned (t':=s.toks) (fun b o hb e=>eb b o hb e) f0 f1 f3 f4 f5⟩
 self:=fun _ _ _ _ _ st h=>wpAny_pyIter_listiter st h
theorem Pu{P:Program}{w:World}{K:W.Frag}{tg:Expr}(a it:Addr):Turn P w K tg (Itt K a) [it] it (fun i h=>h.IsTupleIter it a i) where
 mem:=by simp
 obj:=fun i h st b hb=>by
  have e:b=it:=by simpa using hb
  subst e;obtain⟨o,e,c,d⟩:=st;exact⟨o,e,fun v z=>by rw[d] at z;cases z⟩
 keep:=fun i h h' st k=>st.at fun o e=>k it (by simp) o e
 item:=by
  intro X hP hw hK hc i pins s σ H E I hf st hg;subst hP hw hK;obtain⟨xs,x,hq,hx⟩:=hg;obtain⟨its,rv,p,hz⟩:=I.tuple hq;obtain⟨u,hu,ru⟩:=rv.get hx;obtain⟨f0,f1,f2,f3,f4,f5⟩:=hf it (by simp)
  refine wpAny_pyNext_tuple_item st (show s.heap.IsTuple a its.toArray from p) (x:=u) (by simpa using hu) fun h' st' sb=>?_
  have I1:Inv X pins σ H { s with heap:=h' }:=I.turned (t':=s.toks) (fun b o hb e=>(sb.2 b hb).trans e) f0 f1 f3 f4 f5;obtain⟨o,e,c,d⟩:=id st';exact⟨u,rfl,Uo (s:={ s with heap:=h' }) e c d (by decide) ⟨x,H,I1,ru,⟨rfl,fun ys hy=>by rw[I.tuple_inj hy hq];exact hx⟩,st',fun b hb=>(hf b hb).1⟩⟩
 done:=by
  intro X hP hw hK hc i pins s σ H E I hf st hg;subst hP hw hK;obtain⟨xs,hq,hx⟩:=hg;obtain⟨its,rv,p,hz⟩:=I.tuple hq;obtain⟨f0,f1,f2,f3,f4,f5⟩:=hf it (by simp)
  have hl:=rv.length;exact wpAny_pyNext_tuple_end (I.ok.hd hc) st (show s.heap.IsTuple a its.toArray from p) (by simp;omega) fun h' eb=>⟨rfl,I.turned (t':=s.toks) (fun b o hb e=>eb b o hb e) f0 f1 f3 f4 f5⟩
 self:=fun _ _ _ _ _ st h=>wpAny_pyIter_tupleiter st h
theorem Pv{P:Program}{w:World}{K:W.Frag}{tg:Expr}(it:Addr)(lo:Int)(n:Nat):Turn P w K tg (Itr lo n) [it] it (fun i h=>IsRangeIter h it (lo+(i:Nat)*1) ((n:Int)-(i:Nat)) 1) where
 mem:=by simp
 obj:=fun i h st b hb=>by
  have e:b=it:=by simpa using hb
  subst e;exact⟨_,st,fun v z=>by
   have z':Data.fields _=Data.cell v:=z;cases z'⟩
 keep:=fun i h h' st k=>k it (by simp) _ st
 item:=by
  intro X hP hw hK hc i pins s σ H E I hf st hg;subst hP hw hK;obtain⟨f0,f1,f2,f3,f4,f5⟩:=hf it (by simp)
  have W:=Walks.range (prog:=X.prog) (w:=X.w) (I.ok.hd hc) it lo 1 n;refine W.item i s _ _ hg st fun v h' tk hv st' kk=>?_;obtain⟨t,rfl⟩:=hv;have I1:Inv X pins σ H { s with heap:=h',toks:=tk }:=I.turned (fun b o hb e=>kk b o (by simpa using hb) e) f0 f1 f3 f4 f5
  refine⟨_,rfl,Uo (s:={ s with heap:=h',toks:=tk }) (n:="range_iterator") st' rfl rfl (by decide) ⟨.int (lo+i),H,I1,⟨t,?_⟩,⟨rfl,rfl⟩,st',fun b hb=>(hf b hb).1⟩⟩
  rw[Int.mul_one]
 done:=by
  intro X hP hw hK hc i pins s σ H E I hf st hg;subst hP hw hK;obtain⟨f0,f1,f2,f3,f4,f5⟩:=hf it (by simp)
  exact wpAny_pyNext_range_end (I.ok.hd hc) st (by have:n≤i:=hg;omega) fun h' eb=>⟨rfl,I.turned (t':=s.toks) (fun b o hb e=>eb b o hb e) f0 f1 f3 f4 f5⟩
 self:=fun _ _ _ _ _ st h=>wpAny_pyIter_rangeiter st h
end L2
namespace L2
open PySem PySem.Spec PyProof.Rows
section
variable{X:Cx}{tg:Expr}
theorem Nh{pins:List (Addr×Obj)}{σ:St}{H:Hp}{s:Shared}{R:It→Hp→Prop}{E:Value→Shared→Prop}{lo hi:Int}{t u v:Tok}{tk:Nat}(I:Inv X pins σ H s)(h1 : -(2 ^ 62)≤lo)(h2:lo<2 ^ 62)(h3 : -(2 ^ 62)≤hi)(h4:hi<2 ^ 62)(q:R (Itr lo (hi-lo).toNat) H):wpAny (model X.prog X.w) X.A (pyIter (.ref s.heap.objs.size)) (PIE X pins σ tg R) E { s with heap:=s.heap.push { cls:=.type "range",data:=.fields #[.int lo t,.int hi u,.int 1 v] },toks:=tk }:=by
 refine wpAny_pyIter_range (IsRange.new ..) (small_one h1 h2 h3 h4) ?_;have I1:Inv X pins σ H { s with heap:=s.heap.push { cls:=.type "range",data:=.fields #[.int lo t,.int hi u,.int 1 v] },toks:=tk }:=I.kept fun b o e=>Heap.get?_push_of_some _ e;refine⟨(s.heap.push { cls:=.type "range",data:=.fields #[.int lo t,.int hi u,.int 1 v] }).objs.size,[(s.heap.push { cls:=.type "range",data:=.fields #[.int lo t,.int hi u,.int 1 v] }).objs.size],_,_,H,rfl,
  I1.kept (t':=tk) fun b o e=>Heap.get?_push_of_some _ e,Pv _ lo (hi-lo).toNat,?_,fun b hb=>?_,q⟩
 ·have e1:lo+((0:Nat):Int)*1=lo:=by simp
  have e2:(((hi-lo).toNat:Nat):Int)-((0:Nat):Int)=Builtin.Range.rangeSize lo hi 1:=by rw[rangeSize_one];split<;>omega
  show IsRangeIter _ _ (lo+((0:Nat):Int)*1) ((((hi-lo).toNat:Nat):Int)-((0:Nat):Int)) 1;rw[e1,e2];exact Heap.get?_push_size _ rfl
 ·have e:b=(s.heap.push { cls:=.type "range",data:=.fields #[.int lo t,.int hi u,.int 1 v] }).objs.size:=by simpa using hb
  subst e;exact I1.fpOk (Nat.le_refl _) (I1.hok.fresh (Nat.le_refl _))
def iRng1(ta:TA):TI:=fun σ H R=>ta σ H fun vs H1=>∃j:Int,vs=[.int j]∧-(2 ^ 62)≤j∧j<2 ^ 62∧R (Itr 0 j.toNat) H1
def iRng2(ta:TA):TI:=fun σ H R=>ta σ H fun vs H1=>∃i j:Int,vs=[.int i,.int j]∧(-(2 ^ 62)≤i∧i<2 ^ 62∧-(2 ^ 62)≤j∧j<2 ^ 62)∧R (Itr i (j-i).toNat) H1
theorem Kw{a:Expr}{ta:TA}{p pos:Pos}(hg:Gl X "range")(hm:X.mg "range" = none)(ha:PA X [a] ta)(hs:starEach [a] X.env=[(false,eval a X.env)]:=by rfl):PI X tg (.Call (.Name "range" p) [a] [] pos) (iRng1 ta):=by
 intro pins s σ H R I h;refine Call_ (Dw I hg hm boot_range (PyProof.Rows.callWith_type1 (thn (ha pos pins s σ H _ I h) fun us s1 ⟨vs,H1,I1,r1,q1⟩=>?_) hs rfl));obtain⟨j,e,q1,q2,q⟩:=q1;subst e;cases r1 with
 |cons r rr=>
  cases rr;obtain⟨t,rfl⟩:=r;exact call_range_1 (Nh I1 (by omega) (by omega) q1 q2 (by simpa using q))
theorem Kv{a b:Expr}{ta:TA}{p pos:Pos}(hg:Gl X "range")(hm:X.mg "range" = none)(ha:PA X [a,b] ta)(hs:starEach [a,b] X.env=[(false,eval a X.env),(false,eval b X.env)]:=by rfl)(hs2:starEach [b] X.env=[(false,eval b X.env)]:=by rfl) :
  PI X tg (.Call (.Name "range" p) [a,b] [] pos) (iRng2 ta):=by
 intro pins s σ H R I h;refine Call_ (Dw I hg hm boot_range (PyProof.Rows.callWith_type1 (thn (ha pos pins s σ H _ I h) fun us s1 ⟨vs,H1,I1,r1,q1⟩=>?_) (by rw[hs,hs2]) (by rw[hs2];rfl)))
 obtain⟨i,j,e,⟨q1,q2,q3,q4⟩,q⟩:=q1;subst e;cases r1 with
 |cons r rr=>
  cases rr with
  |cons r' rr=>
   cases rr;obtain⟨t,rfl⟩:=r;obtain⟨t',rfl⟩:=r';exact call_range_2 (Nh I1 q1 q2 q3 q4 q)

def tFor(wi:TI)(g:TG)(tb:TS):TS:=fun D σ H=>wi σ H fun J H1=>∃W:Nat→Nat→St→Hp→Prop,(∃m,W 0 m σ H1)∧∀i m σ H,W i m σ H→
 (J.stop i H∧D.nx σ H)∨(J.go i H∧∃N:St→Hp→Prop,(∀σ' H',N σ' H'→∃m',m'<m∧W (i+1) m' σ' H')∧∀x H',J.yld i H x H'→g x σ H' fun σ2 H2=>tb { D with nx:=N,ct:=N,bk:=D.nx } σ2 H2)
def C3(fp:List Addr)(h:Heap):List (Addr×Obj):=fp.filterMap fun b=>(h.get? b).map fun o=>(b,o)
theorem Bm{fp:List Addr}{h:Heap}{b:Addr}{o:Obj}(hb:b∈fp)(e:h.get? b=some o):(b,o)∈C3 fp h:=List.mem_filterMap.mpr ⟨b,hb,by rw[e];rfl⟩
theorem S2{fp:List Addr}{h:Heap}{p:Addr×Obj}(hp:p∈C3 fp h):p.1∈fp∧h.get? p.1=some p.2:=by
 obtain⟨b,hb,e⟩:=List.mem_filterMap.mp hp;cases q:h.get? b with
 |none=>rw[q] at e;cases e
 |some o=>
  rw[q] at e;have e':(b,o)=p:=Option.some.inj e;subst e';exact⟨hb,q⟩
theorem Inv.pinned{pins:List (Addr×Obj)}{σ:St}{H:Hp}{s:Shared}{fp:List Addr}(I:Inv X pins σ H s)(hf:∀b∈fp,Ej X pins H b)(ho:∀b∈fp,∃o,s.heap.get? b=some o∧∀v,o.data≠.cell v):Inv X (pins++C3 fp s.heap) σ H s:=
 I.pins_of fun p hp=>(List.mem_append.mp hp).elim (fun z=>I.pin p (List.mem_append_right _ z)) fun z=>by
  obtain⟨hb,e⟩:=S2 z;obtain⟨f0,f1,f2,_⟩:=hf p.1 hb;obtain⟨o,e',d⟩:=ho p.1 hb;rw[e] at e';cases e';exact⟨e,f0,f1,f2,d⟩
theorem Inv.unpinned{pins pl:List (Addr×Obj)}{σ:St}{H:Hp}{s:Shared}(I:Inv X (pins++pl) σ H s):Inv X pins σ H s:=I.pins_of fun p hp=>I.pin p (List.mem_append_right _ (List.mem_append_left _ hp))
theorem Lo{iter:Expr}{body:List Stmt}{wi:TI}{g:TG}{tb:TS}{pos:Pos}(hp:PassesOwn (model X.prog X.w) X.A X.env X.xe)(hc:X.calm=true)(hi:PI X tg iter wi)(hg:PG X tg g)(hb:PSs X body tb)(hs:∀x,foldedSetIterable iter X.env x=pure x:=by intro _;rfl):PS X (.For tg iter body [] pos) (tFor wi g tb):=by
 intro pins s σ H D I h;refine wpAny_For (thn (hi pins s σ H _ I h) fun v s1 h1=>thn h1 fun itv s2 h2=>?_) hs;obtain⟨it,fp,tn,J,H2,e,I2,T,st2,f2,W,⟨m0,w0⟩,turn⟩:=h2;subst e
 -- what stays true of the iterator's objects through the loop
 have stat:∀{H':Hp},(∀b∈fp,H' b=none)→∀b∈fp,Ej X pins H' b:=fun hn b hb=>⟨hn b hb,(f2 b hb).2⟩;refine codeAny_forLoop_any (fun n s'=>∃i σ' H',Inv X pins σ' H' s'∧tn i s'.heap∧(∀b∈fp,H' b=none)∧W i n σ' H') ?_ m0 ⟨0,σ,H2,I2,st2,fun b hb=>(f2 b hb).1,w0⟩;rintro n s3 ⟨i,σ3,H3,I3,st3,fr3,w3⟩;rcases turn i n σ3 H3 w3 with ⟨stop,qn⟩|⟨go,N,hN,step⟩
 ·refine wpAny_passesOwn hp (thn (T.done X rfl rfl rfl hc i pins s3 σ3 H3 X.xe I3 (stat fr3) st3 stop) fun r s4 zz=>?_);obtain⟨hr,I4⟩:=zz;subst hr;exact wpAny_execs_nil ⟨σ3,H3,I4,qn⟩
 ·refine wpAny_passesOwn hp (thn (T.item X rfl rfl rfl hc i pins s3 σ3 H3 X.xe I3 (stat fr3) st3 go) fun r s4 zz=>?_);obtain⟨u,hr,h4⟩:=zz;subst hr;refine wpAny_passesOwn hp (thn h4 fun _ s5 zz=>?_);obtain⟨x,H5,I5,r5,y5,st5,fr5⟩:=zz;have I5':=I5.pinned (stat fr5) (T.obj _ _ st5);refine wpAny_passesOwn hp (thn (hg _ s5 σ3 H5 x u _ I5' r5 (step x H5 y5)) fun _ s6 zz=>?_);obtain⟨σ6,H6,I6,q6⟩:=zz;refine wpAny_passesOwn hp (thn (hb _ s6 σ6 H6 _ I6 q6) fun f s7 q7=>?_);have again:∀{σ7:St} {H7:Hp},Inv X (pins++C3 fp s5.heap) σ7 H7 s7→N σ7 H7→∃m,m<n∧∃i σ' H',Inv X pins σ' H' s7∧tn i s7.heap∧(∀b∈fp,H' b=none)∧W i m σ' H':=fun {σ7 H7} I7 n7=>by
   obtain⟨m',hm,w7⟩:=hN σ7 H7 n7;refine⟨m',hm,i+1,σ7,H7,I7.unpinned,T.keep _ _ _ st5 fun b hb o e=>(I7.pin (b,o) (List.mem_append_right _ (List.mem_append_right _ (Bm hb e)))).1,fun b hb=>?_,w7⟩;obtain⟨o,e,d⟩:=T.obj _ _ st5 b hb;exact(I7.pin (b,o) (List.mem_append_right _ (List.mem_append_right _ (Bm hb e)))).2.1
  cases f with
  |next=>obtain⟨σ7,H7,I7,n7⟩:=q7;exact again I7 n7
  |cont=>obtain⟨σ7,H7,I7,n7⟩:=q7;exact again I7 n7
  |brk=>obtain⟨σ7,H7,I7,q7⟩:=q7;exact⟨σ7,H7,I7.unpinned,q7⟩
  |ret v=>obtain⟨x7,σ7,H7,I7,r7,q7⟩:=q7;exact⟨x7,σ7,H7,I7.unpinned,r7,q7⟩
end
end L2
namespace L2
open PySem PySem.Spec PyProof.Rows
abbrev R2:=V→V→Hp→VK→Prop
def OpR(X:Cx)(f:Value→Value→Sem Value)(r:R2):Prop:=
 ∀(pins:List (Addr×Obj)) (s:Shared) (σ:St) (H:Hp) (x y:V) (v u:Value) (Q:VK),Inv X pins σ H s→RelV x v→RelV y u→r x y H Q→
  wpAny (model X.prog X.w) X.A (f v u) (EP X pins σ Q) X.xe s
def UnR(X:Cx)(f:Value→Sem Value)(r:V→Hp→VK→Prop):Prop:=
 ∀(pins:List (Addr×Obj)) (s:Shared) (σ:St) (H:Hp) (x:V) (v:Value) (Q:VK),Inv X pins σ H s→RelV x v→r x H Q→
  wpAny (model X.prog X.w) X.A (f v) (EP X pins σ Q) X.xe s
def CallR(X:Cx)(f:Value)(r:List V→Hp→VK→Prop):Prop:=
 ∀(pins:List (Addr×Obj)) (s:Shared) (σ:St) (H:Hp) (xs:List V) (us:List Value) (Q:VK),Inv X pins σ H s→Vals xs us→r xs H Q→
  wpAny (model X.prog X.w) X.A (call f us) (EP X pins σ Q) X.xe s
def TruR(X:Cx)(r:V→Hp→(Bool→Hp→Prop)→Prop):Prop:=
 ∀(pins:List (Addr×Obj)) (s:Shared) (σ:St) (H:Hp) (x:V) (v:Value) (Q:Bool→Hp→Prop),Inv X pins σ H s→RelV x v→r x H Q→
  wpAny (model X.prog X.w) X.A (truthy v) (TP X pins σ Q) X.xe s

def tOp(r:R2)(ta tb:TE):TE:=fun σ H Q=>ta σ H fun x H1=>tb σ H1 fun y H2=>r x y H2 Q
def tUn(r:V→Hp→VK→Prop)(ta:TE):TE:=fun σ H Q=>ta σ H fun x H1=>r x H1 Q
def rI(C:Int→Int→Prop)(g:Int→Int→V):R2:=fun x y H Q=>∃i j,x=.int i∧y=.int j∧C i j∧Q (g i j) H
def rI0(g:Int→Int→V):R2:=fun x y H Q=>∃i j,x=.int i∧y=.int j∧Q (g i j) H
def rU(g:Int→V):V→Hp→VK→Prop:=fun x H Q=>∃i,x=.int i∧Q (g i) H

section
variable{X:Cx}{a b c:Expr}{ta tb tc:TE}{pos:Pos}
theorem binT(ha:PE X a ta)(hb:PE X b tb){pins:List (Addr×Obj)}{s:Shared}{σ:St}{H:Hp}{R:V→V→Hp→Prop}(I:Inv X pins σ H s)(h:ta σ H fun x H1=>tb σ H1 fun y H2=>R x y H2){Q:Value→Shared→Prop}{f:Value→Value→Sem Value}(hf:∀v u s2 x y H2,Inv X pins σ H2 s2→RelV x v→RelV y u→R x y H2→wpAny (model X.prog X.w) X.A (f v u) Q X.xe s2) :
  wpAny (model X.prog X.w) X.A (eval a X.env) (fun v s₁=>wpAny (model X.prog X.w) X.A (eval b X.env) (fun u s₂=>wpAny (model X.prog X.w) X.A (f v u) Q X.xe s₂) X.xe s₁) X.xe s:=by
 refine thn (ha pins s σ H _ I h) fun v s1 zz=>?_;obtain⟨x,H1,I1,r1,q1⟩:=zz;refine thn (hb pins s1 σ H1 _ I1 q1) fun u s2 zz=>?_;obtain⟨y,H2,I2,r2,q2⟩:=zz;exact hf v u s2 x y H2 I2 r1 r2 q2

theorem pe_op{op:Operator}{r:R2}(ho:OpR X (binaryOp op) r)(ha:PE X a ta)(hb:PE X b tb):PE X (.BinOp a op b pos) (tOp r ta tb):=by
 intro pins s σ H Q I h;exact wpAny_BinOp (binT ha hb I h fun v u s2 x y H2 I2 rx ry q=>ho pins s2 σ H2 x y v u Q I2 rx ry q)
theorem pe_un{op:UnaryOp}{r:V→Hp→VK→Prop}(ho:UnR X (unaryOp op) r)(ha:PE X a ta):PE X (.UnaryOp op a pos) (tUn r ta):=by
 intro pins s σ H Q I h;exact UnaryOp_ (thn (ha pins s σ H _ I h) fun v s1 ⟨x,H1,I1,r1,q1⟩=>ho pins s1 σ H1 x v Q I1 r1 q1)
theorem opI{f:Value→Value→Sem Value}{C:Int→Int→Prop}{g:Int→Int→Int}(rule:∀(i j:Int) (t u:Tok) (s:Shared) (Q:Value→Shared→Prop) (E:Value→Shared→Prop),C i j→Q (.int (g i j) s.toks) { s with toks:=s.toks+1 }→wpAny (model X.prog X.w) X.A (f (.int i t) (.int j u)) Q E s) :
  OpR X f (rI C fun i j=>.int (g i j)):=by
 intro pins s σ H x y v u Q I rx ry h;obtain⟨i,j,rfl,rfl,hc,q⟩:=h;obtain⟨t,rfl⟩:=rx;obtain⟨t',rfl⟩:=ry;exact rule i j t t' s _ _ hc ⟨.int (g i j),H,I.tok _,⟨_,rfl⟩,q⟩
theorem opI0{f:Value→Value→Sem Value}{g:Int→Int→Int}(rule:∀(i j:Int) (t u:Tok) (s:Shared) (Q:Value→Shared→Prop) (E:Value→Shared→Prop),Q (.int (g i j) s.toks) { s with toks:=s.toks+1 }→wpAny (model X.prog X.w) X.A (f (.int i t) (.int j u)) Q E s) :
  OpR X f (rI0 fun i j=>.int (g i j)):=by
 intro pins s σ H x y v u Q I rx ry h;obtain⟨i,j,rfl,rfl,q⟩:=h;obtain⟨t,rfl⟩:=rx;obtain⟨t',rfl⟩:=ry;exact rule i j t t' s _ _ ⟨.int (g i j),H,I.tok _,⟨_,rfl⟩,q⟩
theorem opB0{f:Value→Value→Sem Value}{g:Int→Int→Bool}(rule:∀(i j:Int) (t u:Tok) (s:Shared) (Q:Value→Shared→Prop) (E:Value→Shared→Prop),Q (.bool (g i j)) s→wpAny (model X.prog X.w) X.A (f (.int i t) (.int j u)) Q E s) :
  OpR X f (rI0 fun i j=>.bl (g i j)):=by
 intro pins s σ H x y v u Q I rx ry h;obtain⟨i,j,rfl,rfl,q⟩:=h;obtain⟨t,rfl⟩:=rx;obtain⟨t',rfl⟩:=ry;exact rule i j t t' s _ _ ⟨.bl (g i j),H,I,rfl,q⟩

def T7(i j:Int):Prop:=0<j∧j<1073741824
def CMul(i j:Int):Prop:=(-(2 ^ 64)<i∧i<2 ^ 64)∨(-(2 ^ 64)<j∧j<2 ^ 64)
theorem CMul.ok{i j:Int}(h:CMul i j):IntMulOk i j:=by
 rcases h with ⟨h1,h2⟩|⟨h1,h2⟩
 ·exact .of_left (intBits_le_64 h1 h2)
 ·exact .of_right (intBits_le_64 h1 h2)
theorem Adb:OpR X (binaryOp .Add) (rI0 fun i j=>.int (i+j)):=opI0 fun _ _ _ _ _ _ _ q=>add_int q
theorem Ac5:OpR X (binaryOp .Sub) (rI0 fun i j=>.int (i-j)):=opI0 fun _ _ _ _ _ _ _ q=>sub_int q
theorem Ac7:OpR X (binaryOp .Mult) (rI CMul fun i j=>.int (i*j)):=opI fun _ _ _ _ _ _ _ hc q=>mul_int q hc.ok
theorem Y8:OpR X (binaryOp .FloorDiv) (rI T7 fun i j=>.int (i / j)):=opI fun i j _ _ _ _ _ hc q=>by
 have h1:(0:Int)<j:=hc.1;have h2:j<1073741824:=hc.2;exact floordiv_int (by omega) (by rw[Int.fdiv_eq_ediv_of_nonneg i (by omega)];exact q) (.inl (PyProof.noPylong_small (by omega)))
theorem Ac8:OpR X (binaryOp .Mod) (rI (fun _ j=>0<j) fun i j=>.int (i % j)):=opI fun i j _ _ _ _ _ hc q=>by
 have h1:(0:Int)<j:=hc;exact mod_int' (by omega) (by rw[Int.fmod_eq_emod_of_nonneg i (by omega)];exact q)
theorem unI{f:Value→Sem Value}{g:Int→Int}(rule:∀(i:Int) (t:Tok) (s:Shared) (Q:Value→Shared→Prop) (E:Value→Shared→Prop),Q (.int (g i) s.toks) { s with toks:=s.toks+1 }→wpAny (model X.prog X.w) X.A (f (.int i t)) Q E s) :
  UnR X f (rU fun i=>.int (g i)):=by
 intro pins s σ H x v Q I rx h;obtain⟨i,rfl,q⟩:=h;obtain⟨t,rfl⟩:=rx;exact rule i t s _ _ ⟨.int (g i),H,I.tok _,⟨_,rfl⟩,q⟩
theorem Abj:UnR X (unaryOp .USub) (rU fun i=>.int (-i)):=unI fun _ _ _ _ _ q=>neg_int q
end
def scal:V→V→Bool
 |.non,.non=>true|.non,.int _=>true|.int _,.non=>true|.non,.bl _=>true|.bl _,.non=>true|.non,.str _=>true|.str _,.non=>true
 |.int _,.int _=>true|.bl _,.bl _=>true|.str _,.str _=>true|.byt _,.byt _=>true
 |.int _,.str _=>true|.str _,.int _=>true|.bl _,.str _=>true|.str _,.bl _=>true
 |_,_=>false
def rEq:R2:=fun x y H Q=>scal x y=true∧Q (.bl (decide (x=y))) H
def rNe:R2:=fun x y H Q=>scal x y=true∧Q (.bl (!decide (x=y))) H

theorem Rw{i j:Int}:decide (V.int i=V.int j)=(i == j):=by
 rw[Bool.eq_iff_iff];simp
theorem Vh{i j:Bool}:decide (V.bl i=V.bl j)=(i == j):=by
 rw[Bool.eq_iff_iff];simp
theorem Rv{i j:Str}:decide (V.str i=V.str j)=(i == j):=by
 rw[Bool.eq_iff_iff];simp
theorem Rx{i j:Array UInt8}:decide (V.byt i=V.byt j)=(i.toList == j.toList):=by
 rw[Bool.eq_iff_iff];cases i;cases j;simp

section
variable{X:Cx}{a b c:Expr}{ta tb tc:TE}{pos:Pos}
theorem Aq{pins:List (Addr×Obj)}{σ:St}{H:Hp}{s:Shared}{Q:VK}{k k':Bool}(I:Inv X pins σ H s)(q:Q (.bl k) H)(e:k=k'):EP X pins σ Q (.bool k') s:=by
 subst e;exact⟨.bl k,H,I,rfl,q⟩
theorem op_eq:OpR X (compareOp .Eq) rEq:=by
 intro pins s σ H x y v u Q I rx ry h;obtain⟨hs,q⟩:=h;cases x with
 |non=>
  cases rx;cases y with
  |non=>cases ry;exact PySem.EqNone.eq_none_none (Aq I q (by simp))
  |bl j=>cases ry;exact PySem.EqNone.eq_none_bool (Aq I q (by simp))
  |int j=>obtain⟨t',rfl⟩:=ry;exact PySem.EqNone.eq_none_int (Aq I q (by simp))
  |str j=>obtain⟨t',rfl⟩:=ry;exact PySem.EqNone.eq_none_str (Aq I q (by simp))
  |_=>exact absurd (show false=true from hs) Bool.false_ne_true
 |bl i=>
  cases rx;cases y with
  |non=>cases ry;exact PySem.EqNone.eq_bool_none (Aq I q (by simp))
  |bl j=>cases ry;exact eq_bool (Aq I q Vh)
  |str j=>obtain⟨t',rfl⟩:=ry;exact PySem.EqMixed.eq_bool_str (Aq I q (by simp))
  |_=>exact absurd (show false=true from hs) Bool.false_ne_true
 |int i=>
  obtain⟨t,rfl⟩:=rx;cases y with
  |non=>cases ry;exact PySem.EqNone.eq_int_none (Aq I q (by simp))
  |int j=>obtain⟨t',rfl⟩:=ry;exact eq_int (Aq I q Rw)
  |str j=>obtain⟨t',rfl⟩:=ry;exact PySem.EqMixed.eq_int_str (Aq I q (by simp))
  |_=>exact absurd (show false=true from hs) Bool.false_ne_true
 |str i=>
  obtain⟨t,rfl⟩:=rx;cases y with
  |non=>cases ry;exact PySem.EqNone.eq_str_none (Aq I q (by simp))
  |bl j=>cases ry;exact PySem.EqMixed.eq_str_bool (Aq I q (by simp))
  |int j=>obtain⟨t',rfl⟩:=ry;exact PySem.EqMixed.eq_str_int (Aq I q (by simp))
  |str j=>obtain⟨t',rfl⟩:=ry;exact eq_str (Aq I q Rv)
  |_=>exact absurd (show false=true from hs) Bool.false_ne_true
 |byt i=>
  obtain⟨t,rfl⟩:=rx;cases y with
  |byt j=>obtain⟨t',rfl⟩:=ry;exact W.eq_bytes (Aq I q Rx)
  |_=>exact absurd (show false=true from hs) Bool.false_ne_true
 |_=>cases y<;>exact absurd (show false=true from hs) Bool.false_ne_true
theorem op_ne:OpR X (compareOp .NotEq) rNe:=by
 intro pins s σ H x y v u Q I rx ry h;obtain⟨hs,q⟩:=h;cases x with
 |non=>
  cases rx;cases y with
  |non=>cases ry;exact PySem.EqNone.ne_none_none (Aq I q (by simp))
  |bl j=>cases ry;exact PySem.EqNone.ne_none_bool (Aq I q (by simp))
  |int j=>obtain⟨t',rfl⟩:=ry;exact PySem.EqNone.ne_none_int (Aq I q (by simp))
  |str j=>obtain⟨t',rfl⟩:=ry;exact PySem.EqNone.ne_none_str (Aq I q (by simp))
  |_=>exact absurd (show false=true from hs) Bool.false_ne_true
 |bl i=>
  cases rx;cases y with
  |non=>cases ry;exact PySem.EqNone.ne_bool_none (Aq I q (by simp))
  |bl j=>cases ry;exact ne_bool (Aq I q (congrArg not Vh))
  |str j=>obtain⟨t',rfl⟩:=ry;exact PySem.EqMixed.ne_bool_str (Aq I q (by simp))
  |_=>exact absurd (show false=true from hs) Bool.false_ne_true
 |int i=>
  obtain⟨t,rfl⟩:=rx;cases y with
  |non=>cases ry;exact PySem.EqNone.ne_int_none (Aq I q (by simp))
  |int j=>obtain⟨t',rfl⟩:=ry;exact ne_int (Aq I q (congrArg not Rw))
  |str j=>obtain⟨t',rfl⟩:=ry;exact PySem.EqMixed.ne_int_str (Aq I q (by simp))
  |_=>exact absurd (show false=true from hs) Bool.false_ne_true
 |str i=>
  obtain⟨t,rfl⟩:=rx;cases y with
  |non=>cases ry;exact PySem.EqNone.ne_str_none (Aq I q (by simp))
  |bl j=>cases ry;exact PySem.EqMixed.ne_str_bool (Aq I q (by simp))
  |int j=>obtain⟨t',rfl⟩:=ry;exact PySem.EqMixed.ne_str_int (Aq I q (by simp))
  |str j=>obtain⟨t',rfl⟩:=ry;exact ne_str (Aq I q (congrArg not Rv))
  |_=>exact absurd (show false=true from hs) Bool.false_ne_true
 |byt i=>
  obtain⟨t,rfl⟩:=rx;cases y with
  |byt j=>obtain⟨t',rfl⟩:=ry;exact W.ne_bytes (Aq I q (congrArg not Rx))
  |_=>exact absurd (show false=true from hs) Bool.false_ne_true
 |_=>cases y<;>exact absurd (show false=true from hs) Bool.false_ne_true

theorem op_lt:OpR X (compareOp .Lt) (rI0 fun i j=>.bl (decide (i<j))):=opB0 fun _ _ _ _ _ _ _ q=>lt_int q
theorem op_le:OpR X (compareOp .LtE) (rI0 fun i j=>.bl (decide (i≤j))):=opB0 fun _ _ _ _ _ _ _ q=>le_int q
theorem op_gt:OpR X (compareOp .Gt) (rI0 fun i j=>.bl (decide (j<i))):=opB0 fun _ _ _ _ _ _ _ q=>gt_int q
theorem Ac9:OpR X (compareOp .Is) (fun x y H Q=>y=.non∧Q (.bl (decide (x=.non))) H):=by
 intro pins s σ H x y v u Q I rx ry h;obtain⟨rfl,q⟩:=h;cases ry;refine is_none_gen (Aq I q ?_);cases x<;>first
  |(cases rx;rfl)
  |(obtain⟨t,rfl⟩:=rx;rfl)
theorem Y7:OpR X (compareOp .IsNot) (fun x y H Q=>y=.non∧Q (.bl (!decide (x=.non))) H):=by
 intro pins s σ H x y v u Q I rx ry h;obtain⟨rfl,q⟩:=h;cases ry;refine isnot_none_gen (Aq I q ?_);cases x<;>first
  |(cases rx;rfl)
  |(obtain⟨t,rfl⟩:=rx;rfl)

theorem Adp(b:Expr){op:CmpOp}(h:op≠.In:=by decide)(h2:op≠.NotIn:=by decide):behindInMarks op b=false:=by
 have e1:(op == CmpOp.In)=false:=by cases op<;>first|rfl|exact absurd rfl h
 have e2:(op == CmpOp.NotIn)=false:=by cases op<;>first|rfl|exact absurd rfl h2
 cases b<;>simp[behindInMarks,e1,e2]
theorem Y4{op:CmpOp}{r:R2}(ho:OpR X (compareOp op) r)(ha:PE X a ta)(hb:PE X b tb)(hm:behindInMarks op b=false):PE X (.Compare a [op] [b] pos) (tOp r ta tb):=by
 intro pins s σ H Q I h;exact wpAny_Compare1 (binT ha hb I h fun v u s2 x y H2 I2 rx ry q=>ho pins s2 σ H2 x y v u Q I2 rx ry q) hm
def Aaj(t:TE):TT:=fun σ H Q=>t σ H fun x H'=>∃k,x=.bl k∧Q k H'
theorem Yv{op:CmpOp}{r:R2}(ho:OpR X (compareOp op) r)(ha:PE X a ta)(hb:PE X b tb)(hm:behindInMarks op b=false):PT X (.Compare a [op] [b] pos) (Aaj (tOp r ta tb)):=by
 intro pins s σ H Q I h;refine wpAny_isTrue_Compare1 (thn (ha pins s σ H _ I h) fun v s1 ⟨x,H1,I1,r1,q1⟩=>thn (hb pins s1 σ H1 _ I1 q1) fun u s2 ⟨y,H2,I2,r2,q2⟩=>
  thn (ho pins s2 σ H2 x y v u _ I2 r1 r2 q2) fun c s3 ⟨z,H3,I3,r3,k,e,q3⟩=>?_) hm
 subst e;cases r3;exact wpAny_truthy_bool ⟨H3,I3,q3⟩
def Pe(r r':R2)(ta tb tc:TE):TE:=fun σ H Q=>ta σ H fun x H1=>tb σ H1 fun y H2=>r x y H2 fun z H3=>∃k,z=.bl k∧
 (if k=true then tc σ H3 fun w' H4=>r' y w' H4 Q else Q (.bl false) H3)
theorem Wj{op op':CmpOp}{r r':R2}(ho:OpR X (compareOp op) r)(ho':OpR X (compareOp op') r')(ha:PE X a ta)(hb:PE X b tb)(hc:PE X c tc)(hm:lastMarks [op,op'] [b,c]=false:=by with_unfolding_all rfl):PE X (.Compare a [op,op'] [b,c] pos) (Pe r r' ta tb tc):=by
 intro pins s σ H Q I h;refine Compare_chain (thn (ha pins s σ H _ I h) fun v s1 ⟨x,H1,I1,r1,q1⟩=>chain_link (thn (hb pins s1 σ H1 _ I1 q1) fun u s2 ⟨y,H2,I2,r2,q2⟩=>
  thn (ho pins s2 σ H2 x y v u _ I2 r1 r2 q2) fun d s3 ⟨z,H3,I3,r3,k,e,q3⟩=>?_)) hm
 subst e;cases r3;refine wpAny_truthy_bool ?_;cases k with
 |false=>exact ite_ff ⟨.bl false,H3,I3,rfl,q3⟩
 |true=>exact ite_tt (chain_last (thn (hc pins s3 σ H3 _ I3 q3) fun w' s4 ⟨z',H4,I4,r4,q4⟩=>ho' pins s4 σ H4 y z' u w' Q I4 r2 r4 q4))
theorem V9{op op':CmpOp}{r r':R2}(ho:OpR X (compareOp op) r)(ho':OpR X (compareOp op') r')(ha:PE X a ta)(hb:PE X b tb)(hc:PE X c tc)(hm:lastMarks [op,op'] [b,c]=false:=by with_unfolding_all rfl):PT X (.Compare a [op,op'] [b,c] pos) (Aaj (Pe r r' ta tb tc)):=by
 intro pins s σ H Q I h;refine isTrue_chain (thn (ha pins s σ H _ I h) fun v s1 ⟨x,H1,I1,r1,q1⟩=>test_link (thn (hb pins s1 σ H1 _ I1 q1) fun u s2 ⟨y,H2,I2,r2,q2⟩=>
  thn (ho pins s2 σ H2 x y v u _ I2 r1 r2 q2) fun d s3 ⟨z,H3,I3,r3,k,e,q3⟩=>?_)) hm
 subst e;cases r3;refine wpAny_truthy_bool ?_;cases k with
 |false=>
  obtain⟨k',e',q'⟩:=q3;cases e';exact ite_ff ⟨H3,I3,q'⟩
 |true=>
  refine ite_tt (test_last (thn (hc pins s3 σ H3 _ I3 q3) fun w' s4 ⟨z',H4,I4,r4,q4⟩=>thn (ho' pins s4 σ H4 y z' u w' _ I4 r2 r4 q4) fun d' s5 ⟨z2,H5,I5,r5,k2,e2,q5⟩=>?_));subst e2;cases r5;exact wpAny_truthy_bool ⟨H5,I5,q5⟩

def TruV(K:W.Frag)(x:V)(H:Hp)(k:Bool):Prop:=
 match x with
 |.non=>k=false
 |.bl b=>k=b
 |.int i=>k=(i != 0)
 |.str y=>y.length≤sizeLine∧k=((y.length:Int) != 0)
 |.byt y=>y.size≤sizeLine∧k=((y.size:Int) != 0)
 |.ref p=>(∃xs,SqL K H p xs∧k = !xs.isEmpty)∨(∃xs,SqT K H p xs∧k = !xs.isEmpty)∨∃kvs,H p=some (.dK kvs)∧k = !kvs.isEmpty
 |_=>False
theorem Qg{κ:Type}{kvs:List (κ×V)}{vs:List (κ×Value)}(r:KV kvs vs):(!vs.isEmpty) = !kvs.isEmpty:=by
 cases r<;>rfl
theorem Jt{xs:List V}{its:List Value}(r:Vals xs its):(!its.toArray.isEmpty) = !xs.isEmpty:=by
 cases r<;>simp
theorem F7:(sizeLine:Nat)<2 ^ 63:=by rw[sizeLine_eq];decide
theorem Abm:TruR X (fun x H Q=>∃k,TruV X.K x H k∧Q k H):=by
 intro pins s σ H x v Q I rx h;obtain⟨k,e,q⟩:=h;have hl:=F7;have hs:sizeLine=16777216:=sizeLine_eq;cases x with
 |non=>
  cases rx;have e':k=false:=e;subst e';exact truthy_none ⟨H,I,q⟩
 |bl b=>
  cases rx;have e':k=b:=e;subst e';exact wpAny_truthy_bool ⟨H,I,q⟩
 |int i=>
  obtain⟨t,rfl⟩:=rx;have e':k=(i != 0):=e;subst e';exact PySem.P.truthy_int ⟨H,I,q⟩
 |str y=>
  obtain⟨t,rfl⟩:=rx;obtain⟨hy,e'⟩:y.length≤sizeLine∧k=((y.length:Int) != 0):=e;subst e';exact PySem.P.truthy_str (by omega) ⟨H,I.tok _,q⟩
 |byt y=>
  obtain⟨t,rfl⟩:=rx;obtain⟨hy,e'⟩:y.size≤sizeLine∧k=((y.size:Int) != 0):=e;subst e';exact W.truthy_bytes (by omega) ⟨H,I.tok _,q⟩
 |ref p=>
  cases rx;have e':(∃xs,SqL X.K H p xs∧k = !xs.isEmpty)∨(∃xs,SqT X.K H p xs∧k = !xs.isEmpty)∨∃kvs,H p=some (.dK kvs)∧k = !kvs.isEmpty:=e;rcases e' with ⟨xs,hx,e'⟩|⟨xs,hx,e'⟩|⟨kvs,hx,e'⟩
  ·subst e';obtain⟨its,r,pl,hz⟩:=I.list hx;have hlen:=r.length;exact wpAny_truthy_list pl.isList (by simp only[List.size_toArray];omega) ⟨H,I.tok _,by rw[Jt r];exact q⟩
  ·subst e';obtain⟨its,r,pl,hz⟩:=I.tuple hx;have hlen:=r.length;exact truthy_tuple pl (by simp only[List.size_toArray];omega) ⟨H,I.tok _,by rw[Jt r];exact q⟩
  ·subst e';obtain⟨hz,hS,vs,r,m⟩:kvs.length≤sizeLine∧(p == sysModules)=false∧∃vs,KV kvs vs∧s.heap.DictOf (Ar X.prog X.w) p vs:=I.hok p _ hx;have hlen:kvs.length=vs.length:=Paired.length r;exact wpAny_truthy_dict hS m (by omega) ⟨H,I.tok _,by rw[Qg r];exact q⟩
 |_=>exact(show False from e).elim
theorem V8(ha:PE X a ta)(he:∀whole,isTrue a X.env whole=(do let v ←whole;standAt a.pos;holding [v] (truthy v))) :
  PT X a (fun σ H Q=>ta σ H fun x H'=>∃k,TruV X.K x H' k∧Q k H'):=by
 intro pins s σ H Q I h;exact isTrue_plain (thn (ha pins s σ H _ I h) fun v s1 ⟨x,H1,I1,r1,q1⟩=>Abm pins s1 σ H1 x v Q I1 r1 q1) (he _)

theorem Hc{x:V}{us:List Value}(r:Vals [x] us):∃u,us=[u]∧RelV x u:=by
 cases r with
 |cons r1 r2=>cases r2;exact⟨_,rfl,r1⟩
theorem Im{x y:V}{us:List Value}(r:Vals [x,y] us):∃u w',us=[u,w']∧RelV x u∧RelV y w':=by
 cases r with
 |cons r1 r2=>
  cases r2 with
  |cons r3 r4=>cases r4;exact⟨_,_,rfl,r1,r3⟩
theorem call_abs:CallR X (.builtin "abs") (fun xs H Q=>∃i,xs=[.int i]∧Q (.int (if i<0 then -i else i)) H):=by
 intro pins s σ H xs us Q I r h;obtain⟨i,rfl,q⟩:=h;obtain⟨u,rfl,t,rfl⟩:=Hc r;exact call_abs_int fun u tk=>⟨.int (if i<0 then -i else i),H,I.tok _,⟨_,rfl⟩,q⟩
theorem To(hc:X.calm=true):CallR X (.builtin "max") (fun xs H Q=>∃i j,xs=[.int i,.int j]∧Q (.int (if j>i then j else i)) H):=by
 intro pins s σ H xs us Q I r h;obtain⟨i,j,rfl,q⟩:=h;obtain⟨u,w',rfl,⟨t,rfl⟩,⟨t',rfl⟩⟩:=Im r;refine max_two_ints (I.ok.hd hc) fun h' tk k=>⟨_,H,I.kept k,?_,q⟩
 by_cases hj:j>i
 ·rw[if_pos hj,if_pos hj];exact⟨_,rfl⟩
 ·rw[if_neg hj,if_neg hj];exact⟨_,rfl⟩
theorem Tl(hc:X.calm=true):CallR X (.builtin "min") (fun xs H Q=>∃i j,xs=[.int i,.int j]∧Q (.int (if j<i then j else i)) H):=by
 intro pins s σ H xs us Q I r h;obtain⟨i,j,rfl,q⟩:=h;obtain⟨u,w',rfl,⟨t,rfl⟩,⟨t',rfl⟩⟩:=Im r;refine min_two_ints (I.ok.hd hc) fun h' tk k=>⟨_,H,I.kept k,?_,q⟩
 by_cases hj:j<i
 ·rw[if_pos hj,if_pos hj];exact⟨_,rfl⟩
 ·rw[if_neg hj,if_neg hj];exact⟨_,rfl⟩
def LenV(K:W.Frag)(x:V)(H:Hp)(n:Nat):Prop:=
 match x with
 |.str y=>y.length≤sizeLine∧n=y.length
 |.byt y=>y.size≤sizeLine∧n=y.size
 |.ref p=>(∃xs,SqL K H p xs∧n=xs.length)∨∃xs,SqT K H p xs∧n=xs.length
 |_=>False
theorem call_len:CallR X (.builtin "len") (fun xs H Q=>∃x n,xs=[x]∧LenV X.K x H n∧Q (.int n) H):=by
 intro pins s σ H xs us Q I r h;obtain⟨x,n,rfl,e,q⟩:=h;obtain⟨u,rfl,rx⟩:=Hc r;have hl:=F7;have hs:sizeLine=16777216:=sizeLine_eq;cases x with
 |str y=>
  obtain⟨t,rfl⟩:=rx;obtain⟨hy,e'⟩:y.length≤sizeLine∧n=y.length:=e;subst e';exact len_str (by omega) ⟨.int _,H,I.tok _,⟨_,rfl⟩,q⟩
 |byt y=>
  obtain⟨t,rfl⟩:=rx;obtain⟨hy,e'⟩:y.size≤sizeLine∧n=y.size:=e;subst e';exact W.len_bytes (by omega) ⟨.int _,H,I.tok _,⟨_,rfl⟩,q⟩
 |ref p=>
  cases rx;have e':(∃xs,SqL X.K H p xs∧n=xs.length)∨∃xs,SqT X.K H p xs∧n=xs.length:=e;rcases e' with ⟨xs,hx,e'⟩|⟨xs,hx,e'⟩
  ·subst e';obtain⟨its,r',pl,hz⟩:=I.list hx;have hlen:=r'.length;exact Calls.call_len_list pl.isList (by simp only[List.size_toArray];omega) ⟨.int xs.length,H,I.tok _,⟨_,by simp only[List.size_toArray];rw[hlen]⟩,q⟩
  ·subst e';obtain⟨its,r',pl,hz⟩:=I.tuple hx;have hlen:=r'.length;exact len_tuple pl (by simp only[List.size_toArray];omega) ⟨.int xs.length,H,I.tok _,⟨_,by simp only[List.size_toArray];rw[hlen]⟩,q⟩
 |_=>exact(show False from e).elim
theorem call_divmod:CallR X (.builtin "divmod") (fun xs H Q=>∃i j,xs=[.int i,.int j]∧T7 i j∧∀p,H p=none→Q (.ref p) (upd H p (.tup [.int (i / j),.int (i % j)]))):=by
 intro pins s σ H xs us Q I r h;obtain⟨i,j,rfl,⟨h1,h2⟩,q⟩:=h;obtain⟨u,w',rfl,⟨t,rfl⟩,⟨t',rfl⟩⟩:=Im r;refine divmod_int (by omega) ?_ (.inl (PyProof.noPylong_small (by omega)))
 rw[Int.fdiv_eq_ediv_of_nonneg i (by omega),Int.fmod_eq_emod_of_nonneg i (by omega)]
 have hn:H s.heap.objs.size=none:=I.hok.fresh (Nat.le_refl _);refine⟨.ref s.heap.objs.size,_,?_,rfl,q _ hn⟩;refine I.laid (fun b o e=>Heap.get?_push_of_some _ e) (Nat.le_refl _) ⟨by simp only[List.length_cons,List.length_nil];rw[sizeLine_eq];decide,[.int (i / j) s.toks,.int (i % j) (s.toks+1)],.cons ⟨_,rfl⟩ (.cons ⟨_,rfl⟩ .nil),?_⟩
 exact⟨_,Heap.get?_push_size s.heap rfl,rfl,0,rfl⟩
end
end L2
namespace L2
open PySem PySem.Spec PyProof.Rows
structure ObjM(h:Heap)(x dx C:Addr)(mA:Str→Option Value):Prop where
 obj:h.get? x=some (W.instObj C dx)
 ns:h.Ns1 dx mA
 ne:dx≠x

theorem S6{h:Heap}{dx:Addr}{mA:Str→Option Value}(n:h.Ns1 dx mA):∃od,h.get? dx=some od∧∀name,W.lookIn name od=some (mA name):=by
 obtain⟨o,es,ep,ho,hd,hk,_,hm⟩:=n;refine⟨o,ho,fun name=>?_⟩;have e:=hm name;unfold nsFind findBy at e;rw[←Array.find?_toList] at e;unfold W.lookIn;rw[hd];dsimp only
 split
 ·rename_i y q;rw[q] at e;exact congrArg some e
 ·rename_i q;rw[q] at e;have a:es.toList.any (·.refKey)=false:=by
   rw[List.any_eq_false];intro y hy;obtain⟨z,t,hkey⟩:=hk y (Array.mem_toList_iff.mp hy);simp[DictEntry.refKey,hkey]
  have a':¬es.toList.any (·.refKey)=true:=by rw[a];exact Bool.false_ne_true
  rw[if_neg a'];exact congrArg some e

theorem ObjM.look{h:Heap}{x dx C:Addr}{mA:Str→Option Value}(I:ObjM h x dx C mA):∃od,W.InstAt h x (W.instObj C dx) C (some od)∧∀name,W.lookIn name od=some (mA name):=
 let ⟨od,ho,hl⟩:=S6 I.ns
 ⟨od,⟨I.obj,rfl,rfl,ho⟩,hl⟩

section
variable{prog:Program}{w:World}{A:Around}{E:Value→Shared→Prop}{s:Shared}{K:W.Frag}{x dx C f:Addr}{mA:Str→Option Value}{name:Str}{v:Value}
theorem Z0{expr:Bool}{Q:Value→Shared→Prop}(X:K.In s.heap)(I:ObjM s.heap x dx C mA)(hg:W.plainGet K C name=true)(hh:W.hasDictIn K C=true)(ha:W.findIn K (.ref C) name=some none)(hv:mA name=some v)(hv':W.handedIn v=true)(h:Q v { s with toks:=s.toks+1 }) :
  wpAny (model prog w) A (getAttr (.ref x) name expr) Q E s:=by
 obtain⟨od,J,hl⟩:=I.look;exact W.get_value X J (W.plainGet_of hg).1 (W.findObj_own hh ha rfl (by rw[hl,hv])) hv' h

theorem Yi{ns:List Str}{Q:Unit→Shared→Prop}(X:K.In s.heap)(I:ObjM s.heap x dx C mA)(hs:W.findIn K (.ref C) "__setattr__" = some (some (.builtin "object.__setattr__")))(hp:W.plainOver K C=true)(ht:W.takerIn K C name=some none)(hh:W.hasDictIn K C=true)(hw:PySem.Within mA ns)(hsz:ns.length≤sizeLine)(h:∀h',ObjM h' x dx C (fun y=>if y=name then some v else mA y)→Heap.SameBut dx s.heap h'→Q () { s with heap:=h',toks:=s.toks+2 }) :
  wpAny (model prog w) A (setAttr (.ref x) name v) Q E s:=by
 obtain⟨od,J,hl⟩:=I.look;refine W.set_plain X J hs (W.osa_open (s:={ s with toks:=s.toks+1 }) (r:=none) X J hp ht fun b=>?_);obtain⟨cd,hc,hd'⟩:=W.any_some hh;have hx:s.heap.get? x=some ⟨.ref C,some dx,.plain,#[]⟩:=I.obj;refine wpAny_bind (wpAny_pure (wpAny_bind (wpAny_bind (wpAny_loadPart hx (wpAny_bind (W.Looks.here (s:={ s with toks:=s.toks+1 }) (W.looks_clsIn X hc) ?_))))));rw[hd'];refine wpAny_pure (a:=some dx) (wpAny_bind (wpAny_pure (wpAny_bind ?_)));refine wpAny_nsSet1 (s:={ s with toks:=s.toks+1 }) I.ns fun h' hn2 hs2=>?_;obtain⟨oD,esD,epD,hoD,hdD,hcD⟩:=hn2.count (PySem.Within.cons name v hw);refine wpAny_bind (wpAny_lookBehind hoD (by rw[hdD];exact pastItsLine_dict (Nat.le_trans hcD (by rw[List.length_cons];omega))) ?_)
 exact wpAny_pure (h _ ⟨(hs2.2 _ (Ne.symm I.ne)).trans I.obj,hn2,I.ne⟩ hs2)

theorem W3{R:Result→Shared→Prop}{vs:List Value}{kw:List (Str×Value)}(X:K.In s.heap)(hm:W.makesIn K C=true)(hi:W.findIn K (.ref C) "__init__" = some (some (.ref f)))(hf:W.typeIn K (.ref f)=some (.type "function"))(h:codeAny (model prog w) (A.under (.builtin "type.__call__" ⟨.ref C::vs,kw⟩)) (.call (.ref f) ⟨.ref (s.heap.objs.size+1)::vs,kw⟩) (W.InitBack (s.heap.objs.size+1) R)
   { s with heap:=(s.heap.push W.emptyDict).push (W.instObj C s.heap.objs.size) }) :
  codeAny (model prog w) A (.call (.ref C) ⟨vs,kw⟩) R s:=by
 obtain⟨hh,g,d,t,os⟩:=s;exact W.make_core (W.makes_of X hm) (W.looks_findIn X hi) (fun self=>W.bind_fn X self hf) (.inl rfl) h
end
def Dp(f:Str)(v:V):List (Str×V)→List (Str×V)
 |[]=>[(f,v)]
 |(g,x)::r=>if g=f then (g,v)::r else (g,x)::Dp f v r
theorem Hg(f g:Str)(v:V):∀fs:List (Str×V),(Dp f v fs).lookup g=if g=f then some v else fs.lookup g
 |[]=>by
  show List.lookup g [(f,v)]=_
  by_cases h:g=f
  ·have hb:(g == f)=true:=beq_iff_eq.mpr h;simp only[List.lookup,hb,if_pos h]
  ·have hb:(g == f)=false:=beq_eq_false_iff_ne.mpr h;simp only[List.lookup,hb,if_neg h]
 |(k,x)::r=>by
  have ih:=Hg f g v r;rw[show Dp f v ((k,x)::r)=(if k=f then (k,v)::r else (k,x)::Dp f v r) from rfl]
  by_cases hk:k=f
  ·rw[if_pos hk]
   by_cases h:g=k
   ·have hb:(g == k)=true:=beq_iff_eq.mpr h;simp only[List.lookup,hb,if_pos (h.trans hk)]
   ·have hb:(g == k)=false:=beq_eq_false_iff_ne.mpr h;simp only[List.lookup,hb,if_neg (fun e:g=f=>h (e.trans hk.symm))]
  ·rw[if_neg hk]
   by_cases h:g=k
   ·have hb:(g == k)=true:=beq_iff_eq.mpr h;simp only[List.lookup,hb,if_neg (fun e:g=f=>hk (h.symm.trans e))]
   ·have hb:(g == k)=false:=beq_eq_false_iff_ne.mpr h;simp only[List.lookup,hb];exact ih
theorem Gh(f:Str)(v:V):∀fs:List (Str×V),f∈(Dp f v fs).map (·.1)∧∀g,g∈fs.map (·.1)→g∈(Dp f v fs).map (·.1)
 |[]=>⟨by simp[Dp],fun g h=>by simp at h⟩
 |(k,x)::r=>by
  obtain⟨i1,i2⟩:=Gh f v r;rw[show Dp f v ((k,x)::r)=(if k=f then (k,v)::r else (k,x)::Dp f v r) from rfl]
  by_cases hk:k=f
  ·rw[if_pos hk];subst hk;exact⟨by simp,fun g h=>by simpa using h⟩
  ·rw[if_neg hk];refine⟨?_,fun g h=>?_⟩
   ·rw[List.map_cons];exact List.mem_cons_of_mem _ i1
   ·rw[List.map_cons] at h ⊢;rcases List.mem_cons.mp h with e|e
    ·exact List.mem_cons.mpr (.inl e)
    ·exact List.mem_cons_of_mem _ (i2 g e)
theorem Hh(f:Str)(v:V):∀fs:List (Str×V),(Dp f v fs).length≤fs.length+1
 |[]=>by simp[Dp]
 |(k,x)::r=>by
  have ih:=Hh f v r;rw[show Dp f v ((k,x)::r)=(if k=f then (k,v)::r else (k,x)::Dp f v r) from rfl]
  by_cases hk:k=f
  ·rw[if_pos hk,List.length_cons,List.length_cons];omega
  ·rw[if_neg hk,List.length_cons,List.length_cons];omega

theorem RelO.some_of{v:V}{o:Option Value}(r:RelO (some v) o):∃u,o=some u∧RelV v u:=by
 cases o with
 |none=>exact(show False from r).elim
 |some u=>exact⟨u,rfl,r⟩
theorem Tf{v:V}{u:Value}(r:RelV v u):W.handedIn u=true:=by
 cases v with
 |non=>cases(show u=Value.none from r);rfl
 |bl b=>cases(show u=Value.bool b from r);rfl
 |int i=>obtain⟨t,e⟩:=(show ∃t,u=Value.int i t from r);cases e;rfl
 |str x=>obtain⟨t,e⟩:=(show ∃t,u=Value.str x t from r);cases e;rfl
 |byt b=>obtain⟨t,e⟩:=(show ∃t,u=Value.bytes b t from r);cases e;rfl
 |flt b=>obtain⟨t,e⟩:=(show ∃t,u=Value.float b t from r);cases e;rfl
 |ref a=>cases(show u=Value.ref a from r);rfl
 |ty n=>cases(show u=Value.type n from r);rfl

section
variable{P:Program}{w:World}{H H':Hp}{h h':Heap}{a C dx:Addr}{fs fs':List (Str×V)}
theorem ins_get(hok:HOk P w H h)(e:H a=some (.ins C dx fs)):∃mA,ObjM h a dx C mA∧(∀f,RelO (fs.lookup f) (mA f))∧PySem.Within mA (fs.map (·.1))∧fs.length≤1000∧H dx=some (.own a):=by
 obtain⟨d,z,ne,ob,mA,n,r,q⟩:=(show ObjOk P w H h a (.ins C dx fs) from hok a _ e);exact⟨mA,⟨ob,n,ne⟩,r,q,z,d⟩
end
structure Cls(K:W.Frag)(C:Addr):Prop where
 pg:W.plainGet K C Str.empty=true
 hd:W.hasDictIn K C=true
 po:W.plainOver K C=true
 sa:W.findIn K (.ref C) "__setattr__" = some (some (.builtin "object.__setattr__"))
theorem Cls.get{K:W.Frag}{C:Addr}(c:Cls K C)(f:Str):W.plainGet K C f=true:=c.pg
def NoAttr(K:W.Frag)(C:Addr)(f:Str):Prop:=W.findIn K (.ref C) f=some none
theorem NoAttr.taker{K:W.Frag}{C:Addr}{f:Str}(n:NoAttr K C f):W.takerIn K C f=some none:=by
 unfold W.takerIn;rw[show W.findIn K (.ref C) f=some none from n];rfl
section
variable{X:Cx}{pins:List (Addr×Obj)}{σ:St}{H:Hp}{s:Shared}{a C dx:Addr}{fs:List (Str×V)}{f:Str}{v:V}{A:Around}{E:Value→Shared→Prop}
theorem Qi{b:Bool}{Q:Value→Shared→Prop}(I:Inv X pins σ H s)(e:H a=some (.ins C dx fs))(c:Cls X.K C)(n:NoAttr X.K C f)(l:fs.lookup f=some v)(h:∀u s',Inv X pins σ H s'→RelV v u→Q u s'):wpAny (model X.prog X.w) A (getAttr (.ref a) f b) Q E s:=by
 obtain⟨mA,O,r,_,_,_⟩:=ins_get I.hok e;obtain⟨u,hu,ru⟩:=RelO.some_of (v:=v) (o:=mA f) (by rw[←l];exact r f)
 exact Z0 I.kIn O (c.get f) c.hd n hu (Tf ru) (h u _ (I.tok _) ru)

theorem P0{y:V}{u:Value}{Q:Unit→Shared→Prop}(I:Inv X pins σ H s)(e:H a=some (.ins C dx fs))(c:Cls X.K C)(n:NoAttr X.K C f)(hl:fs.length<1000)(ry:RelV y u)(h:∀s',Inv X pins σ (upd H a (.ins C dx (Dp f y fs))) s'→Q () s'):wpAny (model X.prog X.w) A (setAttr (.ref a) f u) Q E s:=by
 obtain⟨mA,O,r,wi,_,ho⟩:=ins_get I.hok e;have hz:(fs.map (·.1)).length≤sizeLine:=by rw[List.length_map,sizeLine_eq];omega
 refine Yi I.kIn O c.sa c.po n.taker c.hd wi hz fun h' O' sb=>h _ ?_;have hd:∃o,h'.get? dx=some o:=let ⟨o,_,_,e',_⟩:=O'.ns;⟨o,e'⟩;refine I.write (x:=a) (e:=dx) (by rw[e];exact True.intro) (.inr ho) (fun b q hb z=>(sb.2 b hb).trans z) hd ?_
 refine⟨by rw[Ac O.ne];exact ho,?_,O.ne,O'.obj,_,O'.ns,fun g=>?_,fun g hg=>?_⟩
 ·have:=Hh f y fs;omega
 ·show RelO ((Dp f y fs).lookup g) (if g=f then some u else mA g);rw[Hg]
  by_cases q:g=f
  ·rw[if_pos q,if_pos q];exact ry
  ·rw[if_neg q,if_neg q];exact r g
 ·by_cases q:g=f
  ·rw[q];exact(Gh f y fs).1
  ·refine(Gh f y fs).2 g (wi g fun z=>hg ?_);show(if g=f then some u else mA g)=none;rw[if_neg q];exact z

theorem Inv.made(I:Inv X pins σ H s):Inv X pins σ (upd (upd H s.heap.objs.size (.own (s.heap.objs.size+1))) (s.heap.objs.size+1) (.ins C s.heap.objs.size []))
  { s with heap:=(s.heap.push W.emptyDict).push (W.instObj C s.heap.objs.size) }:=by
 have e1:(s.heap.push W.emptyDict).get? s.heap.objs.size=some W.emptyDict:=Heap.get?_push_size s.heap rfl;have e2:((s.heap.push W.emptyDict).push (W.instObj C s.heap.objs.size)).get? (s.heap.objs.size+1)=some (W.instObj C s.heap.objs.size):=by
  have:=Heap.get?_push_size (s.heap.push W.emptyDict) (o:=W.instObj C s.heap.objs.size) rfl
  rwa [Heap.size_push] at this
 have e3:(s.heap.push W.emptyDict).Ns s.heap.objs.size (fun _=>none):=⟨W.emptyDict,#[],_,e1,rfl,(fun e he=>absurd he (by simp)),fun _=>rfl⟩
 have I1:=I.laid (a:=s.heap.objs.size) (o:=.own (s.heap.objs.size+1)) (h':=s.heap.push W.emptyDict) (t':=s.toks) (fun b u q=>Heap.get?_push_of_some _ q) (Nat.le_refl _) ⟨_,e1⟩;refine I1.laid (a:=s.heap.objs.size+1) (o:=.ins C s.heap.objs.size []) (t':=s.toks) (fun b u q=>Heap.get?_push_of_some _ q) (Nat.le_of_eq (Heap.size_push _ _)) ?_;have ne:s.heap.objs.size≠s.heap.objs.size+1:=Nat.ne_of_lt (Nat.lt_succ_self _);refine⟨by rw[Ac ne,Ae],Nat.zero_le _,ne,e2,fun _=>none,(Heap.Ns1.of_empty e3).at fun o q=>Heap.get?_push_of_some _ q,fun _=>True.intro,fun y hy=>absurd rfl hy⟩

theorem Aad{prog:Program}{w:World}{env:Env}{e:Expr}{f:Str}{pos:Pos}{s:Shared}{Q:Value→Shared→Prop}(hb:attributeBase e f env (eval e env)=eval e env)(h:wpAny (model prog w) A (eval e env) (fun o s₁=>wpAny (model prog w) A (getAttr o f true) Q E s₁) E s):wpAny (model prog w) A (eval (.Attribute e f pos) env) Q E s:=
 Attribute_any_ h (by rw[arm_eval_Attribute,hb])
end
def tFld(K:W.Frag)(ta:TE)(f:Str):TE:=fun σ H Q=>ta σ H fun x H1=>∃a C dx fs v,x=.ref a∧H1 a=some (.ins C dx fs)∧Cls K C∧NoAttr K C f∧fs.lookup f=some v∧Q v H1
def sFld(K:W.Frag)(ta tv:TE)(f:Str):TS:=fun D σ H=>tv σ H fun y H1=>ta σ H1 fun x H2=>∃a C dx fs,x=.ref a∧H2 a=some (.ins C dx fs)∧Cls K C∧NoAttr K C f∧fs.length<1000∧
 D.nx σ (upd H2 a (.ins C dx (Dp f y fs)))
section
variable{X:Cx}{o e value:Expr}{f:Str}{pos pos' tpos:Pos}{ta tv:TE}
theorem Ac2(he:PE X e ta)(hb:attributeBase e f X.env (eval e X.env)=eval e X.env):PE X (.Attribute e f pos) (tFld X.K ta f):=by
 intro pins s σ H Q I h;refine Aad hb (thn (he pins s σ H _ I h) fun u s1 zz=>?_);obtain⟨x,H1,I1,rx,a,C,dx,fs,v,ex,ea,c,n,l,q⟩:=zz;subst ex;obtain rfl:u=Value.ref a:=rx;exact Qi I1 ea c n l fun u' s2 I2 ru=>⟨v,H1,I2,ru,q⟩
theorem Acp(ha:PE X o ta)(hv:PE X value tv)(hs:swapsWith value (some (.Attribute o f pos')) pos.line X.env=pure false):PS X (.Assign [.Attribute o f pos'] value pos) (sFld X.K ta tv f):=by
 intro pins s σ H D I h;refine plainObj_wpAny_Assign_Attribute (thn (hv pins s σ H _ I h) fun u s1 ⟨y,H1,I1,ry,q⟩=>thn (ha pins s1 σ H1 _ I1 q) fun ov s2 ⟨x,H2,I2,rx,a,C,dx,fs,ex,ea,c,n,l,q2⟩=>?_) hs;subst ex;obtain rfl:ov=Value.ref a:=rx;exact P0 I2 ea c n l ry fun s3 I3=>⟨σ,_,I3,q2⟩
end
section
variable{X:Cx}{pins:List (Addr×Obj)}{σ:St}{H:Hp}{s:Shared}{A:Around}{E:Value→Shared→Prop}{Q:Value→Shared→Prop}{c:Value}{b:Bool}
inductive TyOf (K:W.Frag) (H:Hp):V→Value→Prop where
 |non:TyOf K H .non (.type "NoneType")
 |bl (x:Bool):TyOf K H (.bl x) (.type "bool")
 |int (i:Int):TyOf K H (.int i) (.type "int")
 |str (x:Str):TyOf K H (.str x) (.type "str")
 |flt (x:UInt64):TyOf K H (.flt x) (.type "float")
 |lst {a:Addr} {xs:List V} (e:H a=some (.lst xs)):TyOf K H (.ref a) (.type "list")
 |frz {a:Addr} {o:Obj} {xs:List V} (e:H a=some (.frz o (.lst xs))):TyOf K H (.ref a) (.type "list")
 |tup {a:Addr} {xs:List V} (e:H a=some (.tup xs)):TyOf K H (.ref a) (.type "tuple")
 |dK {a:Addr} {kvs:List (Key×V)} (e:H a=some (.dK kvs)):TyOf K H (.ref a) (.type "dict")
 |dT {a:Addr} {kvs:List (List Key×V)} (e:H a=some (.dT kvs)):TyOf K H (.ref a) (.type "dict")
 |ins {a C dx:Addr} {fs:List (Str×V)} (e:H a=some (.ins C dx fs)) (cl:Cls K C) (ha:W.findIn K (.ref C) "__class__" = some (some (.builtin "object.__class__")))
   (hn:W.specialIn K (.builtin "object.__class__") "__get__" = some (some (.builtin "getset_descriptor.__get__"))) (htk:W.takesIn K (.builtin "object.__class__")=some true)
   (hm:W.mroIn K C (.type "object")=some true):TyOf K H (.ref a) (.ref C)
theorem Td{x:V}{u t:Value}(I:Inv X pins σ H s)(rx:RelV x u)(ty:TyOf X.K H x t)(e:W.kitOne X.K t c=some b)(h:∀tk,Q (.bool b) { s with toks:=tk }) :
  wpAny (model X.prog X.w) A (call (.builtin "isinstance") [u,c]) Q E s:=by
 cases ty with
 |non=>cases(show u=Value.none from rx);exact W.kia_one W.kitx_none I.kIn True.intro e (fun z=>nomatch z) h
 |bl y=>cases(show u=Value.bool y from rx);exact W.kia_one W.kitx_bool I.kIn True.intro e (fun z=>nomatch z) h
 |int i=>obtain⟨t,q⟩:=(show ∃t,u=Value.int i t from rx);cases q;exact W.kia_one W.kitx_int I.kIn True.intro e (fun z=>nomatch z) h
 |str y=>obtain⟨t,q⟩:=(show ∃t,u=Value.str y t from rx);cases q;exact W.kia_one W.kitx_str I.kIn True.intro e (fun z=>nomatch z) h
 |flt y=>obtain⟨t,q⟩:=(show ∃t,u=Value.float y t from rx);cases q;exact W.kia_one W.kitx_float I.kIn True.intro e (fun z=>nomatch z) h
 |@lst a xs ea=>
  cases(show u=Value.ref a from rx);obtain⟨_,_,n,_,h1⟩:=(show ObjOk X.prog X.w H s.heap a (.lst xs) from I.hok a _ ea);exact W.kia_one W.kitx_list I.kIn ⟨_,h1,rfl⟩ e (fun z=>nomatch z) h
 |@frz a ob xs ea=>
  cases(show u=Value.ref a from rx);obtain⟨_,_,_,n,_,h1⟩:=(show ObjOk X.prog X.w H s.heap a (.frz ob (.lst xs)) from I.hok a _ ea);exact W.kia_one W.kitx_list I.kIn ⟨_,h1,rfl⟩ e (fun z=>nomatch z) h
 |@tup a xs ea=>
  cases(show u=Value.ref a from rx);obtain⟨_,_,_,p⟩:=(show ObjOk X.prog X.w H s.heap a (.tup xs) from I.hok a _ ea);obtain⟨o,h1,h2,_⟩:=p;exact W.kia_one W.kitx_tuple I.kIn ⟨o,h1,h2⟩ e (fun z=>nomatch z) h
 |@dK a kvs ea=>
  cases(show u=Value.ref a from rx);obtain⟨_,_,vs,_,p⟩:=(show ObjOk X.prog X.w H s.heap a (.dK kvs) from I.hok a _ ea);obtain⟨o,es,ep,h1,h2,_⟩:=p;exact W.kia_one W.kitx_dict I.kIn ⟨o,h1,h2.1⟩ e (fun z=>nomatch z) h
 |@dT a kvs ea=>
  cases(show u=Value.ref a from rx);obtain⟨_,_,xs,_,o,es,ep,h1,h2,_⟩:=(show ObjOk X.prog X.w H s.heap a (.dT kvs) from I.hok a _ ea);exact W.kia_one W.kitx_dict I.kIn ⟨o,h1,h2.1⟩ e (fun z=>nomatch z) h
 |@ins a C dx fs ea cl ha hn htk hm=>
  cases(show u=Value.ref a from rx);obtain⟨mA,O,_⟩:=ins_get I.hok ea;obtain⟨od,J,_⟩:=O.look;exact W.kia_one (W.kitx_own (cl.get _) cl.hd ha hn htk hm) I.kIn J e (fun z=>nomatch z) h
end
end L2
namespace L2
open PySem PySem.Spec PyProof.Rows
structure Room(k:Nat)(A:Around):Prop where
 hd:A.handled=none
 dp:A.depth+3*k+5<recursionLimit
 un:A.units+16*k+200<cLine
 gd:A.guards=some []
theorem Room.mono{j k:Nat}{A:Around}(r:Room k A)(h:j≤k):Room j A:=⟨r.hd,by have:=r.dp;omega,by have:=r.un;omega,r.gd⟩
theorem Room.deeper{k:Nat}{A:Around}(r:Room (k+1) A)(env:Env):Room k (A.deeper env):=
 ⟨r.hd,by have:=r.dp;show A.depth+1+3*k+5<_;omega,by have:=r.un;show A.units+3+16*k+200<_;omega,r.gd⟩
theorem Qe{A:Around}{C:Addr}{us:List Value}{kw:List (Str×Value)}:(A.under (.builtin "type.__call__" ⟨.ref C::us,kw⟩)).depth=A.depth+1:=by
 first|rfl|simp[Around.under,Code.weight,Code.isCreation,Code.isGuard,Code.isCaller,Code.frames,Code.isFrame,guardIds]
theorem Qd{A:Around}{C:Addr}{us:List Value}{kw:List (Str×Value)}:(A.under (.builtin "type.__call__" ⟨.ref C::us,kw⟩)).units=A.units+1:=by
 first|rfl|simp[Around.under,Code.cUnits,Code.frames,Code.isFrame]
theorem Room.make{k:Nat}{A:Around}(r:Room (k+1) A)(C:Addr)(us:List Value)(kw:List (Str×Value)):Room k (A.under (.builtin "type.__call__" ⟨.ref C::us,kw⟩)):=
 ⟨r.hd,by have:=r.dp;rw[Qe];omega,by have:=r.un;rw[Qd];omega,by first|exact r.gd|(simpa[Around.under,Code.isGuard,guardIds] using r.gd)⟩
theorem Room.depth{k:Nat}{A:Around}(r:Room k A):A.depth<recursionLimit:=by have:=r.dp;omega
def R4:TA:=fun _ H Q=>Q [] H
def Ki(ta:TE)(tr:TA):TA:=fun σ H Q=>ta σ H fun x H1=>tr σ H1 fun xs H2=>Q (x::xs) H2
section
variable{X:Cx}{e:Expr}{es:List Expr}{te:TE}{t:TA}{pos:Pos}
theorem pa_nil:PA X [] R4:=fun _ _ _ _ H Q I h=>Calls.spliced_nil ⟨[],H,I,.nil,h⟩
theorem Ec(ha:PE X e te)(hr:PA X es t)(hs:starEach (e::es) X.env=(false,eval e X.env)::starEach es X.env:=by rfl):PA X (e::es) (Ki te t):=by
 intro pos pins s σ H Q I h;rw[hs];show wpAny _ _ (spliced ((false,eval e X.env)::backTo pos (starEach es X.env))) _ _ s;refine Calls.spliced_cons (thn (ha pins s σ H _ I h) fun u s1 zz=>?_);obtain⟨x,H1,I1,r1,q1⟩:=zz;exact thn (hr pos pins s1 σ H1 _ I1 q1) fun us s2 ⟨xs,H2,I2,r2,q2⟩=>⟨x::xs,H2,I2,.cons r1 r2,q2⟩

def tTup(t:TA):TE:=fun σ H Q=>t σ H fun xs H1=>xs.length≤sizeLine∧∀p,H1 p=none→Q (.ref p) (upd H1 p (.tup xs))
def tLst(t:TA):TE:=fun σ H Q=>t σ H fun xs H1=>xs.length≤sizeLine∧∀p,H1 p=none→Q (.ref p) (upd H1 p (.lst xs))
theorem Acx{x1}(h:PA X es t):PE X (.Tuple es x1 pos) (tTup t):=by
 intro pins s σ H Q I hq;refine wpAny_Tuple_spliced (thn (h pos pins s σ H _ I hq) fun us s1 ⟨xs,H1,I1,r,z,q⟩=>⟨by rw[←r.length];exact z,?_⟩)
 have hf:H1 s1.heap.objs.size=none:=I1.hok.fresh (Nat.le_refl _);refine⟨.ref s1.heap.objs.size,upd H1 s1.heap.objs.size (.tup xs),I1.laid (t':=s1.toks) (fun b u e=>Heap.get?_push_of_some _ e) (Nat.le_refl _) ?_,rfl,q _ hf⟩;exact⟨z,us,r,⟨_,Heap.get?_push_size _ rfl,rfl,_,rfl⟩⟩
theorem U5(h:PA X es t):PE X (.List es pos) (tLst t):=by
 intro pins s σ H Q I hq;refine wpAny_List_spliced (thn (h pos pins s σ H _ I hq) fun us s1 ⟨xs,H1,I1,r,z,q⟩=>⟨by rw[←r.length];exact z,?_⟩)
 have hf:H1 s1.heap.objs.size=none:=I1.hok.fresh (Nat.le_refl _);refine⟨.ref s1.heap.objs.size,upd H1 s1.heap.objs.size (.lst xs),I1.laid (t':=s1.toks) (fun b u e=>Heap.get?_push_of_some _ e) (Nat.le_refl _) ?_,rfl,q _ hf⟩;exact⟨z,us,0,r,Heap.get?_push_size _ rfl⟩
end
abbrev Sp:=List V→Hp→VK→XK→Prop
abbrev CXT:=List Env→Hp→Shared→XK→Value→Shared→Prop

structure Env0(P:Program)(w:World)(K:W.Frag)(mg:Str→Option Value)(base:Heap)(A:Around)(outer:List Env)(s:Shared)(H:Hp):Prop where
 frames:A.frames=some outer
 mod:Mod K mg base
 bs:∀b o,base.get? b=some o→s.heap.get? b=some o∧H b=none
 bsz:base.objs.size≤s.heap.objs.size
 funs:s.heap.FunFrames base outer
 frf:∀b∈frs outer,H b=none
 hok:HOk P w H s.heap
 bare:AllBare s.gens
def CE(outer:List Env)(P:Program)(w:World)(H:Hp)(s:Shared)(Q:VK)(u:Value)(s':Shared):Prop:=
 ∃v H',s'.os=s.os∧AllBare s'.gens∧Un (frs outer) [] H H' s.heap s'.heap∧HOk P w H' s'.heap∧RelV v u∧Q v H'
def CR(CX:CXT)(outer:List Env)(P:Program)(w:World)(H:Hp)(s:Shared)(Q:VK)(E:XK)(r:Result)(s':Shared):Prop:=
 match r with
 |.ok (.ret u)=>CE outer P w H s Q u s'
 |.ok _=>False
 |.error e=>CX outer H s E e s'
structure FnOk(P:Program)(w:World)(K:W.Frag)(mg:Str→Option Value)(base:Heap)(CX:CXT)(k:Nat)(f:Addr)(fd:FuncData)(ps:List Str)(sp:Sp):Prop where
 len:∀vs H Q E,sp vs H Q E→vs.length=ps.length
 run:∀(A:Around) (outer:List Env) (s:Shared) (H:Hp) (args:Args) (us:List Value) (vs:List V) (Q:VK) (E:XK),Room k A→Env0 P w K mg base A outer s H→BindsTo s fd args (ps.zip us)→Vals vs us→sp vs H Q E→
  codeAny (model P w) A (.call (.ref f) args) (CR CX outer P w H s Q E) s
theorem Env0.make{P:Program}{w:World}{K:W.Frag}{mg:Str→Option Value}{base:Heap}{A:Around}{outer:List Env}{s:Shared}{H:Hp}(e:Env0 P w K mg base A outer s H)(C:Addr)(us:List Value)(kw:List (Str×Value)) :
  Env0 P w K mg base (A.under (.builtin "type.__call__" ⟨.ref C::us,kw⟩)) outer s H:=⟨by first|exact e.frames|(simpa[Around.under,Code.envs,Code.isFrame,pushEnvs] using e.frames),e.mod,e.bs,e.bsz,e.funs,e.frf,e.hok,e.bare⟩
section
variable{X:Cx}{pins:List (Addr×Obj)}{σ:St}{H:Hp}{s s':Shared}
theorem Inv.env0(I:Inv X pins σ H s):Env0 X.prog X.w X.K X.mg X.base X.A X.stack s H:=
 ⟨I.ok.frames,I.ok.mod,I.bs,Nat.le_trans I.ok.bsz I.sz,I.stack,I.stkFree,I.hok,I.bare⟩
theorem Inv.after{Q:VK}{u:Value}(I:Inv X pins σ H s)(h:CE X.stack X.prog X.w H s Q u s'):EP X pins σ Q u s':=by
 obtain⟨v,H',os,bare,un,hok,r,q⟩:=h;obtain⟨hh,g,d,t,os'⟩:=s';obtain rfl:os'=s.os:=os;exact⟨v,H',I.call (h':=hh) (g':=g) (d':=d) (t':=t) (ch:=[]) un hok bare (fun b z=>absurd z (by simp)),r,q⟩
end
def Aak(sp:Sp)(dvs:List V)(E:XK)(t:TA):TE:=fun σ H Q=>t σ H fun vs H1=>sp (vs++dvs) H1 Q E
def tMake(C:Addr)(sp:Sp)(dvs:List V)(E:XK)(t:TA):TE:=fun σ H Q=>t σ H fun vs H1=>∀x dx,H1 x=none→H1 dx=none→dx≠x→
 sp (.ref x::(vs++dvs)) (upd (upd H1 dx (.own x)) x (.ins C dx [])) (fun v H2=>v=.non∧Q (.ref x) H2) E

def Binds(K:W.Frag)(fd:FuncData)(ps:List Str)(ds:List Value):Prop:=
 ∀(s:Shared) (us:List Value),K.In s.heap→(us++ds).length=ps.length→BindsTo s fd ⟨us,[]⟩ (ps.zip (us++ds))
theorem Binds.all{K:W.Frag}{fd:FuncData}{ps:List Str}(h:∀us:List Value,us.length=ps.length→bindArgs fd ⟨us,[]⟩=pure (ps.zip us)):Binds K fd ps []:=fun s us _ hl=>by
 rw[List.append_nil] at hl ⊢;exact .of_eq (h us hl)

def By(CX:CXT)(X:Cx)(E:XK):Prop:=∀(pins:List (Addr×Obj)) (σ:St) (H:Hp) (s:Shared) (e:Value) (s':Shared),Inv X pins σ H s→CX X.stack H s E e s'→X.xe e s'

section
variable{X:Cx}{CX:CXT}{k:Nat}{f C:Addr}{fd:FuncData}{ps:List Str}{sp:Sp}{dvs:List V}{ds:List Value}{E:XK}{x m:Str}{p pos apos:Pos}{e o:Expr}{es:List Expr}{ta:TE}{t:TA}
theorem Ab0{pins:List (Addr×Obj)}{σ:St}{H:Hp}{s:Shared}{Q:VK}{us:List Value}{vs:List V}(F:FnOk X.prog X.w X.K X.mg X.base CX k f fd ps sp)(hr:Room k X.A)(hb:Binds X.K fd ps ds)(hd:Vals dvs ds)(hx:By CX X E)(I:Inv X pins σ H s)(r:Vals vs us)(h:sp (vs++dvs) H Q E):wpAny (model X.prog X.w) X.A (call (.ref f) us) (EP X pins σ Q) X.xe s:=by
 have r2:Vals (vs++dvs) (us++ds):=r.append hd;have hl:(us++ds).length=ps.length:=by rw[←r2.length];exact F.len _ _ _ _ h
 refine wpAny_call (codeAny_mono (F.run X.A X.stack s H ⟨us,[]⟩ (us++ds) (vs++dvs) Q E hr I.env0 (hb s us I.kIn hl) r2 h) fun r s' hq=>?_);cases r with
 |error e=>exact hx pins σ H s e s' I hq
 |ok fl=>
  cases fl with
  |ret u=>exact I.after hq
  |next=>exact False.elim hq
  |brk=>exact False.elim hq
  |cont=>exact False.elim hq

theorem Y5(F:FnOk X.prog X.w X.K X.mg X.base CX k f fd ps sp)(hr:Room k X.A)(hg:Gl X x)(hm:X.mg x=some (.ref f))(hk:W.keepIn X.K (.ref f)=true)(hb:Binds X.K fd ps ds)(hd:Vals dvs ds)(hx:By CX X E)(ha:PA X (e::es) t)(hdb:(x == ("__debug__" : Str))=false:=by decide)(he:starEach (e::es) X.env=(false,eval e X.env)::starEach es X.env:=by rfl)(hpl:(backTo pos (starEach es X.env)).any (·.1)=false:=by rfl) :
  PE X (.Call (.Name x p) (e::es) [] pos) (Aak sp dvs E t):=by
 intro pins s σ H Q I h;refine wpAny_Call_Name_kw (Di I hg hm ?_ hdb);refine W.callWith_K (h₀:=X.base) I.ok.mod.kin hk (thn (ha pos pins s σ H _ I h) fun us s1 ⟨vs,H1,I1,r,q⟩=>⟨I1.kIn,?_⟩) he hpl;exact Ab0 F hr hb hd hx I1 r q
structure Mk(K:W.Frag)(C f:Addr):Prop where
 makes:W.makesIn K C=true
 init:W.findIn K (.ref C) "__init__" = some (some (.ref f))
 fn:W.isFn K (.ref f)=true
 kp:W.keepIn K (.ref C)=true

theorem Vy{pins:List (Addr×Obj)}{σ:St}{H:Hp}{s:Shared}{Q:VK}{us:List Value}{vs:List V}(M:Mk X.K C f)(F:FnOk X.prog X.w X.K X.mg X.base CX k f fd ps sp)(hr:Room (k+1) X.A)(hb:Binds X.K fd ps ds)(hd:Vals dvs ds)(hx:By CX X E)(I:Inv X pins σ H s)(r:Vals vs us)(h:∀x dx,H x=none→H dx=none→dx≠x→sp (.ref x::(vs++dvs)) (upd (upd H dx (.own x)) x (.ins C dx [])) (fun v H2=>v=.non∧Q (.ref x) H2) E) :
  wpAny (model X.prog X.w) X.A (call (.ref C) us) (EP X pins σ Q) X.xe s:=by
 have hq:=h (s.heap.objs.size+1) s.heap.objs.size (I.hok.fresh (Nat.le_succ _)) (I.hok.fresh (Nat.le_refl _)) (Nat.ne_of_lt (Nat.lt_succ_self _));have I2:=Inv.made (C:=C) I;have r2:Vals (V.ref (s.heap.objs.size+1)::(vs++dvs)) (Value.ref (s.heap.objs.size+1)::(us++ds)):=.cons rfl (r.append hd);have hl:(Value.ref (s.heap.objs.size+1)::us++ds).length=ps.length:=by
  have e:=r2.length;rw[F.len _ _ _ _ hq] at e;exact e.symm
 refine wpAny_call (W3 (f:=f) I.kIn M.makes M.init (beq_iff_eq.mp M.fn) (codeAny_mono (F.run _ X.stack _ _ ⟨Value.ref (s.heap.objs.size+1)::us,[]⟩ (Value.ref (s.heap.objs.size+1)::(us++ds)) _ _ E (hr.make C us [])
  (I2.env0.make C us []) (hb _ (Value.ref (s.heap.objs.size+1)::us) I2.kIn hl) r2 hq) fun r s' hq'=>?_))
 cases r with
 |error e=>exact hx pins σ _ _ e s' I2 hq'
 |ok fl=>
  cases fl with
  |ret u=>
   obtain⟨v,H',I3,rv,ev,q3⟩:=I2.after hq';subst ev;exact⟨rv,⟨V.ref (s.heap.objs.size+1),H',I3,rfl,q3⟩⟩
  |next=>exact False.elim hq'
  |brk=>exact False.elim hq'
  |cont=>exact False.elim hq'
theorem Y2(M:Mk X.K C f)(F:FnOk X.prog X.w X.K X.mg X.base CX k f fd ps sp)(hr:Room (k+1) X.A)(hg:Gl X x)(hm:X.mg x=some (.ref C))(hb:Binds X.K fd ps ds)(hd:Vals dvs ds)(hx:By CX X E)(ha:PA X (e::es) t)(hdb:(x == ("__debug__" : Str))=false:=by decide)(he:starEach (e::es) X.env=(false,eval e X.env)::starEach es X.env:=by rfl)(hpl:(backTo pos (starEach es X.env)).any (·.1)=false:=by rfl) :
  PE X (.Call (.Name x p) (e::es) [] pos) (tMake C sp dvs E t):=by
 intro pins s σ H Q I h;refine wpAny_Call_Name_kw (Di I hg hm ?_ hdb);refine W.callWith_K (h₀:=X.base) I.ok.mod.kin M.kp (thn (ha pos pins s σ H _ I h) fun us s1 ⟨vs,H1,I1,r,q⟩=>⟨I1.kIn,?_⟩) he hpl;exact Vy M F hr hb hd hx I1 r q
end
def PK(X:Cx)(kws:List Keyword)(t:TA):Prop:=
 ∀(pos:Pos) (pins:List (Addr×Obj)) (s:Shared) (σ:St) (H:Hp) (Q:List V→Hp→Prop),Inv X pins σ H s→t σ H Q→wpAny (model X.prog X.w) X.A (evalAll ((backToKw pos (keywordEach kws X.env)).map (·.2))) (AP X pins σ Q) X.xe s
section
variable{X:Cx}{CX:CXT}{k:Nat}{f C:Addr}{fd:FuncData}{ps ks:List Str}{sp:Sp}{E:XK}{x m:Str}{p pos apos kpos:Pos}{e o:Expr}{es:List Expr}{kws:List Keyword}{te ta:TE}{t tk:TA}{nm:Option Str}
theorem U3:PK X [] R4:=fun _ _ _ _ H Q I h=>wpAny_evalAll_nil ⟨[],H,I,.nil,h⟩
theorem Rf(ha:PE X e te)(hr:PK X kws t):PK X (⟨nm,e,kpos⟩::kws) (Ki te t):=by
 intro pos pins s σ H Q I h;show wpAny _ _ (evalAll ((do let v ←eval e X.env;standAt pos;pure v)::(backToKw pos (keywordEach kws X.env)).map (·.2))) _ _ s
 refine wpAny_evalAll_cons (wpAny_bind (thn (ha pins s σ H _ I h) fun u s1 ⟨x,H1,I1,r1,q1⟩=>wpAny_bind (wpAny_standAt (wpAny_pure ?_))));exact thn (hr pos pins s1 σ H1 _ I1 q1) fun us s2 ⟨xs,H2,I2,r2,q2⟩=>⟨x::xs,H2,I2,.cons r1 r2,q2⟩

variable{g:List Value→List Value→List Value}{gV:List V→List V→List V}
end
structure FnScope(N P:List Str)(sc:Scope):Prop where
 kind:sc.kind=.function
 co:sc.isCoroutine=false
 gen:sc.isGenerator=false
 nd:N.Nodup
 pre:N.take P.length=P
 par:∀x∈P,sc.names.lookup x=some .local∨sc.names.lookup x=some .cell
 nofree:∀y∈sc.names,y.2≠.free

theorem K6{kindOf:Str→Option NameKind}{x:Str}:∀{binds:List (Str×Value)} {m:Str→Option Value},(∀v,(x,v) ∉ binds)→bindL kindOf binds m x=m x
 |[],_,_=>rfl
 |(n,v)::r,m,h=>by
  unfold bindL;rw[K6 fun w hw=>h w (List.mem_cons_of_mem _ hw)]
  split
  ·have:x≠n:=by rintro rfl;exact h v List.mem_cons_self
   simp[this]
  ·rfl
theorem K7{kindOf:Str→Option NameKind}{x:Str}:∀{binds:List (Str×Value)} {m:Str→Option Value},(∀v,(x,v) ∉ binds)→bindC kindOf binds m x=m x
 |[],_,_=>rfl
 |(n,v)::r,m,h=>by
  unfold bindC;rw[K7 fun w hw=>h w (List.mem_cons_of_mem _ hw)]
  split
  ·rfl
  ·have:x≠n:=by rintro rfl;exact h v List.mem_cons_self
   simp[this]
theorem Gn{kindOf:Str→Option NameKind}{x:Str}{v:Value}:∀{P:List Str} {vs:List Value} {i:Nat} {m:Str→Option Value},P.Nodup→P[i]? = some x→vs[i]? = some v→kindOf x=some .local→
  bindL kindOf (P.zip vs) m x=some v
 |[],_,_,_,_,h,_,_=>by simp at h
 |_::_,[],_,_,_,_,h,_=>by simp at h
 |p::P,w::vs,0,m,nd,h1,h2,hk=>by
  simp at h1 h2;subst h1;subst h2;show bindL kindOf ((p,w)::P.zip vs) m p=_;unfold bindL;rw[K6 fun v hv=>(List.nodup_cons.mp nd).1 (List.of_mem_zip hv).1,if_pos hk];simp
 |p::P,w::vs,i+1,m,nd,h1,h2,hk=>by
  show bindL kindOf ((p,w)::P.zip vs) m x=_;unfold bindL;exact Gn (i:=i) (List.nodup_cons.mp nd).2 (by simpa using h1) (by simpa using h2) hk
theorem Go{kindOf:Str→Option NameKind}{x:Str}{v:Value}:∀{P:List Str} {vs:List Value} {i:Nat} {m:Str→Option Value},P.Nodup→P[i]? = some x→vs[i]? = some v→kindOf x≠some .local→
  bindC kindOf (P.zip vs) m x=some v
 |[],_,_,_,_,h,_,_=>by simp at h
 |_::_,[],_,_,_,_,h,_=>by simp at h
 |p::P,w::vs,0,m,nd,h1,h2,hk=>by
  simp at h1 h2;subst h1;subst h2;show bindC kindOf ((p,w)::P.zip vs) m p=_;unfold bindC;rw[K7 fun v hv=>(List.nodup_cons.mp nd).1 (List.of_mem_zip hv).1,if_neg hk];simp
 |p::P,w::vs,i+1,m,nd,h1,h2,hk=>by
  show bindC kindOf ((p,w)::P.zip vs) m x=_;unfold bindC;exact Go (i:=i) (List.nodup_cons.mp nd).2 (by simpa using h1) (by simpa using h2) hk

def start(N:List Str)(vs:List V):St:=vs.map some++List.replicate (N.length-vs.length) none

def Cw(CX:CXT)(P:Program)(w:World)(K:W.Frag)(mg:Str→Option Value)(base:Heap)(N:List Str)(qual:Str)(scope:Scope)(f:Addr)(cd:Value)(A:Around)(outer:List Env)(s:Shared)(H:Hp)(E:XK):Cx where
 prog:=P
 w:=w
 K:=K
 mg:=mg
 base:=base
 A:=A.deeper (envOfC qual scope s.heap.objs.size f cd)
 N:=N
 s₀:=s
 H₀:=H
 env:=envOfC qual scope s.heap.objs.size f cd
 outer:=outer
 stack:=envOfC qual scope s.heap.objs.size f cd::outer
 ex:=[]
 calm:=true
 fn:=fun _=>true
 pn:=[]
 xe:=fun e s'=>wpAny (model P w) (A.deeper (envOfC qual scope s.heap.objs.size f cd)) (leaving (envOfC qual scope s.heap.objs.size f cd) e) (fun _ s''=>CX outer H s E e s'') (fun e' s''=>CX outer H s E e' s'') s'

theorem Fy{sc:Scope}{n:Nat}{x:Str}(h:sc.names.lookup x=some .cell):∃c,(cellsFrom n sc.names []).lookup x=some c:=by
 have q:=W.cellsFrom_some sc.names n [] (.inl h);exact Option.isSome_iff_exists.mp q

theorem K4{CX:CXT}{P:Program}{w:World}{K:W.Frag}{mg:Str→Option Value}{base:Heap}{N ps:List Str}{qual:Str}{scope:Scope}{f:Addr}{cd:Value}{A:Around}{outer:List Env}{s s1:Shared}{H:Hp}{E:XK}{us:List Value}{vs:List V}(S:FnScope N ps scope)(hd:A.handled=none)(e0:Env0 P w K mg base A outer s H)(hl:vs.length=ps.length)(r:Vals vs us)(x:InCallC s s.heap.objs.size (bindL (envOfC qual scope s.heap.objs.size f cd).kindOf (ps.zip us) fun _=>none) (cellsFrom (s.heap.objs.size+1) scope.names []) (bindC (envOfC qual scope s.heap.objs.size f cd).kindOf (ps.zip us) fun _=>none) s1) :
  Inv (Cw CX P w K mg base N qual scope f cd A outer s H E) [] (start N vs) H s1:=by
 have hpl:ps.length≤N.length:=by have:=congrArg List.length S.pre;rw[List.length_take] at this;omega
 obtain⟨h1,tk,rfl,hk⟩:=x.done;have noA:∀b:Addr,b ∉ (Cw CX P w K mg base N qual scope f cd A outer s H E).ex:=fun b z=>absurd (show b∈([]:List Addr) from z) (by simp)
 refine⟨⟨e0.mod,S.kind,rfl,rfl,Nat.le_refl _,fun y z c h1 h2=>?_,fun y hy=>?_,fun y c _ h=>?_,fun _=>hd,Around.frames_deeper e0.frames,.inr ⟨rfl,rfl⟩,fun b z=>absurd z (noA b),e0.bs,e0.bsz,fun b _ _=>noA b,fun b z=>absurd z (noA b),e0.funs,e0.frf⟩,
  rfl,e0.bare,Un.kept hk,⟨_,x.toInCall.ns,fun i y v h1 h2 h3=>?_⟩,fun y c h=>⟨_,x.cell y c h⟩,e0.hok.fresh (Nat.le_refl _),fun y c h=>?_,fun p hp=>absurd (show p∈([]:List (Addr×Obj)) from hp) (by simp),e0.hok.kept hk,?_⟩
 ·exact name_of_addr x.apart (PySem.mem_of_lookup h1) (PySem.mem_of_lookup h2)
 ·have hy:scope.names.lookup y=some .cell∨scope.names.lookup y=some .free:=hy;rcases hy with hy|hy
  ·exact Fy hy
  ·exact absurd rfl (S.nofree _ (PySem.mem_of_lookup hy))
 ·exact Nat.le_of_lt (x.above y c (PySem.mem_of_lookup h))
 ·have hi:i<vs.length:=by
   unfold start at h2
   by_cases hi:i<vs.length
   ·exact hi
   ·rw[List.getElem?_append_right (by simpa using hi)] at h2
    rw[List.getElem?_replicate] at h2
    split at h2<;>cases h2
  have ha:vs[i]? = some v:=by
   unfold start at h2;rw[List.getElem?_append_left (by simpa using hi),List.getElem?_map] at h2
   cases e:vs[i]? with
   |none=>rw[e] at h2;cases h2
   |some a=>rw[e] at h2;cases h2;rfl
  obtain⟨u,hu,rv⟩:=r.get ha;have hp:ps[i]? = some y:=by
   rw[←S.pre,List.getElem?_take_of_lt (by omega)];exact h1
  have ndP:ps.Nodup:=by rw[←S.pre];exact S.nd.sublist (List.take_sublist _ _)
  refine⟨u,rv,?_⟩;rcases S.par y (List.mem_of_getElem? hp) with k|k
  ·exact .inl ⟨k,Gn ndP hp hu k⟩
  ·obtain⟨c,e⟩:=Fy (n:=s.heap.objs.size+1) k;refine .inr ⟨.inl k,c,e,?_⟩;have q:=x.cell y c e;rw[Go ndP hp hu (by show scope.names.lookup y≠_;rw[k];decide)] at q
   exact q
 ·exact e0.hok.fresh (Nat.le_of_lt (x.above y c (PySem.mem_of_lookup h)))
 ·unfold start;show _=N.length;rw[List.length_append,List.length_map,List.length_replicate];omega

theorem Uq{CX:CXT}{P:Program}{w:World}{K:W.Frag}{mg:Str→Option Value}{base:Heap}{k:Nat}{f:Addr}{name qual:Str}{params:Arguments}{body:List Stmt}{scope:Scope}{dV kV doc pm cdv ct oc:Value}{an od:Option Addr}{osl:Array (Option Value)}{N ps:List Str}{sp:Sp}(lk:K.lookup f=some ⟨oc,od,.func (W.fnOf name qual params body scope dV kV doc pm an cdv ct),osl⟩)(hcd:W.codeIn K cdv qual=true)(S:FnScope N ps scope)(len:∀vs H Q E,sp vs H Q E→vs.length=ps.length)(hbody:∀(A:Around) (outer:List Env) (s:Shared) (H:Hp) (vs:List V) (Q:VK) (E:XK),Room k (A.deeper (envOfC qual scope s.heap.objs.size f cdv))→sp vs H Q E→
   ∃t,PSs (Cw CX P w K mg base N qual scope f cdv A outer s H E) body t∧t { nx:=fun _ H'=>Q .non H',rt:=Q } (start N vs) H) :
  FnOk P w K mg base CX (k+1) f (W.fnOf name qual params body scope dV kV doc pm an cdv ct) ps sp:=by
 refine⟨len,fun A outer s H args us vs Q E hr e0 hb r hsp=>?_⟩;have hl:=len _ _ _ _ hsp;have KX:K.In s.heap:=e0.mod.kin.keeps fun b o e=>(e0.bs b o e).1;have lim:s.heap.NoLimit:=e0.mod.nolimit.keeps fun b o e=>(e0.bs b o e).1;have hkind:∀y∈ps.zip us,scope.names.lookup y.1=some .local∨(scope.names.lookup y.1=some .cell∧((cellsFrom (s.heap.objs.size+1) scope.names []).lookup y.1).isSome=true):=fun zz hy=>by
  obtain⟨n,v⟩:=zz;rcases S.par n (List.of_mem_zip hy).1 with q|q
  ·exact .inl q
  ·exact .inr ⟨q,W.cellsFrom_some _ _ _ (.inl q)⟩
 refine codeAny_call_function hr.depth (KX _ _ lk) rfl S.co S.gen rfl (W.codeRec_of KX hcd) (hb _ _ _ _ ?_);refine wpAny_newFunctionEnv_cells S.kind hkind fun env he s1 x=>?_;subst he;refine⟨lim.keeps x.toInCall.keep,codeAny_func ?_⟩;obtain⟨t,ht,hq⟩:=hbody A outer s H vs Q E (hr.deeper _) hsp;have I:Inv (Cw CX P w K mg base N qual scope f cdv A outer s H E) [] (start N vs) H s1:=K4 S hr.hd e0 hl r x;refine wpAny_mono (ht [] s1 (start N vs) H _ I hq) (fun fl s' hs=>?_) fun e s' hs=>hs;have fin:∀{σ':St} {H':Hp} {v:V} {u:Value},Inv (Cw CX P w K mg base N qual scope f cdv A outer s H E) [] σ' H' s'→RelV v u→Q v H'→CE outer P w H s Q u s':=
  fun {σ' H' v u} J rv q=>⟨v,H',J.os,J.bare,J.base,J.hok,rv,q⟩
 cases fl with
 |ret u=>
  obtain⟨v,σ',H',J,rv,q⟩:=hs;exact fin J rv q
 |next=>
  obtain⟨σ',H',J,q⟩:=hs;exact fin (v:=V.non) (u:=Value.none) J rfl q
 |brk=>
  obtain⟨_,_,_,q⟩:=hs;exact False.elim q
 |cont=>
  obtain⟨_,_,_,q⟩:=hs;exact False.elim q
end L2
namespace L2
open PySem PySem.Spec PyProof.Rows
section
variable{X:Cx}{x:Str}{p pos:Pos}{e:Expr}{es:List Expr}{t:TA}{id T:String}{r:List V→Hp→VK→Prop}
def tCB(r:List V→Hp→VK→Prop)(t:TA):TE:=fun σ H Q=>t σ H fun vs H1=>r vs H1 Q
theorem Wn(hc:CallR X (.builtin id) r)(hg:Gl X x)(hm:X.mg x=none)(hv:bootBuiltins x=some (.builtin id))(ha:PA X (e::es) t)(hn:x≠"__name__":=by decide)(hdb:(x == ("__debug__" : Str))=false:=by decide)(he:starEach (e::es) X.env=(false,eval e X.env)::starEach es X.env:=by rfl)(hpl:(backTo pos (starEach es X.env)).any (·.1)=false:=by rfl):PE X (.Call (.Name x p) (e::es) [] pos) (tCB r t):=by
 intro pins s σ H Q I h;refine wpAny_Call_Name_kw (Dw I hg hm hv ?_ hn hdb);exact PyProof.Rows.callWith_builtin1 (thn (ha pos pins s σ H _ I h) fun us s1 ⟨vs,H1,I1,r1,q1⟩=>hc pins s1 σ H1 vs us Q I1 r1 q1) he hpl
theorem Ss(hc:CallR X (.type T) r)(hg:Gl X x)(hm:X.mg x=none)(hv:bootBuiltins x=some (.type T))(ha:PA X (e::es) t)(hn:x≠"__name__":=by decide)(hdb:(x == ("__debug__" : Str))=false:=by decide)(he:starEach (e::es) X.env=(false,eval e X.env)::starEach es X.env:=by rfl)(hpl:(backTo pos (starEach es X.env)).any (·.1)=false:=by rfl):PE X (.Call (.Name x p) (e::es) [] pos) (tCB r t):=by
 intro pins s σ H Q I h;refine wpAny_Call_Name_kw (Dw I hg hm hv ?_ hn hdb);exact PyProof.Rows.callWith_type1 (thn (ha pos pins s σ H _ I h) fun us s1 ⟨vs,H1,I1,r1,q1⟩=>hc pins s1 σ H1 vs us Q I1 r1 q1) he hpl
end
end L2
namespace HT
open PySem PyProof.Rows
section
open PySem.SeqAt
open PySem.AutoSeq1 (wpAny_loadPart')
open PySem.MeetsSeq PySem.MeetsSeq2 PySem.MeetsSeq3
end
section
variable{prog:Program}{w:World}{A:Around}{E:Value→Shared→Prop}{s:Shared}
theorem cat_tup{t b:Addr}{vs ws:List Value}{Q:Value→Shared→Prop}(ht:IsTup s.heap t vs.toArray)(hb:IsTup s.heap b ws.toArray)(hv:vs≠[])(h1:ws=[]→Q (.ref t) s)(h2:ws≠[]→Q (.ref s.heap.objs.size) { s with heap:=s.heap.push { cls:=.type "tuple",data:=.seq (vs++ws).toArray } })(hsz:vs.length+ws.length≤sizeLine):wpAny (model prog w) A (binaryOp .Add (.ref t) (.ref b)) Q E s:=by
 obtain⟨⟨cls,dd,data,sl⟩,ho,hc,n,hd⟩:=id ht;obtain⟨⟨cls2,dd2,data2,sl2⟩,ho2,hc2,n2,hd2⟩:=id hb;simp only at hc hd hc2 hd2;subst hc hd hc2 hd2;have e:vs.toArray++ws.toArray=(vs++ws).toArray:=by simp
 by_cases hw:ws=[]
 ·exact concat_meets ⟨_,ho,rfl⟩ ⟨_,ho2,rfl⟩ noFill_tuple_add seq_tuple_add PySem.F.slot_tuple_add PySem.F.entry_tuple_add (PySem.F.args_tuple_add_2 _ _)
   (tuple_addW1 t b vs.toArray ws.toArray n n2 dd dd2 sl sl2 (by simpa using hv) (by simp[hw])) ⟨ho,ho2,h1 hw⟩
 ·refine concat_meets ⟨_,ho,rfl⟩ ⟨_,ho2,rfl⟩ noFill_tuple_add seq_tuple_add PySem.F.slot_tuple_add PySem.F.entry_tuple_add (PySem.F.args_tuple_add_2 _ _)
   (tuple_addW2 t b vs.toArray ws.toArray n n2 dd dd2 sl sl2 (by simpa using hv) (by simpa using hw) (by rw[List.size_toArray,List.size_toArray];exact hsz)) ⟨ho,ho2,?_⟩
  rw[e];exact h2 hw

def sIx(n d:Nat):Option Int→Nat
 |none=>d
 |some v=>if v<0 then (v+(n:Int)).toNat else min v.toNat n
theorem Abz(n d:Nat)(hd:d≤n)(o:Option Int):sIx n d o≤n:=by
 cases o with
 |none=>exact hd
 |some v=>
  show(if v<0 then (v+(n:Int)).toNat else min v.toNat n)≤n
  by_cases hv:v<0
  ·rw[if_pos hv];omega
  ·rw[if_neg hv];exact Nat.min_le_right _ _
theorem Rz(v:Int)(n d:Nat):(if v<0 then max (v+(n:Int)) 0 else min v (n:Int))=((sIx n d (some v):Nat):Int):=by
 show(if v<0 then max (v+(n:Int)) 0 else min v (n:Int))=(((if v<0 then (v+(n:Int)).toNat else min v.toNat n):Nat):Int)
 by_cases hv:v<0
 ·simp only[if_pos hv];omega
 ·simp only[if_neg hv];omega
theorem Qp(lo hi:Option Int)(n:Nat):Builtin.Slice.sliceAdjust lo hi 1 (n:Int)=(((sIx n 0 lo:Nat):Int),((sIx n n hi:Nat):Int)):=by
 have h1:¬((1:Int)<0):=by omega
 unfold Builtin.Slice.sliceAdjust;simp only[h1,if_false];refine Prod.ext ?_ ?_
 ·cases lo with
  |none=>rfl
  |some v=>exact Rz v n 0
 ·cases hi with
  |none=>rfl
  |some v=>exact Rz v n n
theorem P4(i j:Nat):Builtin.Slice.slicePlaces (i:Int) (j:Int) 1=j-i:=by
 unfold Builtin.Slice.slicePlaces;have h1:(1:Int)>0:=by omega
 simp only[h1,if_true,Int.ediv_one]
 split<;>omega
theorem Jn{v:Value}{o:Option Int}{Q:Option Int→Shared→Prop}(p:IsPart v o)(h:Q o s):wpAny (model prog w) A (Builtin.Slice.slicePartIndex v) Q E s:=by
 cases p with
 |none=>exact slicePart_none h
 |int i t=>exact slicePart_int h
theorem sliceApplied_gen{sl:Addr}{vl vu:Value}{lo hi:Option Int}{n:Nat}{Q:Int×Int×Nat→Shared→Prop}(hs:s.heap.IsSliceOf sl vl vu .none)(pl:IsPart vl lo)(pu:IsPart vu hi)(h:Q (((sIx n 0 lo:Nat):Int),1,sIx n n hi-sIx n 0 lo) s):wpAny (model prog w) A (Builtin.Slice.sliceApplied (.ref sl) (pure (n:Int))) Q E s:=by
 obtain⟨os,hos,hcs,hds⟩:=id hs;unfold Builtin.Slice.sliceApplied Builtin.Slice.sliceFields;refine wpAny_bind (wpAny_bind (wpAny_field hos hds (x:=vl) rfl (wpAny_bind (wpAny_field hos hds (x:=vu) rfl (wpAny_bind (wpAny_field hos hds (x:=.none) rfl (wpAny_pure ?_)))))));refine wpAny_bind (slicePart_none ?_);show wpAny _ _ (if ((1:Int) == 0)=true then _ else _) _ _ s;rw[if_neg (by decide)]
 refine wpAny_bind (Jn pl (wpAny_bind (Jn pu (wpAny_bind (wpAny_pure ?_)))));show wpAny _ _ (match Builtin.Slice.sliceAdjust lo hi 1 (n:Int) with|(lo,hi)=>pure (lo,(1:Int),Builtin.Slice.slicePlaces lo hi 1)) _ _ s
 rw[Qp lo hi n];show wpAny _ _ (pure (((sIx n 0 lo:Nat):Int),(1:Int),Builtin.Slice.slicePlaces ((sIx n 0 lo:Nat):Int) ((sIx n n hi:Nat):Int) 1)) _ _ s;rw[P4];exact wpAny_pure h
theorem We(xs:Array Value)(i k:Nat):((List.range k).filterMap fun(m:Nat)=>xs[((i:Int)+(m:Int)*1).toNat]?).toArray=((xs.toList.drop i).take k).toArray:=by
 have e:(fun(m:Nat)=>xs[((i:Int)+(m:Int)*1).toNat]?)=fun m=>xs[i+m]?:=by
  funext m
  have:((i:Int)+(m:Int)*1).toNat=i+m:=by omega
  rw[this]
 rw[e]
 have:=pick_run xs i k
 rw[List.filterMap_map] at this;have e2:((fun x=>xs[x]?) ∘ fun x=>i+x)=fun m=>xs[i+m]?:=rfl;rw[e2] at this;rw[this]

theorem getItem_tuple_cut{t sl:Addr}{items:Array Value}{vl vu:Value}{lo hi:Option Int}{Q:Value→Shared→Prop}(ht:IsTup s.heap t items)(hs:s.heap.IsSliceOf sl vl vu .none)(pl:IsPart vl lo)(pu:IsPart vu hi)(hw:¬(sIx items.size 0 lo=0∧sIx items.size items.size hi=items.size))(h:Q (.ref s.heap.objs.size) { s with heap:=s.heap.push { cls:=.type "tuple",data:=.seq ((items.toList.drop (sIx items.size 0 lo)).take (sIx items.size items.size hi-sIx items.size 0 lo)).toArray } })(hsz:items.size≤sizeLine):wpAny (model prog w) A (getItem (.ref t) (.ref sl)) Q E s:=by
 have htake:sizeOk (.seq ((items.toList.drop (sIx items.size 0 lo)).take (sIx items.size items.size hi-sIx items.size 0 lo)).toArray):=by
  show((items.toList.drop (sIx items.size 0 lo)).take (sIx items.size items.size hi-sIx items.size 0 lo)).toArray.size≤sizeLine;rw[List.size_toArray,List.length_take,List.length_drop,Array.length_toList];omega
 have hj:sIx items.size items.size hi≤items.size:=Abz _ _ (Nat.le_refl _) hi;obtain⟨os,hos,hcs,hds⟩:=id hs;have hTs:s.TypeIs (.ref sl) "slice":=⟨os,hos,hcs⟩;unfold getItem
 try with_reducible refine wpAny_holding ?_
 first|refine wpAny_bind (wpAny_pure ?_)|skip
 refine wpAny_bind (wpAny_sequenceKey ht.typeIs (by decide) ?_)
 refine wpAny_bind (wpAny_callSpecial?_slot (name:=Str.ofString "__getitem__") ht.typeIs PyProof.Rows.slot_tuple_getitem
  (wpAny_call_entry PyProof.Rows.slot_tuple_getitem ht.typeIs entry_tuple_getitem ?_ (args_tuple_getitem _ _)))
 show wpAny _ _ (Builtin.Tuple.tupleItemsOf (.ref t) >>= _) _ _ s;refine wpAny_bind (tupleItemsOf_ ht ?_);refine wpAny_bind (wpAny_typeOf hTs ?_);rw[if_pos (by decide)]
 refine wpAny_bind (sliceApplied_gen hs pl pu ?_);have hno:¬((((sIx items.size 0 lo:Nat):Int) == 0&&(1:Int) == 1&&(sIx items.size items.size hi-sIx items.size 0 lo) == items.size)=true):=by
  intro q;rw[Bool.and_eq_true,Bool.and_eq_true] at q;have q1:((sIx items.size 0 lo:Nat):Int)=0:=eq_of_beq q.1.1;have q2:sIx items.size items.size hi-sIx items.size 0 lo=items.size:=eq_of_beq q.2;exact hw ⟨by omega,by omega⟩
 show wpAny _ _ (if (((sIx items.size 0 lo:Nat):Int) == 0&&(1:Int) == 1&&(sIx items.size items.size hi-sIx items.size 0 lo) == items.size)=true then _ else _) _ _ s;rw[if_neg hno,We]
 first
  |exact wpAny_bind (m:=Builtin.Tuple.tupleExact _) (wpAny_newObj_type (wpAny_pure ⟨_,rfl,wpAny_pure h⟩) htake)
  |exact wpAny_bind (m:=Builtin.Tuple.tupleExact _) (wpAny_newObj_type (wpAny_bind (wpAny_pure (wpAny_pure ⟨_,rfl,wpAny_pure h⟩))) htake)
  |exact wpAny_bind (wpAny_bind (m:=Builtin.Tuple.tupleExact _) (wpAny_newObj_type (wpAny_pure (wpAny_pure ⟨_,rfl,wpAny_pure h⟩)) htake))
  |exact wpAny_bind (wpAny_bind (m:=Builtin.Tuple.tupleExact _) (wpAny_newObj_type (wpAny_pure ⟨_,rfl,wpAny_pure h⟩) htake))
end
end HT
namespace L2
open PySem PySem.Spec PyProof.Rows
abbrev TO:=St→Hp→(Option Int→Hp→Prop)→Prop
def PO(X:Cx)(e:Option Expr)(t:TO):Prop:=
 ∀(pins:List (Addr×Obj)) (s:Shared) (σ:St) (H:Hp) (Q:Option Int→Hp→Prop),Inv X pins σ H s→t σ H Q→
  wpAny (model X.prog X.w) X.A (evalPart e X.env) (fun u s'=>∃o H',Inv X pins σ H' s'∧IsPart u o∧Q o H') X.xe s
def Ye:TO:=fun _ H Q=>Q none H
def tPart(t:TE):TO:=fun σ H Q=>t σ H fun x H1=>∃i,x=.int i∧Q (some i) H1

section
variable{X:Cx}{e:Expr}{te:TE}{lo hi:Option Expr}{tl th:TO}{pos p2:Pos}
theorem po_none:PO X none Ye:=by
 intro pins s σ H Q I h;rw[evalPart_none];exact wpAny_pure ⟨none,H,I,.none,h⟩
theorem Yz(h:PE X e te):PO X (some e) (tPart te):=by
 intro pins s σ H Q I hw;rw[evalPart_some];refine thn (h pins s σ H _ I hw) fun u s1 zz=>?_;obtain⟨x,H1,I1,r1,q1⟩:=zz;obtain⟨i,rfl,q⟩:=q1;obtain⟨t,rfl⟩:=r1;exact⟨some i,H1,I1,.int i t,q⟩

def SlR(X:Cx)(r:V→Option Int→Option Int→Hp→VK→Prop):Prop:=
 ∀(pins:List (Addr×Obj)) (s:Shared) (σ:St) (H:Hp) (x:V) (v vl vu:Value) (lo hi:Option Int) (sl:Addr) (Q:VK),Inv X pins σ H s→RelV x v→s.heap.IsSliceOf sl vl vu .none→IsPart vl lo→IsPart vu hi→r x lo hi H Q→
  ∃T id,typeLookup (.type T) "__getitem__" = pure (some (.builtin id))∧s.TypeIs v T∧wpAny (model X.prog X.w) X.A (getItem v (.ref sl)) (EP X pins σ Q) X.xe s
def tSl(r:V→Option Int→Option Int→Hp→VK→Prop)(te:TE)(tl th:TO):TE:=fun σ H Q=>te σ H fun x H1=>tl σ H1 fun l H2=>th σ H2 fun u H3=>r x l u H3 Q
theorem Wg{r:V→Option Int→Option Int→Hp→VK→Prop}(hr:SlR X r)(he:PE X e te)(hl:PO X lo tl)(hu:PO X hi th):PE X (.Subscript e (.Slice lo hi none p2) pos) (tSl r te tl th):=by
 intro pins s σ H Q I h;refine Subscript_ (thn (he pins s σ H _ I h) fun v s1 zz=>?_);obtain⟨x,H1,I1,r1,q1⟩:=zz;refine wpAny_Slice (thn (hl pins s1 σ H1 _ I1 q1) fun vl s2 ⟨l,H2,I2,pl,q2⟩=>thn (hu pins s2 σ H2 _ I2 q2) fun vu s3 ⟨u,H3,I3,pu,q3⟩=>?_);rw[evalPart_none];refine wpAny_pure ?_;have I4:Inv X pins σ H3 { s3 with heap:=s3.heap.push { cls:=.type "slice",data:=.fields #[vl,vu,.none] } }:=I3.kept (t':=s3.toks) fun b ob q=>Heap.get?_push_of_some _ q;obtain⟨T,id,hT,ht,hg⟩:=hr pins { s3 with heap:=s3.heap.push { cls:=.type "slice",data:=.fields #[vl,vu,.none] } } σ H3 x v vl vu l u s3.heap.objs.size Q I4 r1 (Heap.IsSliceOf.new ..) pl pu q3;show wpAny (model X.prog X.w) X.A (subscriptTail e (.Slice lo hi none p2) v (.ref s3.heap.objs.size)) (EP X pins σ Q) X.xe { s3 with heap:=s3.heap.push { cls:=.type "slice",data:=.fields #[vl,vu,.none] } };exact tail_any (ops:=[.ref s3.heap.objs.size,v]) ht hT hg (by with_unfolding_all rfl)

def M3(xs:List V)(lo hi:Option Int):List V:=(xs.drop (HT.sIx xs.length 0 lo)).take (HT.sIx xs.length xs.length hi-HT.sIx xs.length 0 lo)
theorem Hi(xs:List V)(lo hi:Option Int):(M3 xs lo hi).length≤xs.length:=by
 unfold M3;rw[List.length_take,List.length_drop];omega
def rSlT(K:W.Frag):V→Option Int→Option Int→Hp→VK→Prop:=fun x lo hi H Q=>∃a xs,x=.ref a∧SqT K H a xs∧
 ¬(HT.sIx xs.length 0 lo=0∧HT.sIx xs.length xs.length hi=xs.length)∧∀p,H p=none→Q (.ref p) (upd H p (.tup (M3 xs lo hi)))
theorem Abt:SlR X (rSlT X.K):=by
 intro pins s σ H x v vl vu lo hi sl Q I rx hs pl pu h;obtain⟨a,xs,rfl,hx,hw,q⟩:=h;cases rx;obtain⟨its,r,ht,hz⟩:=I.tuple hx;have hlen:its.toArray.size=xs.length:=by rw[List.size_toArray];exact r.length.symm
 refine⟨"tuple",_,PyProof.Rows.slot_tuple_getitem.lookup,ht.typeIs,?_⟩;refine HT.getItem_tuple_cut ht hs pl pu (by rw[hlen];exact hw) ?_ (by rw[hlen];exact hz)
 rw[hlen];refine⟨.ref s.heap.objs.size,_,I.laid (t':=s.toks) (o:=.tup (M3 xs lo hi)) (fun b ob q=>Heap.get?_push_of_some _ q) (Nat.le_refl _) ?_,rfl,q _ (I.hok.fresh (Nat.le_refl _))⟩;exact⟨Nat.le_trans (Hi xs lo hi) hz,_,(r.drop (HT.sIx xs.length 0 lo)).take (HT.sIx xs.length xs.length hi-HT.sIx xs.length 0 lo),IsTup.new _ _⟩

def rCatT(K:W.Frag):R2:=fun x y H Q=>∃a b xs ys,x=.ref a∧y=.ref b∧SqT K H a xs∧SqT K H b ys∧xs≠[]∧xs.length+ys.length≤sizeLine∧
 (ys=[]→Q (.ref a) H)∧(ys≠[]→∀p,H p=none→Q (.ref p) (upd H p (.tup (xs++ys))))
theorem Vals.nil_iff{xs:List V}{us:List Value}(r:Vals xs us):us=[]↔xs=[]:=by
 cases r with
 |nil=>simp
 |cons _ _=>simp
theorem Y9:OpR X (binaryOp .Add) (rCatT X.K):=by
 intro pins s σ H x y v u Q I rx ry h;obtain⟨a,b,xs,ys,rfl,rfl,ha,hb,hx,hz,q1,q2⟩:=h;cases rx;cases ry;obtain⟨its,r1,p1,_⟩:=I.tuple ha;obtain⟨its2,r2,p2,_⟩:=I.tuple hb;refine HT.cat_tup p1 p2 (fun z=>hx (r1.nil_iff.mp z)) (fun z=>⟨.ref a,H,I,rfl,q1 (r2.nil_iff.mp z)⟩) (fun z=>?_) (by rw[←r1.length,←r2.length];exact hz)
 refine⟨.ref s.heap.objs.size,_,I.laid (t':=s.toks) (o:=.tup (xs++ys)) (fun b ob q=>Heap.get?_push_of_some _ q) (Nat.le_refl _) ?_,rfl,q2 (fun w=>z (r2.nil_iff.mpr w)) _ (I.hok.fresh (Nat.le_refl _))⟩;exact⟨by rw[List.length_append];exact hz,_,r1.append r2,IsTup.new _ _⟩
end
end L2
namespace L2
open PySem PySem.Spec PyProof.Rows
def ixN(n:Nat)(i:Int):Option Nat:=if 0≤i then (if i<n then some i.toNat else none) else if -(n:Int)≤i then some (i+n).toNat else none
def atI{α:Type}(xs:List α)(i:Int):Option α:=(ixN xs.length i).bind fun j=>xs[j]?
theorem Rq{n:Nat}{i:Int}{j:Nat}(h:ixN n i=some j):seqIndex? i n=some j∧j<n∧-(n:Int)≤i∧i<n:=by
 unfold ixN at h
 by_cases h0:0≤i
 ·rw[if_pos h0] at h
  by_cases h1:i<n
  ·rw[if_pos h1] at h;have e:i.toNat=j:=Option.some.inj h;exact⟨by rw[seqIndex_of h0 h1,e],by omega,by omega,h1⟩
  ·rw[if_neg h1] at h;cases h
 ·rw[if_neg h0] at h
  by_cases h1 : -(n:Int)≤i
  ·rw[if_pos h1] at h;have e:(i+n).toNat=j:=Option.some.inj h;exact⟨by rw[seqIndex_neg (by omega) h1,e],by omega,h1,by omega⟩
  ·rw[if_neg h1] at h;cases h
theorem Mg{α:Type}{xs:List α}{i:Int}{v:α}(h:atI xs i=some v):∃j,seqIndex? i xs.length=some j∧xs[j]? = some v∧j<xs.length∧-(xs.length:Int)≤i∧i<xs.length:=by
 unfold atI at h;cases e:ixN xs.length i with
 |none=>rw[e] at h;cases h
 |some j=>
  rw[e] at h;obtain⟨h1,h2,h3,h4⟩:=Rq e;exact⟨j,h1,h,h2,h3,h4⟩
theorem C1{α:Type}{xs:List α}{j:Nat}{v:α}(h:xs[j]? = some v):atI xs (j:Int)=some v:=by
 have hj:j<xs.length:=(List.getElem?_eq_some_iff.mp h).1;have e:ixN xs.length (j:Int)=some j:=by
  unfold ixN;rw[if_pos (by omega),if_pos (by omega)];simp
 unfold atI;rw[e];exact h
def R3(b:Expr):Prop:=∀o i,subscripted b false o i=operate [o,i] (getItem o i)
def IxR(X:Cx)(r:R2):Prop:=
 ∀(value slice:Expr) (pins:List (Addr×Obj)) (s:Shared) (σ:St) (H:Hp) (x y:V) (v u:Value) (Q:VK),Inv X pins σ H s→RelV x v→RelV y u→r x y H Q→
  subscripted slice false v u=operate [v,u] (getItem v u)→wpAny (model X.prog X.w) X.A (subscriptTail value slice v u) (EP X pins σ Q) X.xe s
def MtR(X:Cx)(id:String)(r:V→List V→Hp→VK→Prop):Prop:=
 ∀(pins:List (Addr×Obj)) (s:Shared) (σ:St) (H:Hp) (x:V) (xs:List V) (v:Value) (us:List Value) (Q:VK),Inv X pins σ H s→RelV x v→Vals xs us→r x xs H Q→
  wpAny (model X.prog X.w) X.A (call (.builtin id) (v::us)) (EP X pins σ Q) X.xe s
section
variable{X:Cx}{a b:Expr}{ta tb:TE}{pos:Pos}
theorem IxR.or{r r':R2}(h:IxR X r)(h':IxR X r'):IxR X (fun x y H Q=>r x y H Q∨r' x y H Q):=by
 intro value slice pins s σ H x y v u Q I rx ry q hs;rcases q with q|q
 ·exact h value slice pins s σ H x y v u Q I rx ry q hs
 ·exact h' value slice pins s σ H x y v u Q I rx ry q hs
theorem pe_ix{r:R2}(hr:IxR X r)(ha:PE X a ta)(hb:PE X b tb)(hs:R3 b):PE X (.Subscript a b pos) (tOp r ta tb):=by
 intro pins s σ H Q I h;exact Subscript_ (binT ha hb I h fun v u s2 x y H2 I2 rx ry q=>hr a b pins s2 σ H2 x y v u Q I2 rx ry q (hs _ _))

def rIxL(K:W.Frag):R2:=fun x y H Q=>∃p xs i v,x=.ref p∧y=.int i∧SqL K H p xs∧atI xs i=some v∧Q v H
def rIxT(K:W.Frag):R2:=fun x y H Q=>∃p xs i v,x=.ref p∧y=.int i∧SqT K H p xs∧atI xs i=some v∧Q v H
def rIxS:R2:=fun x y H Q=>∃z i c,x=.str z∧y=.int i∧z.length≤sizeLine∧atI z.cps.toList i=some c∧Q (.str ⟨#[c]⟩) H
theorem ix_list:IxR X (rIxL X.K):=by
 intro value slice pins s σ H x y v u Q I rx ry h hs;obtain⟨p,xs,i,z,rfl,rfl,hq,he,q⟩:=h;cases rx;obtain⟨t,rfl⟩:=ry;obtain⟨its,r,pl,hz⟩:=I.list hq;obtain⟨j,h1,h2,h3,h4,h5⟩:=Mg he;obtain⟨w,ew,rw'⟩:=r.get h2;have hl:=r.length;have hn:=F7;have fin:EP X pins σ Q w s:=⟨z,H,I,rw',q⟩
 by_cases h0:0≤i
 ·have hj:i.toNat=j:=by
   rw[seqIndex_of h0 h5] at h1;exact Option.some.inj h1
  exact item_listR pl.isList h0 (by omega) (by rw[hj];simpa using ew) fin hs
 ·have hj:(i+(its.toArray.size:Int)).toNat=j:=by
   rw[seqIndex_neg (by omega) h4] at h1
   rw[List.size_toArray,←hl];exact Option.some.inj h1
  exact subscriptTail_builtinR (x:=w) pl.isList.typeIs slot_list_getitem.lookup
   (wpAny_getItem_list_neg (Q:=fun r s'=>r=w∧EP X pins σ Q r s') pl.isList (by omega) (by rw[List.size_toArray]<;>omega) (by omega) (by rw[hj];simpa using ew) ⟨rfl,fin⟩) hs
theorem ix_tup:IxR X (rIxT X.K):=by
 intro value slice pins s σ H x y v u Q I rx ry h hs;obtain⟨p,xs,i,z,rfl,rfl,hq,he,q⟩:=h;cases rx;obtain⟨t,rfl⟩:=ry;obtain⟨its,r,pl,hz⟩:=I.tuple hq;obtain⟨j,h1,h2,h3,h4,h5⟩:=Mg he;obtain⟨w,ew,rw'⟩:=r.get h2;have hl:=r.length;have hn:=F7;have fin:EP X pins σ Q w s:=⟨z,H,I,rw',q⟩;exact subscriptTail_builtinR (x:=w) pl.typeIs slot_tuple_getitem.lookup
  (getItem_tuple (j:=j) (Q:=fun r s'=>r=w∧EP X pins σ Q r s') pl (by omega) (by omega) (by rw[List.size_toArray,←hl];exact h1) (by simpa using ew) ⟨rfl,fin⟩) hs
theorem Ad0:IxR X rIxS:=by
 intro value slice pins s σ H x y v u Q I rx ry h hs;obtain⟨z,i,c,rfl,rfl,hz,he,q⟩:=h;obtain⟨t,rfl⟩:=rx;obtain⟨t',rfl⟩:=ry;obtain⟨j,h1,h2,h3,h4,h5⟩:=Mg he;have hl:z.cps.toList.length=z.length:=by simp[Str.length]
 rw[hl] at h1 h4 h5;have hn:=F7;exact tail_any (typeIs_str s z t) slot_str_getitem.lookup (getItem_str (c:=c) (by
  have e1:decide (i < -(2 ^ 63:Int))=false:=decide_eq_false (by omega)
  have e2:decide (i ≥ 2 ^ 63)=false:=decide_eq_false (by omega)
  rw[e1,e2,Bool.or_false]) (by rw[h1];simpa using h2) ⟨.str ⟨#[c]⟩,H,I.tok _,⟨_,rfl⟩,q⟩) hs
def rIx(K:W.Frag):R2:=fun x y H Q=>rIxL K x y H Q∨rIxT K x y H Q∨rIxS x y H Q
theorem ix_seq:IxR X (rIx X.K):=ix_list.or (ix_tup.or Ad0)

theorem Qc(its:List Value)(n j:Nat)(u:Value):Obj.mapSeq (·.setIfInBounds j u) { cls:=.type "list",data:=.seq its.toArray n }={ cls:=.type "list",data:=.seq (its.set j u).toArray n }:=by
 simp[Obj.mapSeq]
theorem Inv.lst{pins:List (Addr×Obj)}{σ:St}{H:Hp}{s:Shared}{p:Addr}{xs:List V}(I:Inv X pins σ H s)(h:H p=some (.lst xs)) :
  ∃(its:List Value) (n:Nat),Vals xs its∧s.heap.get? p=some { cls:=.type "list",data:=.seq its.toArray n }∧xs.length≤sizeLine:=by
 obtain⟨z,its,n,r,e⟩:=I.hok p _ h;exact⟨its,n,r,e,z⟩
theorem Inv.lstUpd{pins:List (Addr×Obj)}{σ:St}{H:Hp}{s:Shared}{p:Addr}{xs ys:List V}{its its':List Value}{n n':Nat}{f:Obj→Obj}(I:Inv X pins σ H s)(h:H p=some (.lst xs))(ho:s.heap.get? p=some { cls:=.type "list",data:=.seq its.toArray n })(hf:f { cls:=.type "list",data:=.seq its.toArray n }={ cls:=.type "list",data:=.seq its'.toArray n' })(r:Vals ys its')(hz:ys.length≤sizeLine)(t:Nat) :
  Inv X pins σ (upd H p (.lst ys)) { s with heap:=s.heap.update p f,toks:=t }:=by
 have e:(s.heap.update p f).get? p=some { cls:=.type "list",data:=.seq its'.toArray n' }:=by
  rw[Heap.get?_update_self f ho (by rw[hf]<;>rfl),hf]
 refine I.write (x:=p) (e:=p) (by rw[h];trivial) (.inl rfl) (fun b u hb q=>(Heap.get?_update_other _ _ (Ne.symm hb)).trans q) ⟨_,e⟩ ?_
 exact⟨hz,its',n',r,e⟩
def rSetL:V→V→V→Hp→(Hp→Prop)→Prop:=fun o i v H Q=>∃p xs k j,o=.ref p∧i=.int k∧H p=some (.lst xs)∧ixN xs.length k=some j∧Q (upd H p (.lst (xs.set j v)))
theorem set_list:PSet X rSetL:=by
 intro pins s σ H o i v ov iv u Q I ro ri rv h;obtain⟨p,xs,k,j,rfl,rfl,hp,hj,q⟩:=h;cases ro;obtain⟨t,rfl⟩:=ri;obtain⟨its,n,r,ho,hz⟩:=I.lst hp;obtain⟨h1,h2,h3,h4⟩:=Rq hj;have hl:=r.length;have hn:=F7;have I':Inv X pins σ (upd H p (.lst (xs.set j v))) { s with heap:=s.heap.update p (Obj.mapSeq (·.setIfInBounds j u)) }:=
  I.lstUpd hp ho (Qc its n j u) (r.set rv j) (by rw[List.length_set];exact hz) s.toks
 by_cases h0:0≤k
 ·have hk:k.toNat=j:=by
   rw[seqIndex_of h0 h4] at h1;exact Option.some.inj h1
  exact W.ki_setAt ho h0 (by omega) (by rw[List.size_toArray,←hl];exact h4) (by rw[hk];exact⟨_,I',q⟩)
 ·have hk:(k+(its.toArray.size:Int)).toNat=j:=by
   rw[seqIndex_neg (by omega) h3] at h1
   rw[List.size_toArray,←hl];exact Option.some.inj h1
  exact W.ki_setBack ho (by omega) (by rw[List.size_toArray,←hl];exact h3) (by omega) (by rw[hk];exact⟨_,I',q⟩)

theorem Mj(lo hi:Option Int)(n:Nat):(sliceBounds lo hi none n).1=((HT.sIx n 0 lo:Nat):Int)∧(sliceBounds lo hi none n).2.1=((HT.sIx n n hi:Nat):Int)∧(sliceBounds lo hi none n).2.2=1:=by
 refine⟨?_,?_,rfl⟩
 ·cases lo with
  |none=>simp[sliceBounds,HT.sIx]
  |some i=>
   simp only[sliceBounds,HT.sIx,Option.getD_none,show(1:Int)>0 by decide,if_true]
   by_cases h:i<0
   ·simp only[h,if_true]<;>omega
   ·simp only[h,if_false]<;>omega
 ·cases hi with
  |none=>simp[sliceBounds,HT.sIx]
  |some i=>
   simp only[sliceBounds,HT.sIx,Option.getD_none,show(1:Int)>0 by decide,if_true]
   by_cases h:i<0
   ·simp only[h,if_true]<;>omega
   ·simp only[h,if_false]<;>omega
theorem J5(its:List Value)(lo hi:Option Int):slicePick its.toArray lo hi none=((its.drop (HT.sIx its.length 0 lo)).take (HT.sIx its.length its.length hi-HT.sIx its.length 0 lo)).toArray:=by
 obtain⟨h1,h2,h3⟩:=Mj lo hi its.toArray.size;unfold slicePick;rw[h1,h2,h3];simp only[sliceRange_one,pick_run,List.size_toArray]<;>rfl
def rSlL(K:W.Frag):V→Option Int→Option Int→Hp→VK→Prop:=fun x lo hi H Q=>∃a xs,x=.ref a∧SqL K H a xs∧∀p,H p=none→Q (.ref p) (upd H p (.lst (M3 xs lo hi)))
theorem Yh:SlR X (rSlL X.K):=by
 intro pins s σ H x v vl vu lo hi sl Q I rx hs pl pu h;obtain⟨a,xs,rfl,hx,q⟩:=h;cases rx;obtain⟨its,r,ht,hz⟩:=I.list hx;have hlen:=r.length;refine⟨"list",_,slot_list_getitem.lookup,ht.isList.typeIs,?_⟩;refine wpAny_getItem_list_slice ht.isList hs pl pu .none (by simp) ?_ (by rw[List.size_toArray]<;>omega)
 rw[J5,←hlen];refine⟨.ref s.heap.objs.size,_,I.laid (t':=s.toks) (o:=.lst (M3 xs lo hi)) (fun b ob q=>Heap.get?_push_of_some _ q) (Nat.le_refl _) ?_,rfl,q _ (I.hok.fresh (Nat.le_refl _))⟩;exact⟨Nat.le_trans (Hi xs lo hi) hz,_,0,(r.drop (HT.sIx xs.length 0 lo)).take (HT.sIx xs.length xs.length hi-HT.sIx xs.length 0 lo),Heap.get?_push_size _ rfl⟩

theorem call_list_of:CallR X (.type "list") (fun xs H Q=>∃p ys,xs=[.ref p]∧(SqL X.K H p ys∨SqT X.K H p ys)∧∀l,H l=none→Q (.ref l) (upd H l (.lst ys))):=by
 intro pins s σ H xs us Q I r h;obtain⟨p,ys,rfl,hq,q⟩:=h;obtain⟨u,rfl,rx⟩:=Hc r;cases rx;have fin:∀(its:List Value),Vals ys its→ys.length≤sizeLine→∀(h':Heap) (c':Nat),(∀b o',s.heap.get? b=some o'→h'.get? b=some o')→
   h'.get? s.heap.objs.size=some { cls:=.type "list",dict:=none,data:=.seq its.toArray c',slots:=#[] }→EP X pins σ Q (.ref s.heap.objs.size) { s with heap:=h' }:=fun its r' hz h' c' kp e=>
  ⟨.ref s.heap.objs.size,_,I.laid (t':=s.toks) kp (Nat.le_refl _) (show ObjOk X.prog X.w _ h' _ (.lst ys) from⟨hz,its,c',r',e⟩),rfl,q _ (I.hok.fresh (Nat.le_refl _))⟩
 rcases hq with hq|hq
 ·obtain⟨its,r',pl,hz⟩:=I.list hq;have hlen:=r'.length;obtain⟨o,ho,hc,n,hd⟩:=pl.isList;exact call_list_seq p (.inl rfl) ho hc hd (fun h' c' kp e=>fin its r' hz h' c' kp e) (by simp only[List.size_toArray]<;>omega)
 ·obtain⟨its,r',pl,hz⟩:=I.tuple hq;have hlen:=r'.length;obtain⟨o,ho,hc,n,hd⟩:=pl;exact call_list_seq p (.inr rfl) ho hc hd (fun h' c' kp e=>fin its r' hz h' c' kp e) (by simp only[List.size_toArray]<;>omega)
theorem call_tuple_of:CallR X (.type "tuple") (fun xs H Q=>∃p ys,xs=[.ref p]∧((SqL X.K H p ys∧∀l,H l=none→Q (.ref l) (upd H l (.tup ys)))∨(SqT X.K H p ys∧Q (.ref p) H))):=by
 intro pins s σ H xs us Q I r h;obtain⟨p,ys,rfl,h⟩:=h;obtain⟨u,rfl,rx⟩:=Hc r;cases rx;rcases h with ⟨hq,q⟩|⟨hq,q⟩
 ·obtain⟨its,r',pl,hz⟩:=I.list hq;have hlen:=r'.length;refine call_tuple_list pl.isList (fun h' kp=>?_) (by simp only[List.size_toArray]<;>omega)
  have I1:Inv X pins σ H { s with heap:=h' }:=I.kept (t':=s.toks) kp;have I2:Inv X pins σ (upd H h'.objs.size (.tup ys)) { s with heap:=h'.push { cls:=.type "tuple",data:=.seq its.toArray } }:=
   I1.laid (t':=s.toks) (fun b o e=>Heap.get?_push_of_some _ e) (Nat.le_refl _) (show ObjOk X.prog X.w _ _ _ (.tup ys) from⟨hz,its,r',IsTup.new _ _⟩)
  exact⟨.ref h'.objs.size,_,I2,rfl,q _ (I1.hok.fresh (Nat.le_refl _))⟩
 ·obtain⟨its,r',pl,hz⟩:=I.tuple hq;exact call_tuple_same pl ⟨.ref p,H,I,rfl,q⟩

def tyV(K:W.Frag)(T:String)(x:V)(H:Hp):Prop:=match x with
 |.str _=>T = "str"
 |.int _=>T = "int"
 |.ref p=>(T = "list"∧∃xs,SqL K H p xs)∨(T = "tuple"∧∃o,K.lookup p=some o∧o.cls=.type "tuple"∧o.dict=none)∨
   (T = "dict"∧((∃kvs,H p=some (.dK kvs))∨∃kvs,H p=some (.dT kvs)))∨(T = "set"∧∃S n,H p=some (.set S n))
 |_=>False
theorem Abl{pins:List (Addr×Obj)}{σ:St}{H:Hp}{s:Shared}{T:String}{x:V}{v:Value}(I:Inv X pins σ H s)(r:RelV x v)(ty:tyV X.K T x H) :
  s.TypeIs v T∧∀a,v=.ref a→∃ob,s.heap.get? a=some ob∧ob.dict=none:=by
 cases x with
 |str z=>
  obtain⟨t,rfl⟩:=r;cases(show T = "str" from ty);exact⟨typeIs_str s z t,fun _ e=>nomatch e⟩
 |int i=>
  obtain⟨t,rfl⟩:=r;cases(show T = "int" from ty);exact⟨typeIs_int s i t,fun _ e=>nomatch e⟩
 |ref p=>
  cases r;rcases ty with ⟨rfl,xs,hq⟩|⟨rfl,o,hk,hc,hd⟩|⟨rfl,hk⟩|⟨rfl,S,n,hk⟩
  ·obtain⟨its,_,pl,_⟩:=I.list hq;refine⟨pl.isList.typeIs,fun a e=>?_⟩;cases e;obtain⟨o,n,e,c,hd,_⟩:=pl;exact⟨o,e,hd⟩
  ·refine⟨⟨o,I.kIn p o hk,hc⟩,fun a e=>?_⟩;cases e;exact⟨o,I.kIn _ o hk,hd⟩
  ·have z:∃o,s.heap.get? p=some o∧o.ExactDict:=by
    rcases hk with ⟨kvs,hk⟩|⟨kvs,hk⟩
    ·obtain⟨_,_,_,_,o,_,_,e,ex,_⟩:=I.hok p _ hk;exact⟨o,e,ex⟩
    ·obtain⟨_,_,_,_,o,_,_,e,ex,_⟩:=I.hok p _ hk;exact⟨o,e,ex⟩
   obtain⟨o,e,ex⟩:=z;refine⟨⟨o,e,ex.1⟩,fun a e2=>?_⟩;cases e2;exact⟨o,e,ex.2.1⟩
  ·obtain⟨o,_,_,_,e,ex,_⟩:=I.hok p _ hk;refine⟨⟨o,e,ex.1⟩,fun a e2=>?_⟩;cases e2;exact⟨o,e,ex.2.1⟩
 |_=>exact False.elim ty
def tBM(K:W.Frag)(T:String)(r:V→List V→Hp→VK→Prop)(to:TE)(t:TA):TE:=fun σ H Q=>to σ H fun x H1=>tyV K T x H1∧t σ H1 fun xs H2=>r x xs H2 Q
variable{o e:Expr}{es:List Expr}{to:TE}{t:TA}{name:Str}{apos cpos:Pos}{T id:String}{r:V→List V→Hp→VK→Prop}
theorem Uf(pa:PlainAttrs T)(slot:Slot T name id)(hty:typeOf (.builtin id)=pure (.type "method_descriptor"))(hm:MtR X id r)(ho:PE X o to)(ha:PA X (e::es) t)(hbase:attributeBase o name X.env (eval o X.env)=eval o X.env:=by rfl)(hfew:((backTo cpos (starEach (e::es) X.env)).all (fun x=>!x.1)&&(backToKw cpos (keywordEach [] X.env)).all (fun x=>x.1.isSome)
   && decide ((e::es).length+([]:List Keyword).length+(if ([]:List Keyword).isEmpty then 0 else 1)<30))=true:=by rfl)(hline:(apos.endLine == cpos.line)=true:=by rfl)(hs:starEach (e::es) X.env=(false,eval e X.env)::starEach es X.env:=by rfl)(hplain:(backTo cpos (starEach es X.env)).any (·.1)=false:=by rfl) :
  PE X (.Call (.Attribute o name apos) (e::es) [] cpos) (tBM X.K T r to t):=by
 intro pins s σ H Q I h;refine wpAny_Call_method_late hbase hfew hline rfl (thn (ho pins s σ H _ I h) fun v s1 zz=>?_);obtain⟨x,H1,I1,r1,ty,q1⟩:=zz;obtain⟨h1,h2⟩:=Abl I1 r1 ty;refine⟨T,id,pa,slot,hty,h1,h2,?_⟩;have hA:=ha cpos pins s1 σ H1 _ I1 q1;rw[hs] at hA ⊢;refine Calls.callWith_builtin (by show(false||(backTo cpos (starEach es X.env)).any (·.1))=false;rw[hplain]<;>rfl) (Calls.evalArgs_plain ?_)
 exact thn hA fun us s2 ⟨vs,H2,I2,r2,q2⟩=>hm pins s2 σ H2 x vs v us Q I2 r1 r2 q2
end
end L2
namespace L2
open PySem PySem.Spec PyProof.Rows
def MtM(X:Cx)(id:String)(r:V→List V→Hp→VK→Prop):Prop:=
 ∀(pins:List (Addr×Obj)) (s:Shared) (σ:St) (H:Hp) (x:V) (xs:List V) (v:Value) (us:List Value) (Q:VK),Inv X pins σ H s→RelV x v→Vals xs us→r x xs H Q→
  wpAny (model X.prog X.w) X.A (call (.builtin id) (v::us)) (EP X pins σ Q) X.xe s

theorem Vals.one:∀{x:V} {us:List Value},Vals [x] us→∃u,us=[u]∧RelV x u
 |_,_,.cons r .nil=>⟨_,rfl,r⟩
theorem Vals.rep{xs:List V}{us:List Value}(h:Vals xs us):∀k:Nat,Vals (List.replicate k xs).flatten (List.replicate k us).flatten
 |0=>.nil
 |k+1=>by
  rw[List.replicate_succ,List.replicate_succ,List.flatten_cons,List.flatten_cons];exact Vals.append h (Vals.rep h k)
theorem Eh(its:List Value):∀(k:Nat) (acc:List Value),
  List.foldl (fun x1 x2=>x1++x2) acc.toArray (List.replicate k its.toArray)=(acc++(List.replicate k its).flatten).toArray
 |0,acc=>by simp
 |k+1,acc=>by
  have e:acc.toArray++its.toArray=(acc++its).toArray:=by simp
  have e2:(acc++its)++(List.replicate k its).flatten=acc++(List.replicate (k+1) its).flatten:=by
   rw[List.replicate_succ,List.flatten_cons,List.append_assoc]
  rw[←e2,←Eh its k (acc++its),←e,List.replicate_succ,List.foldl_cons]

section
variable{X:Cx}{pins:List (Addr×Obj)}{σ:St}{H:Hp}{s:Shared}{l b:Addr}{xs ys zs:List V}
theorem Inv.lset{its its':List Value}{n:Nat}{f:Array Value→Array Value}{t':Nat}(I:Inv X pins σ H s)(hH:H l=some (.lst xs))(e:s.heap.get? l=some { cls:=.type "list",data:=.seq its.toArray n })(hf:f its.toArray=its'.toArray)(hv:Vals ys its')(hz:ys.length≤sizeLine) :
  Inv X pins σ (upd H l (.lst ys)) { s with heap:=s.heap.update l (Obj.mapSeq f),toks:=t' }:=by
 have q:=PySem.IsL.update e f;rw[hf] at q;refine I.write (x:=l) (e:=l) (by rw[hH];exact trivial) (.inl rfl) (fun b' u hb hu=>(Heap.get?_update_other s.heap (Obj.mapSeq f) (Ne.symm hb)).trans hu) ⟨_,q⟩ ?_
 exact⟨hz,its',_,hv,q⟩
theorem Inv.lnew{its:List Value}{t':Nat}(I:Inv X pins σ H s)(hv:Vals ys its)(hz:ys.length≤sizeLine) :
  Inv X pins σ (upd H s.heap.objs.size (.lst ys)) { s with heap:=s.heap.push { cls:=.type "list",data:=.seq its.toArray },toks:=t' }:=
 I.laid (fun _ _ q=>Heap.get?_push_of_some _ q) (Nat.le_refl _) ⟨hz,its,0,hv,Heap.get?_push_size _ rfl⟩
theorem Inv.fresh(I:Inv X pins σ H s):H s.heap.objs.size=none:=I.hok.fresh (Nat.le_refl _)
theorem Inv.lstM(I:Inv X pins σ H s)(hH:H l=some (.lst xs)):xs.length≤sizeLine∧∃(its:List Value) (n:Nat),Vals xs its∧xs.length=its.length∧s.heap.get? l=some { cls:=.type "list",data:=.seq its.toArray n }:=by
 obtain⟨z,its,n,r,e⟩:=I.hok l _ hH;exact⟨z,its,n,r,r.length,e⟩

theorem No{n:Nat}(h:n≤sizeLine):Builtin.List.listTooLong n=false:=by
 unfold Builtin.List.listTooLong;exact decide_eq_false (by omega)
end
section
variable{X:Cx}
def Ym:V→List V→Hp→VK→Prop:=fun x vs H Q=>∃l xs y,x=.ref l∧vs=[y]∧H l=some (.lst xs)∧xs.length<sizeLine∧Q .non (upd H l (.lst (xs++[y])))
theorem Ge:MtM X "list.append" Ym:=by
 intro pins s σ H x vs v us Q I rx rv h;obtain⟨l,xs,y,rfl,rfl,hH,hz,q⟩:=h;cases rx;obtain⟨u,rfl,ru⟩:=rv.one;obtain⟨z,its,n,r,hl,e⟩:=I.lstM hH;refine call_meets F.slot_list_append ⟨_,e,rfl⟩ F.entry_list_append (F.args_list_append_2 _ _) (PySem.list_append l its.toArray n u (by rw[List.size_toArray];omega)) ⟨e,?_⟩
 refine⟨.non,_,I.lset (its':=its++[u]) hH e (by simp) (r.append (.cons ru .nil)) ?_,rfl,q⟩
 rw[List.length_append,List.length_singleton];omega

def Yl:V→List V→Hp→VK→Prop:=fun x vs H Q=>∃l b xs zs,x=.ref l∧vs=[.ref b]∧H l=some (.lst xs)∧H b=some (.lst zs)∧xs.length+zs.length≤sizeLine∧Q .non (upd H l (.lst (xs++zs)))
theorem Aek:MtM X "list.extend" Yl:=by
 intro pins s σ H x vs v us Q I rx rv h;obtain⟨l,b,xs,zs,rfl,rfl,hH,hB,hz,q⟩:=h;cases rx;obtain⟨u,rfl,ru⟩:=rv.one;cases ru;obtain⟨z,its,n,r,hl,e⟩:=I.lstM hH;obtain⟨z2,its2,n2,r2,hl2,e2⟩:=I.lstM hB;have hsz:its.toArray.size+its2.toArray.size≤sizeLine:=by rw[List.size_toArray,List.size_toArray];omega
 have hlong:¬(!its.toArray.isEmpty&&Builtin.List.listTooLong (its.toArray.size+its2.toArray.size))=true:=by
  rw[No hsz,Bool.and_false];exact Bool.false_ne_true
 refine call_meets F.slot_list_extend ⟨_,e,rfl⟩ F.entry_list_extend (F.args_list_extend_2 _ _)
  (AutoSeq1.list_extend_list_list_0 l its.toArray n b its2.toArray n2 hlong (by rw[List.size_toArray];omega) (by omega)) ⟨e,e2,?_⟩
 refine⟨.non,_,I.lset (its':=its++its2) hH e (by simp) (r.append r2) ?_,rfl,q⟩
 rw[List.length_append];omega

def rCat:R2:=fun x y H Q=>∃l b xs zs,x=.ref l∧y=.ref b∧H l=some (.lst xs)∧H b=some (.lst zs)∧xs.length+zs.length≤sizeLine∧∀p,H p=none→Q (.ref p) (upd H p (.lst (xs++zs)))
theorem Ada:OpR X (binaryOp .Add) rCat:=by
 intro pins s σ H x y v u Q I rx ry h;obtain⟨l,b,xs,zs,rfl,rfl,hH,hB,hz,q⟩:=h;cases rx;cases ry;obtain⟨z,its,n,r,hl,e⟩:=I.lstM hH;obtain⟨z2,its2,n2,r2,hl2,e2⟩:=I.lstM hB;refine PySem.P.add_list e e2 ?_ (by rw[List.size_toArray,List.size_toArray];omega)
 have ea:its.toArray++its2.toArray=(its++its2).toArray:=by simp
 rw[ea];exact⟨.ref _,_,I.lnew (t':=s.toks) (r.append r2) (by rw[List.length_append];omega),rfl,q _ I.fresh⟩
def rRep:R2:=fun x y H Q=>∃l k xs,x=.ref l∧y=.int k∧H l=some (.lst xs)∧-(2 ^ 63)≤k∧k<2 ^ 63∧xs.length*k.toNat≤sizeLine∧
 ∀p,H p=none→Q (.ref p) (upd H p (.lst (List.replicate k.toNat xs).flatten))
theorem Ma{α:Type}(xs:List α)(k:Nat):(List.replicate k xs).flatten.length=k*xs.length:=by
 induction k with
 |zero=>simp
 |succ k ih=>rw[List.replicate_succ,List.flatten_cons,List.length_append,ih,Nat.succ_mul,Nat.add_comm]
theorem Ac6:OpR X (binaryOp .Mult) rRep:=by
 intro pins s σ H x y v u Q I rx ry h;obtain⟨l,k,xs,rfl,rfl,hH,h1,h2,hz,q⟩:=h;cases rx;obtain⟨t,rfl⟩:=ry;obtain⟨z,its,n,r,hl,e⟩:=I.lstM hH;have hlen:its.toArray.size*k.toNat≤sizeLine:=by rw[List.size_toArray,←hl];exact hz
 have hcap:¬its.toArray.size*k.toNat>(2 ^ 63-1) / 8:=by
  have:(sizeLine:Nat)≤(2 ^ 63-1) / 8:=by decide
  omega
 have hfit:¬(!Builtin.List.listFitsIndex k)=true:=by
  rw[fitsIndex_both h1 h2];exact Bool.false_ne_true
 have hlong:¬Builtin.List.listTooLong (its.toArray.size*k.toNat)=true:=by
  rw[No hlen];exact Bool.false_ne_true
 have hnew:List.foldl (fun x1 x2=>x1++x2) #[] (List.replicate (if its.toArray.isEmpty=true then 0 else k.toNat) its.toArray)=(List.replicate k.toNat its).flatten.toArray:=by
  have f0:∀m:Nat,List.foldl (fun x1 x2=>x1++x2) #[] (List.replicate m its.toArray)=(List.replicate m its).flatten.toArray:=fun m=>by
   have:=Eh its m []
   rw[List.nil_append] at this;exact this
  rw[f0];cases its with
  |nil=>simp
  |cons a r'=>rw[if_neg (by simp)]
 refine wpAny_binaryOp_repeat_ref (T:="list") (U:="int") (by decide) ⟨_,e,rfl⟩ (fun s'=>typeIs_int s' k t) noFill_list_mul F.fills_int_mul F.slot_int_rmul repeat_list F.slot_int_index.lookup
  (call_meets F.slot_int_rmul (typeIs_int s k t) F.entry_int_rmul (F.args_int_rmul_2 _ _) (int___rmul___int_list k t l its.toArray n)
   ⟨e,rfl,⟨_,e,rfl⟩,call_meets F.slot_list_mul ⟨_,e,rfl⟩ F.entry_list_mul (F.args_list_mul_2 _ _) (AutoListH.list___mul___list_int_3 l its.toArray n k t hfit hcap hlong) ⟨e,?_⟩⟩)
 rw[hnew];exact⟨.ref _,_,I.lnew (t':=s.toks) (r.rep k.toNat) (by rw[Ma,Nat.mul_comm];exact hz),rfl,q _ I.fresh⟩

end
section
variable{prog:Program}{w:World}{A:Around}{E:Value→Shared→Prop}{s:Shared}
end
section
variable{X:Cx}
end
end L2
namespace L2
open PySem PySem.Spec PyProof.Rows
section
variable{κ:Type}[DecidableEq κ]
def C2(kvs:List (κ×V))(k:κ):Option V:=(kvs.find? fun kv=>decide (kv.1=k)).map (·.2)
def E4(kvs:List (κ×V))(k:κ)(v:V):List (κ×V):=
 if (kvs.any fun kv=>decide (kv.1=k))=true then kvs.map (fun kv=>if kv.1=k then (kv.1,v) else kv) else kvs++[(k,v)]
theorem Vq{p:κ×V}{r:List (κ×V)}{k:κ}(e:p.1=k):C2 (p::r) k=some p.2:=by simp[C2,List.find?_cons,e]
theorem Vr{p:κ×V}{r:List (κ×V)}{k:κ}(e:¬p.1=k):C2 (p::r) k=C2 r k:=by simp[C2,List.find?_cons,e]
theorem Oo(kvs:List (κ×V))(k:κ)(v:V):(E4 kvs k v).length≤kvs.length+1:=by
 unfold E4
 split
 ·rw[List.length_map];omega
 ·rw[List.length_append,List.length_cons,List.length_nil];omega
theorem RelO.isSome_eq{o:Option V}{u:Option Value}(r:RelO o u):o.isSome=u.isSome:=by
 cases o with
 |none=>cases u with
  |none=>rfl
  |some _=>exact(show False from r).elim
 |some _=>cases u with
  |none=>exact(show False from r).elim
  |some _=>rfl
theorem KV.val{kvs:List (κ×V)}{vs:List (κ×Value)}(r:KV kvs vs)(k:κ):RelO (C2 kvs k) (valueAt vs k):=by
 unfold KV at r
 induction r with
 |nil=>exact True.intro
 |@cons p q ps qs h t ih=>
  obtain⟨h1,h2⟩:=h
  by_cases e:p.1=k
  ·have e':q.1=k:=h1.symm.trans e;have b:valueAt (q::qs) k=some q.2:=by simp[valueAt,List.find?_cons,e']
   rw[Vq e,b];exact h2
  ·have e':¬q.1=k:=fun z=>e (h1.trans z);have b:valueAt (q::qs) k=valueAt qs k:=by simp[valueAt,List.find?_cons,e']
   rw[Vr e,b];exact ih
theorem KV.any{kvs:List (κ×V)}{vs:List (κ×Value)}(r:KV kvs vs)(k:κ):(kvs.any fun kv=>decide (kv.1=k))=vs.any fun kv=>decide (kv.1=k):=by
 unfold KV at r
 induction r with
 |nil=>rfl
 |cons h t ih=>rw[List.any_cons,List.any_cons,ih,h.1]
theorem KV.repl{kvs:List (κ×V)}{vs:List (κ×Value)}(r:KV kvs vs)(k:κ){y:V}{u:Value}(ry:RelV y u) :
  KV (kvs.map fun kv=>if kv.1=k then (kv.1,y) else kv) (vs.map fun kv=>if kv.1=k then (kv.1,u) else kv):=by
 unfold KV at r ⊢
 induction r with
 |nil=>exact .nil
 |@cons p q ps qs h t ih=>
  rw[List.map_cons,List.map_cons];refine .cons ?_ ih;obtain⟨h1,h2⟩:=h
  by_cases e:p.1=k
  ·rw[if_pos e,if_pos (h1.symm.trans e)];exact⟨h1,ry⟩
  ·rw[if_neg e,if_neg (fun z=>e (h1.trans z))];exact⟨h1,h2⟩
theorem KV.put{kvs:List (κ×V)}{vs:List (κ×Value)}(r:KV kvs vs)(k:κ){y:V}{u:Value}(ry:RelV y u):KV (E4 kvs k y) (stored vs k u):=by
 unfold E4 stored;rw[r.any k]
 by_cases e:(vs.any fun kv=>decide (kv.1=k))=true
 ·rw[if_pos e,if_pos e];exact r.repl k ry
 ·rw[if_neg e,if_neg e];exact Paired.snoc r ⟨rfl,ry⟩
theorem KV.length{kvs:List (κ×V)}{vs:List (κ×Value)}(r:KV kvs vs):kvs.length=vs.length:=Paired.length r
end
theorem Kl{P:Program}{w:World}{k:Key}{u:Value}(r:RelV (kV k) u):(Ar P w).is k u=true:=by
 cases k with
 |inl i=>obtain⟨t,e⟩:=(show ∃t,u=Value.int i t from r);subst e;exact Om P w i t
 |inr x=>obtain⟨t,e⟩:=(show ∃t,u=Value.str x t from r);subst e;exact Ol P w x t
theorem K3{P:Program}{w:World}:∀{ks:List Key} {us:List Value},Vals (ks.map kV) us→ItemsAre (Ar P w) ks us
 |[],_,r=>by rw[List.map_nil] at r;cases r;exact .nil
 |k::ks,_,r=>by
  rw[List.map_cons] at r;cases r with
  |cons h t=>exact .cons (Kl h) (K3 t)

abbrev KT(H:Hp):List (List Key×V)→List (List Key×Addr×Value)→Prop:=Paired fun p q=>p.1=q.1∧H q.2.1=some (.tup (p.1.map kV))∧RelV p.2 q.2.2
theorem KT.keeps{H H':Hp}{kvs:List (List Key×V)}{xs:List (List Key×Addr×Value)}(r:KT H kvs xs)(ht:∀b ys,H b=some (.tup ys)→H' b=some (.tup ys)):KT H' kvs xs:=
 Paired.mapP r fun _ _ z=>⟨z.1,ht _ _ z.2.1,z.2.2⟩

section
variable{P:Program}{w:World}{H:Hp}{h:Heap}{a:Addr}
theorem Aam{u:HO}(ok:HOk P w H h)(e:Rd H a u):ObjOk P w H h a u:=e.ok ok
theorem Aa3{kvs:List (Key×V)}(ok:HOk P w H h)(e:Rd H a (.dK kvs)):kvs.length≤sizeLine∧(a == sysModules)=false∧∃vs,KV kvs vs∧h.DictOf (Ar P w) a vs:=
 show ObjOk P w H h a (.dK kvs) from Aam ok e
theorem Km{kvs:List (Key×V)}(ok:HOk P w H h)(e:H a=some (.dK kvs)):kvs.length≤sizeLine∧(a == sysModules)=false∧∃vs,KV kvs vs∧h.DictOf (Ar P w) a vs:=Aa3 ok (.inl e)
theorem Adw{ks:List Key}(ok:HOk P w H h)(e:H a=some (.tup (ks.map kV))):(tupleKind (Ar P w)).is h ks a:=by
 obtain⟨_,its,r,o,h1,h2,n,h3⟩:=(show ObjOk P w H h a (.tup (ks.map kV)) from ok a _ e);exact⟨o,its.toArray,n,h1,h2,h3,by simpa using K3 r⟩
theorem dt_rd{kvs:List (List Key×V)}(ok:HOk P w H h)(e:Rd H a (.dT kvs)):kvs.length≤sizeLine∧(a == sysModules)=false∧
  ∃xs,KT H kvs xs∧h.DictOfH (tupleKind (Ar P w)) a xs:=by
 obtain⟨z,y,xs,r,o,es,ep,h1,h2,h3,h4,h5⟩:=(show ObjOk P w H h a (.dT kvs) from Aam ok e);refine⟨z,y,xs,r,o,es,ep,h1,h2,h3,h4,fun x hx=>?_,h5⟩;have all:∀{l:List (List Key×V)} {m:List (List Key×Addr×Value)},KT H l m→∀x∈m,(tupleKind (Ar P w)).is h x.1 x.2.1:=by
  intro l m q
  induction q with
  |nil=>intro x hx;exact nomatch hx
  |@cons p q ps qs hq t ih=>
   intro x hx;rcases List.mem_cons.mp hx with e|hx
   ·subst e;exact Adw ok (by rw[←hq.1];exact hq.2.1)
   ·exact ih x hx
 exact all r x hx
end
def DGet(H:Hp)(a:Addr)(y:V)(r:Option V):Prop:=
 (∃kvs k,Rd H a (.dK kvs)∧y=kV k∧r=C2 kvs k)∨∃kvs k b,Rd H a (.dT kvs)∧y=.ref b∧H b=some (.tup (k.map kV))∧r=C2 kvs k
def DPut(H:Hp)(a:Addr)(y v:V)(H':Hp):Prop:=
 (∃kvs k,H a=some (.dK kvs)∧y=kV k∧kvs.length<sizeLine∧H'=upd H a (.dK (E4 kvs k v)))∨
 ∃kvs k b,H a=some (.dT kvs)∧y=.ref b∧H b=some (.tup (k.map kV))∧kvs.length<sizeLine∧H'=upd H a (.dT (E4 kvs k v))
theorem DGet.k{H:Hp}{a:Addr}{kvs:List (Key×V)}{k:Key}(e:H a=some (.dK kvs)):DGet H a (kV k) (C2 kvs k):=.inl ⟨kvs,k,.inl e,rfl,rfl⟩
theorem DGet.t{H:Hp}{a b:Addr}{kvs:List (List Key×V)}{k:List Key}(e:H a=some (.dT kvs))(eb:H b=some (.tup (k.map kV))):DGet H a (.ref b) (C2 kvs k):=.inr ⟨kvs,k,b,.inl e,rfl,eb,rfl⟩
theorem DPut.k{H:Hp}{a:Addr}{kvs:List (Key×V)}{k:Key}{v:V}(e:H a=some (.dK kvs))(hl:kvs.length<sizeLine):DPut H a (kV k) v (upd H a (.dK (E4 kvs k v))):=.inl ⟨kvs,k,e,rfl,hl,rfl⟩
theorem DPut.t{H:Hp}{a b:Addr}{kvs:List (List Key×V)}{k:List Key}{v:V}(e:H a=some (.dT kvs))(eb:H b=some (.tup (k.map kV)))(hl:kvs.length<sizeLine) :
  DPut H a (.ref b) v (upd H a (.dT (E4 kvs k v))):=.inr ⟨kvs,k,b,e,rfl,eb,hl,rfl⟩


section
variable{X:Cx}{pins:List (Addr×Obj)}{σ:St}{H:Hp}{s:Shared}{a:Addr}{y v:V}{u r:Value}{o:Option V}{A:Around}{E:Value→Shared→Prop}
theorem Inv.big(I:Inv X pins σ H s):sysModules<s.heap.objs.size:=by
 have h:mainGlobals<s.heap.objs.size:=(I.mod.glob.keeps I.bk).lt;exact Nat.lt_trans (by decide) h

theorem Z5{h':Heap}{t':Nat}{ob:HO}(I:Inv X pins σ H s)(mu:Mut (H a))(hs:Heap.SameBut a s.heap h')(he:∃q,h'.get? a=some q)(new:ObjOk X.prog X.w (upd H a ob) h' a ob) :
  Inv X pins σ (upd H a ob) { s with heap:=h',toks:=t' }:=
 I.write (x:=a) (e:=a) mu (.inl rfl) (fun b q hb z=>(hs.2 b hb).trans z) he new
theorem Ad9{P:Program}{w:World}{H':Hp}{h':Heap}{kvs:List (Key×V)}{vs:List (Key×Value)}(z:kvs.length≤sizeLine)(hd:(a == sysModules)=false)(rel:KV kvs vs)(dd:h'.DictOf (Ar P w) a vs) :
  ObjOk P w H' h' a (.dK kvs):=⟨z,hd,vs,rel,dd⟩
end
section
variable{X:Cx}{pins:List (Addr×Obj)}{σ:St}{H:Hp}{s:Shared}{a:Addr}{kvs:List (Key×V)}{k:Key}{u:Value}{A:Around}{E:Value→Shared→Prop}
end
def NoSl(i:Expr):Prop:=∀ov iv,subscripted i false ov iv=operate [ov,iv] (getItem ov iv)
theorem Yf{prog:Program}{w:World}{A:Around}{E:Value→Shared→Prop}{s:Shared}{env:Env}{value slice:Expr}{pos:Pos}{T id:String}{Q:Value→Shared→Prop}(hl:typeLookup (.type T) "__getitem__" = pure (some (.builtin id)))(hs:NoSl slice)(h:wpAny (model prog w) A (eval value env) (fun o s₁=>wpAny (model prog w) A (eval slice env) (fun i s₂=>s₂.TypeIs o T∧wpAny (model prog w) A (getItem o i) Q E s₂) E s₁) E s) :
  wpAny (model prog w) A (eval (.Subscript value slice pos) env) Q E s:=by
 refine Subscript_ (wpAny_mono h (fun o s₁ h₁=>wpAny_mono h₁ (fun i s₂ h₂=>?_) fun _ _ x=>x) fun _ _ x=>x);obtain⟨hT,h₂⟩:=h₂;unfold subscriptTail;refine wpAny_bind ?_;rw[getitemInPython_of_ne hT.not_modules];refine wpAny_bind (wpAny_specialOf hT hl ?_);have fin:wpAny (model prog w) A (subscripted slice false o i) (fun r s₃=>wpAny (model prog w) A (letTemporaryGo value o r >>= fun _=>pure r) Q E s₃) E s₂:=by
  rw[hs o i];exact wpAny_operating (wpAny_mono h₂ (fun r s₃ h₃=>wpAny_bind (wpAny_letTemporaryGo (wpAny_pure h₃))) fun _ _ x=>x)
 first
  |exact wpAny_pure (wpAny_bind fin)
  |exact wpAny_bind (wpAny_pure (wpAny_bind fin))
  |exact wpAny_bind fin

section
variable{X:Cx}{o i e value:Expr}{pos pos' tpos:Pos}{td ty tv:TE}
end
theorem N4{P:Program}{w:World}{H:Hp}(h:Heap)(hb:sysModules<h.objs.size):ObjOk P w H (h.push { cls:=.type "dict",data:=.dict #[] }) h.objs.size (.dK []):=
 ⟨Nat.zero_le _,beq_eq_false_iff_ne.mpr (Ne.symm (Nat.ne_of_lt hb)),[],.nil,Heap.DictOf.new h⟩
def Abq:TE:=fun _ H Q=>∀p,H p=none→Q (.ref p) (upd H p (.dK []))
section
variable{X:Cx}{pos:Pos}
theorem pe_dnewK:PE X (.Dict [] [] pos) Abq:=fun pins s σ H Q I h=>
 wpAny_Dict_empty ⟨.ref s.heap.objs.size,_,I.laid (a:=s.heap.objs.size) (o:=.dK []) (t':=s.toks) (fun _ _ q=>Heap.get?_push_of_some _ q) (Nat.le_refl _) (N4 s.heap I.big),rfl,h _ (I.hok.fresh (Nat.le_refl _))⟩
end
def IsD(H:Hp)(a:Addr):Prop:=(∃kvs,Rd H a (.dK kvs))∨∃kvs,Rd H a (.dT kvs)
theorem Vf{X:Cx}{pins:List (Addr×Obj)}{σ:St}{H:Hp}{s:Shared}{a:Addr}(I:Inv X pins σ H s)(d:IsD H a) :
  s.TypeIs (.ref a) "dict"∧(∀b,Value.ref a=.ref b→∃ob,s.heap.get? b=some ob∧ob.dict=none)∧(a == sysModules)=false:=by
 rcases d with ⟨kvs,e⟩|⟨kvs,e⟩
 ·obtain⟨_,hd,vs,_,dd⟩:=Aa3 I.hok e;refine⟨dd.typeIs,fun b q=>?_,hd⟩;cases q;obtain⟨ob,_,_,h1,h2,_⟩:=dd;exact⟨ob,h1,h2.2.1⟩
 ·obtain⟨_,hd,xs,_,dd⟩:=dt_rd I.hok e;refine⟨dd.typeIs,fun b q=>?_,hd⟩;cases q;obtain⟨ob,_,_,h1,h2,_⟩:=dd;exact⟨ob,h1,h2.2.1⟩

section
variable{X:Cx}{pins:List (Addr×Obj)}{σ:St}{H:Hp}{s:Shared}{a:Addr}{y d:V}{u r:Value}{o:Option V}{A:Around}{E:Value→Shared→Prop}
end
section
variable{X:Cx}{o e f:Expr}{apos cpos:Pos}{td ty tx:TE}
end
section
variable{X:Cx}{pins:List (Addr×Obj)}{σ:St}{H:Hp}{s:Shared}{a:Addr}{kvs:List (Key×V)}{A:Around}{E:Value→Shared→Prop}
end
section
variable{X:Cx}{pins:List (Addr×Obj)}{σ:St}{H:Hp}{s:Shared}{a:Addr}{y:V}{u:Value}{A:Around}{E:Value→Shared→Prop}
end
end L2
namespace Att
open PySem PySem.W PySem.Calls PyProof.Rows
theorem Hq{P:Params}{h:Heap}:∀(ns:List Int) (vs:List Value),WellAll P h vs (ns.map WData.int)→IntsAre vs ns:=by
 intro ns
 induction ns with
 |nil=>
  intro vs w;rw[List.map_nil] at w;cases w;exact .nil
 |cons n ns ih=>
  intro vs w;rw[List.map_cons] at w;cases w with
  |cons a b=>
   cases a;exact .cons _ _ (ih _ b)

theorem Sc{l:OpenLaw}{n:Nat}(hn:l.most=some n){P:Params}{h:Heap}{args:List WData}{vals:List Value}(hpre:l.row.toRowW.claim.pre args=true)(hwl:WellAll P h vals args) :
  ∃a vs ns,vals=[Value.ref a]∧args=[WData.list (ns.map WData.int)]∧h.get? a=some { cls:=.type "list",data:=.seq vs.toArray }∧IntsAre vs ns∧ns.length≤n:=by
 have hsh:WShape.hasAll [] args [.list .int]=true:=(pre_splitW hpre).1;have hc:l.pre.holds [] { args:=args }=true:=(pre_splitW hpre).2;obtain⟨d,r,rfl,h1,h2⟩:=hasAllW_cons hsh;obtain rfl:=hasAllW_nil h2;obtain⟨xs,rfl,h3⟩:=hasW_list h1;obtain⟨ns,rfl⟩:=items_int h3;have hlen:ns.length≤n:=by
  unfold OpenLaw.pre at hc;have h4:(WTm.not (.lt (.lit (.int (n:Int))) (.len (.arg 0)))).holds [] { args:=[.list (ns.map .int)] }=true:=by
   have h4:=(holds_andW hc).1;rw[hn] at h4;exact h4
  have h5:=condW_of h4 (w_not (w_lt w_lit (w_len_list (w_arg rfl))));rw[List.length_map] at h5;refine Nat.le_of_not_lt fun q=>?_;have q':(n:Int)<((ns.length:Nat):Int):=by omega
  first
   |(rw[decide_eq_true q'] at h5;exact absurd h5 (by decide))
   |(simp at h5;omega)
 cases hwl with
 |cons w1 w2=>
  cases w2;cases w1 with
  |list ho hall=>exact⟨_,_,ns,rfl,rfl,ho,Hq ns _ hall,hlen⟩

theorem Sm(l:OpenLaw)(args:List WData):l.row.toRowW.claim.post args (.bool true) args=true:=
 postW_of (r:=l.row.toRowW) (X:=(true == true))
  (show WShape.has [] (.bool true) .bool=true by first|rfl|decide|simp[WShape.has,WShape.arms,WShape.armsAll])
  (show(WTm.eq .res (.lit (.bool true))).value [] { args:=args,res:=some (.bool true),after:=args }=some (.bool (true == true)) from w_eq_bool (w_res rfl) w_lit) rfl

theorem attach_call{l:OpenLaw}{n:Nat}{q:Program}{loose:List Str}{XP:(Str→Option Value)→Heap→Prop}{YP:World→Heap→Prop}{d:DefRec}(hn:l.most=some n)(hdf:d.params.defaults=[])(call:∀(w:World) (s₀ s₁:Shared) (mg mb:Str→Option Value) (fa:Addr) (o:Obj) (pm cd doc:Value) (a:Addr) (vs:List Value) (ns:List Int),
   Ground q loose [] XP w s₀ mg mb s₁.heap→YP w s₁.heap→
   s₁.heap.get? fa=some o→o.data=.func (docDef d.name d.params d.body d.scope pm cd doc)→s₁.heap.CodeRec cd d.name→mg d.name=some (.ref fa)→
   s₁.heap.get? a=some { cls:=.type "list",data:=.seq vs.toArray }→IntsAre vs ns→ns.length≤n→s₁.gens=#[]→
   codeAny (model l.prog w) callerA (.call (.ref fa) ⟨[.ref a],[]⟩) (fun r s'=>r=.ok (.ret (.bool true))∧OldK s₁.heap s'.heap∧s'.os=s₁.os∧AllBare s'.gens) s₁) :
  WalkO q loose XP YP l.row.toRowW d [] (fun f vs=>PySem.call f vs):=by
 intro w s₀ s₁ mg mb G Y fa o pm cd doc dV kV ho hd hcd hD hmg hg args vals as hpre hlay hrd hwl hlo;obtain rfl:dV=.none:=Dflts.none hD hdf;obtain rfl:kV=.none:=Dflts.noKw hD;obtain⟨a,vs,ns,rfl,rfl,hobj,hints,hlen⟩:=Sc hn hpre hwl;refine enter_call (codeAny_mono (call w s₀ s₁ mg mb fa o pm cd doc a vs ns G Y ho (fd_plain hd) hcd hmg hobj hints hlen hg) fun r s' hq=>?_);obtain⟨rfl,h2,h3,h4⟩:=hq;exact⟨.inl ⟨.bool true,.bool true,[],rfl,fun _=>rfl,.bool true,Sm l _,fun _=>⟨List.Pairwise.nil,fun _ hm=>(nomatch hm)⟩⟩,h2,h3,h4⟩

section
variable{prog:Program}{w:World}{A:Around}{E:Value→Shared→Prop}{s:Shared}{K:Frag}
end
end Att
namespace L2
open PySem PySem.Spec PyProof.Rows
theorem vals_ints:∀{vs:List Value} {ns:List Int},IntsAre vs ns→Vals (ns.map V.int) vs
 |_,_,.nil=>.nil
 |_,_,.cons n t h=>.cons ⟨t,rfl⟩ (vals_ints h)

end L2
namespace L2
open PySem PySem.Spec PyProof.Rows
abbrev KOf{K:W.Frag}{h:Heap}(_:K.In h):W.Frag:=K

end L2
namespace L2
open PySem PySem.Spec PyProof.Rows
def defArgs(s:Stmt):Arguments:=match s with
 |.FunctionDef _ a _ _ _ _ _ _ _ _=>a
 |_=>{ posonlyargs:=[],args:=[],vararg:=none,kwonlyargs:=[],kw_defaults:=[],kwarg:=none,defaults:=[] }
def defBody(s:Stmt):List Stmt:=match s with
 |.FunctionDef _ _ b _ _ _ _ _ _ _=>b
 |_=>[]
def defScope(s:Stmt):Scope:=match s with
 |.FunctionDef _ _ _ _ _ _ sc _ _ _=>sc
 |_=>{ kind:=.function,names:=[],isGenerator:=false,isCoroutine:=false }

abbrev CX0:CXT:=fun _ _ _ _ _ _=>False
abbrev E0:XK:=fun _ _ _=>False
structure Fun(K:W.Frag)(x qual:Str)(st:Stmt)(f:Addr)(fd:FuncData):Prop where
 ex:∃(oc:Value) (od:Option Addr) (kV doc pm:Value) (an:Option Addr) (cdv ct:Value) (osl:Array (Option Value)),
  fd=W.fnOf x qual (defArgs st) (defBody st) (defScope st) .none kV doc pm an cdv ct∧K.lookup f=some ⟨oc,od,.func fd,osl⟩∧W.codeIn K cdv qual=true
 kp:W.keepIn K (.ref f)=true
section
variable{P:Program}{w:World}{K:W.Frag}{mg:Str→Option Value}{base:Heap}
theorem Fun.ok{x qual:Str}{st:Stmt}{f:Addr}{fd:FuncData}{N ps:List Str}{k:Nat}{sp:Sp}(F:Fun K x qual st f fd)(S:FnScope N ps (defScope st))(len:∀vs H Q E,sp vs H Q E→vs.length=ps.length)(hbody:∀(cdv:Value) (A:Around) (outer:List Env) (s:Shared) (H:Hp) (vs:List V) (Q:VK) (E:XK),Room k (A.deeper (envOfC qual (defScope st) s.heap.objs.size f cdv))→sp vs H Q E→
   ∃t,PSs (Cw CX0 P w K mg base N qual (defScope st) f cdv A outer s H E).nox (defBody st) t∧t { nx:=fun _ H'=>Q .non H',rt:=Q } (start N vs) H):FnOk P w K mg base CX0 (k+1) f fd ps sp:=by
 obtain⟨oc,od,kV,doc,pm,an,cdv,ct,osl,rfl,lk,hcd⟩:=F.ex;refine Uq lk hcd S len fun A outer s H vs Q E hr hsp=>?_;obtain⟨t,h,q⟩:=hbody cdv A outer s H vs Q E hr hsp;exact⟨t,h.nox,q⟩
theorem Fun.binds{x qual:Str}{st:Stmt}{f:Addr}{fd:FuncData}{ps:List Str}(F:Fun K x qual st f fd)(h:∀(kV doc pm:Value) (an:Option Addr) (cdv ct:Value) (us:List Value),us.length=ps.length→bindArgs (W.fnOf x qual (defArgs st) (defBody st) (defScope st) .none kV doc pm an cdv ct) ⟨us,[]⟩=pure (ps.zip us)):Binds K fd ps []:=by
 obtain⟨oc,od,kV,doc,pm,an,cdv,ct,osl,rfl,lk,hcd⟩:=F.ex;exact .all (h kV doc pm an cdv ct)
theorem Pr{x qual:Str}{st:Stmt}{f:Addr}{oc:Value}{od an:Option Addr}{osl:Array (Option Value)}{kV doc pm cdv ct:Value}(l:K.lookup f=some ⟨oc,od,.func (W.fnOf x qual (defArgs st) (defBody st) (defScope st) .none kV doc pm an cdv ct),osl⟩)(c:W.codeIn K cdv qual=true)(k:W.keepIn K (.ref f)=true):Fun K x qual st f (W.fnOf x qual (defArgs st) (defBody st) (defScope st) .none kV doc pm an cdv ct):=⟨⟨oc,od,kV,doc,pm,an,cdv,ct,osl,rfl,l,c⟩,k⟩
end
theorem Kt{n:Nat}(h:n≤1000):n<sizeLine:=Nat.lt_of_le_of_lt h (by decide)

section
variable{X:Cx}
theorem pv(i:Nat){x:Str}{pos:Pos}(hN:X.N[i]? = some x:=by rfl)(hv:Vis X.env.scope x:=by first|exact Or.inl rfl|exact Or.inr (Or.inl rfl)|exact Or.inr (Or.inr rfl))(hd:(x == ("__debug__" : Str))=false:=by decide)(hcd:(x == ("__classdict__" : Str))=false:=by decide):PE X (.Name x pos) (tVar i):=Lq hN hv hd hcd
end
def Same(H H':Hp):Prop:=∀b o,H b=some o→H' b=some o
theorem Same.trans{H H1 H2:Hp}(a:Same H H1)(b:Same H1 H2):Same H H2:=fun c o h=>b c o (a c o h)
theorem Same.free{H H':Hp}(e:Same H H'){l:Addr}(h:H' l=Option.none):H l=Option.none:=by
 cases q:H l with
 |none=>rfl
 |some o=>
  rw[e l o q] at h;cases h
section
variable{X:Cx}
end
section
variable{κ:Type}[DecidableEq κ]
end
end L2
namespace D3
open PySem PySem.Spec
open PyProof.Rows hiding St
open L2 hiding St
inductive D where
 |non|bl (b:Bool)|int (i:Int)|str (x:Str)|tup (ds:List D)|ref (a:Addr)|ty (n:String)|lint (ns:List Int)
 deriving Inhabited

def RdI(K:W.Frag)(H:Hp)(a:Addr)(xs:List V):Prop:=(∃o,H a=some (.frz o (.lst xs)))∨
 ∃(o:Obj) (its:Array Value) (n:Nat),K.lookup a=some o∧o.cls=.type "list"∧o.dict=none∧o.data=.seq its n∧its.size≤sizeLine∧Vals xs its.toList
theorem RdI.sq{K:W.Frag}{H:Hp}{a:Addr}{xs:List V}(h:RdI K H a xs):SqL K H a xs:=h.elim (fun⟨o,e⟩=>.inl (.inr ⟨o,e⟩)) .inr
mutual
inductive DV (K:W.Frag) (H:Hp):D→V→Prop where
 |non:DV K H .non .non
 |bl (b:Bool):DV K H (.bl b) (.bl b)
 |int (i:Int):DV K H (.int i) (.int i)
 |str (x:Str):DV K H (.str x) (.str x)
 |ref (a:Addr):DV K H (.ref a) (.ref a)
 |ty (n:String):DV K H (.ty n) (.ty n)
 |lint {ns:List Int} {a:Addr} (e:RdI K H a (ns.map V.int)):DV K H (.lint ns) (.ref a)
 |tup {ds:List D} {a:Addr} {xs:List V} (e:H a=some (.tup xs)) (r:DVs K H ds xs):DV K H (.tup ds) (.ref a)
inductive DVs (K:W.Frag) (H:Hp):List D→List V→Prop where
 |nil:DVs K H [] []
 |cons {d:D} {v:V} {ds:List D} {vs:List V} (h:DV K H d v) (t:DVs K H ds vs):DVs K H (d::ds) (v::vs)
end
structure Ext(H H':Hp):Prop where
 tup:∀b xs,H b=some (.tup xs)→H' b=some (.tup xs)
 frz:∀b o u,H b=some (.frz o u)→H' b=some (.frz o u)
theorem Ext.refl(H:Hp):Ext H H:=⟨fun _ _ h=>h,fun _ _ _ h=>h⟩
theorem Ext.trans{H H1 H2:Hp}(a:Ext H H1)(b:Ext H1 H2):Ext H H2:=⟨fun c xs h=>b.tup c xs (a.tup c xs h),fun c o u h=>b.frz c o u (a.frz c o u h)⟩
theorem Ext.fresh{H:Hp}{p:Addr}{o:HO}(h:H p=none):Ext H (upd H p o):=⟨fun b xs e=>by
 rw[Ac (Ak e h)];exact e,fun b ob u e=>by rw[Ac (Ak e h)];exact e⟩
theorem Ext.write{H:Hp}{p:Addr}{o u:HO}(h:H p=some u)(n:∀xs,u≠.tup xs)(m:∀ob w,u≠.frz ob w):Ext H (upd H p o):=⟨fun b xs e=>by
 rw[Ac (Ds e h fun z=>n xs z.symm)];exact e,fun b ob w e=>by rw[Ac (Ds e h fun z=>m ob w z.symm)];exact e⟩
theorem RdI.ext{K:W.Frag}{H H':Hp}{a:Addr}{xs:List V}(h:RdI K H a xs)(x:Ext H H'):RdI K H' a xs:=h.elim (fun⟨o,e⟩=>.inl ⟨o,x.frz _ _ _ e⟩) .inr
section
variable{K:W.Frag}
mutual
theorem DV.ext{H H':Hp}(x:Ext H H'):∀{d:D} {v:V},DV K H d v→DV K H' d v
 |_,_,.non=>.non
 |_,_,.bl b=>.bl b
 |_,_,.int i=>.int i
 |_,_,.str s=>.str s
 |_,_,.ref a=>.ref a
 |_,_,.ty n=>.ty n
 |_,_,.lint e=>.lint (e.ext x)
 |_,_,.tup e r=>.tup (x.tup _ _ e) (DVs.ext x r)
theorem DVs.ext{H H':Hp}(x:Ext H H'):∀{ds:List D} {vs:List V},DVs K H ds vs→DVs K H' ds vs
 |_,_,.nil=>.nil
 |_,_,.cons h t=>.cons (DV.ext x h) (DVs.ext x t)
end
theorem DVs.length{H:Hp}:∀{ds:List D} {vs:List V},DVs K H ds vs→ds.length=vs.length
 |_,_,.nil=>rfl
 |_,_,.cons _ t=>congrArg (· + 1) t.length
theorem DVs.get{H:Hp}:∀{ds:List D} {vs:List V} {i:Nat} {d:D},DVs K H ds vs→ds[i]? = some d→∃v,vs[i]? = some v∧DV K H d v
 |_,_,_,_,.nil,e=>by simp at e
 |_,_,0,_,.cons h _,e=>by simp at e;subst e;exact⟨_,rfl,h⟩
 |_,_,i+1,d,.cons _ t,e=>by
  obtain⟨v,h1,h2⟩:=DVs.get (i:=i) (d:=d) t (by simpa using e)
  exact⟨v,by simpa using h1,h2⟩
theorem DVs.get'{H:Hp}:∀{ds:List D} {vs:List V} {i:Nat} {v:V},DVs K H ds vs→vs[i]? = some v→∃d,ds[i]? = some d∧DV K H d v
 |_,_,_,_,.nil,e=>by simp at e
 |_,_,0,_,.cons h _,e=>by simp at e;subst e;exact⟨_,rfl,h⟩
 |_,_,i+1,d,.cons _ t,e=>by
  obtain⟨v,h1,h2⟩:=DVs.get' (i:=i) (v:=d) t (by simpa using e)
  exact⟨v,by simpa using h1,h2⟩
theorem DVs.append{H:Hp}:∀{ds es:List D} {vs ws:List V},DVs K H ds vs→DVs K H es ws→DVs K H (ds++es) (vs++ws)
 |_,_,_,_,.nil,s=>s
 |_,_,_,_,.cons h t,s=>.cons h (t.append s)
theorem DVs.set{H:Hp}{d:D}{v:V}(r:DV K H d v):∀{ds:List D} {vs:List V} (i:Nat),DVs K H ds vs→DVs K H (ds.set i d) (vs.set i v)
 |_,_,_,.nil=>.nil
 |_,_,0,.cons _ t=>.cons r t
 |_,_,i+1,.cons h t=>.cons h (DVs.set r i t)
theorem DVs.take{H:Hp}:∀{ds:List D} {vs:List V} (n:Nat),DVs K H ds vs→DVs K H (ds.take n) (vs.take n)
 |_,_,0,_=>.nil
 |_,_,_+1,.nil=>.nil
 |_,_,n+1,.cons h t=>.cons h (t.take n)
theorem DVs.drop{H:Hp}:∀{ds:List D} {vs:List V} (n:Nat),DVs K H ds vs→DVs K H (ds.drop n) (vs.drop n)
 |_,_,0,r=>r
 |_,_,_+1,.nil=>.nil
 |_,_,n+1,.cons _ t=>t.drop n
theorem DVs.ints{H:Hp}:∀{ns:List Int},DVs K H (ns.map D.int) (ns.map V.int)
 |[]=>.nil
 |_::_=>.cons (.int _) DVs.ints
theorem DVs.one{H:Hp}{d:D}{vs:List V}(r:DVs K H [d] vs):∃v,vs=[v]∧DV K H d v:=by
 cases r with|cons h t=>cases t;exact⟨_,rfl,h⟩
theorem DVs.two{H:Hp}{d e:D}{vs:List V}(r:DVs K H [d,e] vs):∃v w,vs=[v,w]∧DV K H d v∧DV K H e w:=by
 cases r with|cons h t=>cases t with|cons h' t'=>cases t';exact⟨_,_,rfl,h,h'⟩

end
inductive GO where
 |lst (ds:List D)
 |dct (kvs:List (List Key×D))
 |dkk (kvs:List (Key×D))
 /-- an instance of the class at C,its attributes -/
 |ins (C:Addr) (fs:List (Str×D))
 /-- the codes that were made within a def;q: how they are called -/
 |tbl (q:Str)
 /-- a thing that never changes,of which ok holds (a function,an exception) -/
 |any (ok:Hp→Addr→Prop)
abbrev Gp:=Addr→Option GO
def Ab(G:Gp)(a:Addr)(o:GO):Gp:=fun b=>if b=a then some o else G b
theorem Aa{G:Gp}{a:Addr}{o:GO}:Ab G a o a=some o:=if_pos rfl
theorem Ad{G:Gp}{a b:Addr}{o:GO}(h:b≠a):Ab G a o b=G b:=if_neg h
theorem B4{G:Gp}{a:Addr}{o u:GO}:Ab (Ab G a o) a u=Ab G a u:=by
 funext b;unfold Ab;split<;>rfl
theorem gne{G:Gp}{a b:Addr}{o:GO}(h:G a=some o)(h':G b=none):a≠b:=by
 intro e;subst e;rw[h] at h';cases h'

def CodeIs(o:Obj)(q:Str):Prop:=∃vs t,o.data=.fields vs∧vs[1]? = some (.str q t)
def GOk(K:W.Frag)(H:Hp)(a:Addr):GO→Prop
 |.lst ds=>∃xs,H a=some (.lst xs)∧DVs K H ds xs
 |.dct kvs=>∃ks,H a=some (.dT ks)∧Paired (fun(p:List Key×D) (q:List Key×V)=>p.1=q.1∧DV K H p.2 q.2) kvs ks
 |.dkk kvs=>∃ks,H a=some (.dK ks)∧Paired (fun(p:Key×D) (q:Key×V)=>p.1=q.1∧DV K H p.2 q.2) kvs ks
 |.ins C fs=>∃dx ks,H a=some (.ins C dx ks)∧Paired (fun(p:Str×D) (q:Str×V)=>p.1=q.1∧DV K H p.2 q.2) fs ks
 |.tbl q=>∃ps,H a=some (.tbl ps)∧TriplesOk ps.toList∧∀pos cv,codeAmong pos ps.toList=some cv→∃c o u,cv=.ref c∧H c=some (.frz o u)∧CodeIs o q
 |.any ok=>(∃o u,H a=some (.frz o u))∧∀H',Ext H H'→ok H' a
def RelG(K:W.Frag)(H:Hp)(G:Gp):Prop:=∀a o,G a=some o→GOk K H a o

theorem GOk.upd{K:W.Frag}{H:Hp}{a p:Addr}{o:GO}{u:HO}(h:GOk K H a o)(x:Ext H (L2.upd H p u))(n:H p=none∨a≠p):GOk K (L2.upd H p u) a o:=by
 have ne:∀u,H a=some u→a≠p:=fun u e=>n.elim (fun z=>Ak e z) id;cases o with
 |lst ds=>obtain⟨xs,e,r⟩:=h;exact⟨xs,by rw[Ac (ne _ e)];exact e,r.ext x⟩
 |dct kvs=>obtain⟨ks,e,r⟩:=h;exact⟨ks,by rw[Ac (ne _ e)];exact e,L2.Paired.mapP r fun _ _ z=>⟨z.1,z.2.ext x⟩⟩
 |dkk kvs=>obtain⟨ks,e,r⟩:=h;exact⟨ks,by rw[Ac (ne _ e)];exact e,L2.Paired.mapP r fun _ _ z=>⟨z.1,z.2.ext x⟩⟩
 |ins C fs=>obtain⟨dx,ks,e,r⟩:=h;exact⟨dx,ks,by rw[Ac (ne _ e)];exact e,L2.Paired.mapP r fun _ _ z=>⟨z.1,z.2.ext x⟩⟩
 |tbl q=>obtain⟨ps,e,t,r⟩:=h;exact⟨ps,by rw[Ac (ne _ e)];exact e,t,fun pos cv h1=>let ⟨c,o,u,a1,a2,a3⟩:=r pos cv h1;⟨c,o,u,a1,x.frz _ _ _ a2,a3⟩⟩
 |any ok=>obtain⟨⟨o,u,e⟩,r⟩:=h;exact⟨⟨o,u,x.frz _ _ _ e⟩,fun H' y=>r H' (x.trans y)⟩
theorem RelG.free{K:W.Frag}{H:Hp}{G:Gp}(r:RelG K H G){p:Addr}(h:H p=none):G p=none:=by
 cases q:G p with
 |none=>rfl
 |some o=>
  have z:=r p o q;cases o with
  |lst ds=>obtain⟨_,e,_⟩:=z;rw[h] at e;cases e
  |dct ds=>obtain⟨_,e,_⟩:=z;rw[h] at e;cases e
  |dkk ds=>obtain⟨_,e,_⟩:=z;rw[h] at e;cases e
  |ins C fs=>obtain⟨_,_,e,_⟩:=z;rw[h] at e;cases e
  |tbl q=>obtain⟨_,e,_⟩:=z;rw[h] at e;cases e
  |any ok=>obtain⟨⟨_,_,e⟩,_⟩:=z;rw[h] at e;cases e
theorem RelG.tup{K:W.Frag}{H:Hp}{G:Gp}(r:RelG K H G){p:Addr}{u:HO}(h:H p=none):RelG K (upd H p u) G:=fun a o e=>(r a o e).upd (Ext.fresh h) (.inl h)
theorem RelG.ext'{K:W.Frag}{H:Hp}{G G':Gp}(r:RelG K H G)(s:∀a o,G' a=some o→G a=some o):RelG K H G':=fun a o e=>r a o (s a o e)

abbrev DSt:=List (Option D)
abbrev St:=L2.St
def RelS(K:W.Frag)(H:Hp)(σD:DSt)(σ:St):Prop:=σD.length=σ.length∧∀(i:Nat) d,σD[i]? = some (some d)→∃v,σ[i]? = some (some v)∧DV K H d v
theorem RelS.ext{K:W.Frag}{H H':Hp}{σD:DSt}{σ:St}(r:RelS K H σD σ)(x:Ext H H'):RelS K H' σD σ:=⟨r.1,fun i d e=>let ⟨v,h1,h2⟩:=r.2 i d e;⟨v,h1,h2.ext x⟩⟩
theorem RelS.set{K:W.Frag}{H:Hp}{σD:DSt}{σ:St}(r:RelS K H σD σ){d:D}{v:V}(h:DV K H d v)(i:Nat):RelS K H (σD.set i (some d)) (σ.set i (some v)):=by
 refine⟨by rw[List.length_set,List.length_set];exact r.1,fun j e q=>?_⟩
 by_cases hj:i=j
 ·subst hj;rw[List.getElem?_set] at q ⊢;rw[if_pos rfl] at q ⊢;have hl:=r.1
  split at q
  ·rename_i hi;cases q;exact⟨v,by rw[if_pos (by omega)],h⟩
  ·cases q
 ·rw[List.getElem?_set_ne hj] at q ⊢;exact r.2 j e q

abbrev DK:=D→Gp→Prop
abbrev DTE:=DSt→Gp→DK→Prop
abbrev DTT:=DSt→Gp→(Bool→Gp→Prop)→Prop
abbrev DTA:=DSt→Gp→(List D→Gp→Prop)→Prop
structure DEnds where
 nx:DSt→Gp→Prop
 rt:DK
 bk:DSt→Gp→Prop:=fun _ _=>False
 ct:DSt→Gp→Prop:=fun _ _=>False
abbrev DTS:=DEnds→DSt→Gp→Prop

def Fwd(K:W.Frag)(H:Hp)(G':Gp)(Q:Hp→Prop):Prop:=∀H',Ext H H'→RelG K H' G'→Q H'
theorem Fwd.go{K:W.Frag}{H H1:Hp}{G':Gp}{Q:Hp→Prop}(f:Fwd K H G' Q)(x:Ext H H1):Fwd K H1 G' Q:=fun H' y r=>f H' (x.trans y) r

def Bi(K:W.Frag)(t:DTE):TE:=fun σ H Q=>∃σD G Q',RelS K H σD σ∧RelG K H G∧t σD G Q'∧∀d G',Q' d G'→Fwd K H G' fun H'=>∀v,DV K H' d v→Q v H'
def Do(K:W.Frag)(t:DTT):TT:=fun σ H Q=>∃σD G Q',RelS K H σD σ∧RelG K H G∧t σD G Q'∧∀b G',Q' b G'→Fwd K H G' fun H'=>Q b H'
def Um(K:W.Frag)(t:DTA):TA:=fun σ H Q=>∃σD G Q',RelS K H σD σ∧RelG K H G∧t σD G Q'∧∀ds G',Q' ds G'→Fwd K H G' fun H'=>∀vs,DVs K H' ds vs→Q vs H'
structure DEnds.Reach(K:W.Frag)(H:Hp)(D:DEnds)(E:Ends):Prop where
 nx:∀σD G',D.nx σD G'→Fwd K H G' fun H'=>∀σ,RelS K H' σD σ→E.nx σ H'
 rt:∀d G',D.rt d G'→Fwd K H G' fun H'=>∀v,DV K H' d v→E.rt v H'
 bk:∀σD G',D.bk σD G'→Fwd K H G' fun H'=>∀σ,RelS K H' σD σ→E.bk σ H'
 ct:∀σD G',D.ct σD G'→Fwd K H G' fun H'=>∀σ,RelS K H' σD σ→E.ct σ H'
theorem DEnds.Reach.go{K:W.Frag}{H H1:Hp}{D:DEnds}{E:Ends}(r:D.Reach K H E)(x:Ext H H1):D.Reach K H1 E:=
 ⟨fun σ G h=>(r.nx σ G h).go x,fun d G h=>(r.rt d G h).go x,fun σ G h=>(r.bk σ G h).go x,fun σ G h=>(r.ct σ G h).go x⟩
def Du(K:W.Frag)(t:DTS):TS:=fun E σ H=>∃σD G D,RelS K H σD σ∧RelG K H G∧t D σD G∧D.Reach K H E

def QE(X:Cx)(e:Expr)(t:DTE):Prop:=PE X e (Bi X.K t)
def QT(X:Cx)(e:Expr)(t:DTT):Prop:=PT X e (Do X.K t)
def QW(X:Cx)(e:Expr)(t:DTT):Prop:=PW X e (Do X.K t)
def QA(X:Cx)(es:List Expr)(t:DTA):Prop:=PA X es (Um X.K t)
def QS(X:Cx)(s:Stmt)(t:DTS):Prop:=PS X s (Du X.K t)
def QSs(X:Cx)(s:List Stmt)(t:DTS):Prop:=PSs X s (Du X.K t)

theorem _root_.L2.PE.imp{X:Cx}{e:Expr}{t t':TE}(h:PE X e t)(f:∀σ H Q,t' σ H Q→t σ H Q):PE X e t':=fun pins s σ H Q I q=>h pins s σ H Q I (f σ H Q q)
theorem _root_.L2.PT.imp{X:Cx}{e:Expr}{t t':TT}(h:PT X e t)(f:∀σ H Q,t' σ H Q→t σ H Q):PT X e t':=fun pins s σ H Q I q=>h pins s σ H Q I (f σ H Q q)
theorem _root_.L2.PW.imp{X:Cx}{e:Expr}{t t':TT}(h:PW X e t)(f:∀σ H Q,t' σ H Q→t σ H Q):PW X e t':=fun w pins s σ H Q I q=>h w pins s σ H Q I (f σ H Q q)
theorem _root_.L2.PA.imp{X:Cx}{e:List Expr}{t t':TA}(h:PA X e t)(f:∀σ H Q,t' σ H Q→t σ H Q):PA X e t':=fun p pins s σ H Q I q=>h p pins s σ H Q I (f σ H Q q)
theorem _root_.L2.PS.imp{X:Cx}{e:Stmt}{t t':TS}(h:PS X e t)(f:∀D σ H,t' D σ H→t D σ H):PS X e t':=fun pins s σ H D I q=>h pins s σ H D I (f D σ H q)
theorem _root_.L2.PSs.imp{X:Cx}{e:List Stmt}{t t':TS}(h:PSs X e t)(f:∀D σ H,t' D σ H→t D σ H):PSs X e t':=fun pins s σ H D I q=>h pins s σ H D I (f D σ H q)

section
variable{X:Cx}{a b c e:Expr}{ta tb tc te:DTE}{pos:Pos}
def Hk(i:Nat):DTE:=fun σ G Q=>∃d,σ[i]? = some (some d)∧Q d G
def nC(d:D):DTE:=fun _ G Q=>Q d G
theorem Uc{i:Nat}{x:Str}(hN:X.N[i]? = some x:=by rfl)(hv:Vis X.env.scope x:=by first|exact Or.inl rfl|exact Or.inr (Or.inl rfl)|exact Or.inr (Or.inr rfl))(hd:(x == ("__debug__" : Str))=false:=by decide)(hcd:(x == ("__classdict__" : Str))=false:=by decide):QE X (.Name x pos) (Hk i):=(Lq hN hv hd hcd).imp fun σ H Q zz=>by
 obtain⟨σD,G,Q',rs,rg,⟨d,e,q⟩,cl⟩:=zz;obtain⟨v,e1,r⟩:=rs.2 i d e;exact⟨v,e1,cl d G q H (Ext.refl H) rg v r⟩
theorem Iq{v:V}{d:D}(h:PE X e (tC v))(r:∀H,DV X.K H d v):QE X e (nC d):=h.imp fun σ H Q ⟨σD,G,Q',rs,rg,q,cl⟩=>cl d G q H (Ext.refl H) rg v (r H)
theorem Ao{i j pos}:QE X (.Constant (.int i) j pos) (nC (.int i)):=Iq Ac1 fun _=>.int i
theorem q_bl{b j pos}:QE X (.Constant (.bool b) j pos) (nC (.bl b)):=Iq pe_bl fun _=>.bl b
theorem q_non{j pos}:QE X (.Constant .none j pos) (nC .non):=Iq U4 fun _=>.non
theorem As{x j pos}:QE X (.Constant (.str x) j pos) (nC (.str x)):=Iq Acy fun _=>.str x
theorem Ach{x:Str}{i:Int}{t:Tok}(hm:X.mg x=some (.int i t))(hg:Gl X x:=by rfl)(hd:(x == ("__debug__" : Str))=false:=by decide):QE X (.Name x pos) (nC (.int i)):=Iq (v:=.int i) (Rh hg hm ⟨t,rfl⟩ hd) fun _=>.int i
theorem V5{x:Str}{n:String}(hm:X.mg x=none)(hv:bootBuiltins x=some (.type n))(hg:Gl X x:=by rfl)(hn:x≠"__name__":=by decide)(hd:(x == ("__debug__" : Str))=false:=by decide):QE X (.Name x pos) (nC (.ty n)):=
 Iq (v:=.ty n) (Y6 hg hm hv rfl hn hd) fun _=>.ty n

abbrev DR2:=D→D→Gp→DK→Prop
def Kj(K:W.Frag)(r:DR2):R2:=fun x y H Q=>∃dx dy G Q',DV K H dx x∧DV K H dy y∧RelG K H G∧r dx dy G Q'∧∀d G',Q' d G'→Fwd K H G' fun H'=>∀v,DV K H' d v→Q v H'
def QOp(X:Cx)(f:Value→Value→Sem Value)(r:DR2):Prop:=OpR X f (Kj X.K r)
theorem _root_.L2.OpR.imp{f:Value→Value→Sem Value}{r r':R2}(h:OpR X f r)(g:∀x y H Q,r' x y H Q→r x y H Q):OpR X f r':=fun pins s σ H x y v u Q I rx ry q=>h pins s σ H x y v u Q I rx ry (g x y H Q q)
def nOp(r:DR2)(ta tb:DTE):DTE:=fun σ G Q=>ta σ G fun x G1=>tb σ G1 fun y G2=>r x y G2 Q
theorem Ii{K:W.Frag}{r:DR2}{σ:St}{H:Hp}{Q:VK}(h:Bi K (nOp r ta tb) σ H Q):tOp (Kj K r) (Bi K ta) (Bi K tb) σ H Q:=by
 obtain⟨σD,G,Q',rs,rg,h,cl⟩:=h;refine⟨σD,G,_,rs,rg,h,fun x G1 h1 H1 x1 rg1 v1 d1=>?_⟩;refine⟨σD,G1,_,rs.ext x1,rg1,h1,fun y G2 h2 H2 x2 rg2 v2 d2=>?_⟩;exact⟨x,y,G2,Q',d1.ext x2,d2,rg2,h2,fun d G' q=>(cl d G' q).go (x1.trans x2)⟩
theorem E3{op:Operator}{r:DR2}(ho:QOp X (binaryOp op) r)(ha:QE X a ta)(hb:QE X b tb):QE X (.BinOp a op b pos) (nOp r ta tb):=(pe_op ho ha hb).imp fun _ _ _ h=>Ii h
def dI(C:Int→Int→Prop)(g:Int→Int→D):DR2:=fun x y G Q=>∃i,x=.int i∧∃j,y=.int j∧C i j∧Q (g i j) G
def dI0(g:Int→Int→D):DR2:=fun x y G Q=>∃i,x=.int i∧∃j,y=.int j∧Q (g i j) G
theorem Ud{f:Value→Value→Sem Value}{C:Int→Int→Prop}{g:Int→Int→V}{g':Int→Int→D}(h:OpR X f (rI C g))(e:∀H i j,DV X.K H (g' i j) (g i j)):QOp X f (dI C g'):=L2.OpR.imp h fun x y H Q zz=>by
 obtain⟨dx,dy,G,Q',hx,hy,rg,⟨i,ei,j,ej,c,q⟩,cl⟩:=zz;subst ei ej;cases hx;cases hy;exact⟨i,j,rfl,rfl,c,cl _ G q H (Ext.refl H) rg _ (e H i j)⟩
theorem Ln{f:Value→Value→Sem Value}{g:Int→Int→V}{g':Int→Int→D}(h:OpR X f (rI0 g))(e:∀H i j,DV X.K H (g' i j) (g i j)):QOp X f (dI0 g'):=L2.OpR.imp h fun x y H Q zz=>by
 obtain⟨dx,dy,G,Q',hx,hy,rg,⟨i,ei,j,ej,q⟩,cl⟩:=zz;subst ei ej;cases hx;cases hy;exact⟨i,j,rfl,rfl,cl _ G q H (Ext.refl H) rg _ (e H i j)⟩
theorem o_sub:QOp X (binaryOp .Sub) (dI0 fun i j=>.int (i-j)):=Ln Ac5 fun _ _ _=>.int _
theorem o_mul:QOp X (binaryOp .Mult) (dI CMul fun i j=>.int (i*j)):=Ud Ac7 fun _ _ _=>.int _
theorem Ado:QOp X (binaryOp .FloorDiv) (dI T7 fun i j=>.int (i / j)):=Ud Y8 fun _ _ _=>.int _
theorem o_mod:QOp X (binaryOp .Mod) (dI (fun _ j=>0<j) fun i j=>.int (i % j)):=Ud Ac8 fun _ _ _=>.int _
theorem o_lt:QOp X (compareOp .Lt) (dI0 fun i j=>.bl (decide (i<j))):=Ln op_lt fun _ _ _=>.bl _
theorem o_le:QOp X (compareOp .LtE) (dI0 fun i j=>.bl (decide (i≤j))):=Ln op_le fun _ _ _=>.bl _
theorem o_gt:QOp X (compareOp .Gt) (dI0 fun i j=>.bl (decide (j<i))):=Ln op_gt fun _ _ _=>.bl _
end
section
variable{K:W.Frag}
theorem RelG.lst{H:Hp}{G:Gp}(r:RelG K H G){p:Addr}{ds:List D}{xs:List V}(hp:H p=none)(rv:DVs K H ds xs):RelG K (upd H p (.lst xs)) (Ab G p (.lst ds)):=fun a o e=>by
 by_cases h:a=p
 ·subst h;rw[Aa] at e;cases e;exact⟨xs,Ae,rv.ext (Ext.fresh hp)⟩
 ·rw[Ad h] at e;exact(r a o e).upd (Ext.fresh hp) (.inl hp)
theorem Ef{H:Hp}{p:Addr}{xs:List V}{o:HO}(h:H p=some (.lst xs)):Ext H (upd H p o):=Ext.write h (fun _ z=>nomatch z) fun _ _ z=>nomatch z
theorem RelG.lstw{H:Hp}{G:Gp}(r:RelG K H G){p:Addr}{ds:List D}{xs ys:List V}(hp:H p=some (.lst ys))(rv:DVs K H ds xs):RelG K (upd H p (.lst xs)) (Ab G p (.lst ds)):=fun a o e=>by
 by_cases h:a=p
 ·subst h;rw[Aa] at e;cases e;exact⟨xs,Ae,rv.ext (Ef hp)⟩
 ·rw[Ad h] at e;exact(r a o e).upd (Ef hp) (.inr h)
end
section
variable{X:Cx}{a b c e:Expr}{ta tb tc te:DTE}{pos:Pos}
def E6(t:DTE):DTT:=fun σ G Q=>t σ G fun x G'=>∃k,x=.bl k∧Q k G'
theorem Kz{K:W.Frag}{t:DTE}{σ:St}{H:Hp}{Q:Bool→Hp→Prop}(h:Do K (E6 t) σ H Q):Bi K t σ H fun x H'=>∃k,x=.bl k∧Q k H':=by
 obtain⟨σD,G,Q',rs,rg,h,cl⟩:=h;refine⟨σD,G,_,rs,rg,h,fun d G' zz H' x r v dv=>?_⟩;obtain⟨k,ek,q⟩:=zz;subst ek;cases dv;exact⟨k,rfl,cl k G' q H' x r⟩
theorem q_cmp{op:CmpOp}{r:DR2}(ho:QOp X (compareOp op) r)(ha:QE X a ta)(hb:QE X b tb)(hm:behindInMarks op b=false):QE X (.Compare a [op] [b] pos) (nOp r ta tb):=(Y4 ho ha hb hm).imp fun _ _ _ h=>Ii h
theorem qt_cmp{op:CmpOp}{r:DR2}(ho:QOp X (compareOp op) r)(ha:QE X a ta)(hb:QE X b tb)(hm:behindInMarks op b=false):QT X (.Compare a [op] [b] pos) (E6 (nOp r ta tb)):=
 (Yv ho ha hb hm).imp fun _ _ _ h=>Ii (Kz h)
def Lr(r r':DR2)(ta tb tc:DTE):DTE:=fun σ G Q=>ta σ G fun x G1=>tb σ G1 fun y G2=>r x y G2 fun z G3=>∃k,z=.bl k∧
 (if k=true then tc σ G3 fun w' G4=>r' y w' G4 Q else Q (.bl false) G3)
theorem Js{K:W.Frag}{r r':DR2}{σ:St}{H:Hp}{Q:VK}(h:Bi K (Lr r r' ta tb tc) σ H Q):Pe (Kj K r) (Kj K r') (Bi K ta) (Bi K tb) (Bi K tc) σ H Q:=by
 obtain⟨σD,G,Q',rs,rg,h,cl⟩:=h;refine⟨σD,G,_,rs,rg,h,fun x G1 h1 H1 x1 rg1 v1 d1=>?_⟩;refine⟨σD,G1,_,rs.ext x1,rg1,h1,fun y G2 h2 H2 x2 rg2 v2 d2=>?_⟩;refine⟨x,y,G2,_,d1.ext x2,d2,rg2,h2,fun z G3 h3 H3 x3 rg3 v3 d3=>?_⟩;obtain⟨k,ek,h3⟩:=h3;subst ek;cases d3;refine⟨k,rfl,?_⟩;cases k with
 |true=>
  rw[if_pos rfl] at h3 ⊢;refine⟨σD,G3,_,rs.ext (x1.trans (x2.trans x3)),rg3,h3,fun w4 G4 h4 H4 x4 rg4 v4 d4=>?_⟩;exact⟨y,w4,G4,Q',d2.ext (x3.trans x4),d4,rg4,h4,fun d G' q=>(cl d G' q).go (x1.trans (x2.trans (x3.trans x4)))⟩
 |false=>
  rw[if_neg Bool.false_ne_true] at h3 ⊢;exact cl _ G3 h3 H3 (x1.trans (x2.trans x3)) rg3 _ (.bl false)
theorem q_chain{op op':CmpOp}{r r':DR2}(ho:QOp X (compareOp op) r)(ho':QOp X (compareOp op') r')(ha:QE X a ta)(hb:QE X b tb)(hc:QE X c tc)(hm:lastMarks [op,op'] [b,c]=false:=by with_unfolding_all rfl):QE X (.Compare a [op,op'] [b,c] pos) (Lr r r' ta tb tc):=(Wj ho ho' ha hb hc hm).imp fun _ _ _ h=>Js h
theorem qt_chain{op op':CmpOp}{r r':DR2}(ho:QOp X (compareOp op) r)(ho':QOp X (compareOp op') r')(ha:QE X a ta)(hb:QE X b tb)(hc:QE X c tc)(hm:lastMarks [op,op'] [b,c]=false:=by with_unfolding_all rfl):QT X (.Compare a [op,op'] [b,c] pos) (E6 (Lr r r' ta tb tc)):=(V9 ho ho' ha hb hc hm).imp fun _ _ _ h=>Js (Kz h)

def eqS:D→D→Option Bool
 |.int i,.int j=>some (decide (i=j))
 |.bl i,.bl j=>some (decide (i=j))
 |.str i,.str j=>some (decide (i=j))
 |.non,.non=>some true
 |.non,.int _=>some false|.int _,.non=>some false|.non,.bl _=>some false|.bl _,.non=>some false|.non,.str _=>some false|.str _,.non=>some false
 |.int _,.str _=>some false|.str _,.int _=>some false|.bl _,.str _=>some false|.str _,.bl _=>some false
 |_,_=>none
theorem N2{H:Hp}{K:W.Frag}{x y:D}{v u:V}{k:Bool}(h:eqS x y=some k)(hx:DV K H x v)(hy:DV K H y u):scal v u=true∧decide (v=u)=k:=by
 cases hx<;>cases hy<;>simp only[eqS,Option.some.injEq,reduceCtorEq] at h<;>subst h<;>refine⟨rfl,?_⟩<;>simp
def dEq:DR2:=fun x y G Q=>∃k,eqS x y=some k∧Q (.bl k) G
def dNe:DR2:=fun x y G Q=>∃k,eqS x y=some k∧Q (.bl (!k)) G
theorem o_eq:QOp X (compareOp .Eq) dEq:=L2.OpR.imp op_eq fun x y H Q zz=>by
 obtain⟨dx,dy,G,Q',hx,hy,rg,⟨k,ek,q⟩,cl⟩:=zz;obtain⟨h1,h2⟩:=N2 ek hx hy;refine⟨h1,?_⟩;rw[h2];exact cl _ G q H (Ext.refl H) rg _ (.bl k)
theorem o_ne:QOp X (compareOp .NotEq) dNe:=L2.OpR.imp op_ne fun x y H Q zz=>by
 obtain⟨dx,dy,G,Q',hx,hy,rg,⟨k,ek,q⟩,cl⟩:=zz;obtain⟨h1,h2⟩:=N2 ek hx hy;refine⟨h1,?_⟩;rw[h2];exact cl _ G q H (Ext.refl H) rg _ (.bl (!k))
def isN:D→Bool
 |.non=>true
 |_=>false
theorem Ve{H:Hp}{K:W.Frag}{d:D}{v:V}(h:DV K H d v):decide (v=.non)=isN d:=by cases h<;>simp[isN]
theorem o_isN:QOp X (compareOp .Is) (fun x y G Q=>y=.non∧Q (.bl (isN x)) G):=L2.OpR.imp Ac9 fun x y H Q zz=>by
 obtain⟨dx,dy,G,Q',hx,hy,rg,⟨ey,q⟩,cl⟩:=zz;subst ey;cases hy;refine⟨rfl,?_⟩;rw[Ve hx];exact cl _ G q H (Ext.refl H) rg _ (.bl _)
theorem o_notN:QOp X (compareOp .IsNot) (fun x y G Q=>y=.non∧Q (.bl (!isN x)) G):=L2.OpR.imp Y7 fun x y H Q zz=>by
 obtain⟨dx,dy,G,Q',hx,hy,rg,⟨ey,q⟩,cl⟩:=zz;subst ey;cases hy;refine⟨rfl,?_⟩;rw[Ve hx];exact cl _ G q H (Ext.refl H) rg _ (.bl _)

variable{t u:DTT}{rest:List Expr}
def nAnd(t u:DTT):DTT:=fun σ G Q=>t σ G fun c G1=>if c=true then u σ G1 Q else Q false G1
def nOr(t u:DTT):DTT:=fun σ G Q=>t σ G fun c G1=>if c=true then Q true G1 else u σ G1 Q
def nNot(t:DTT):DTT:=fun σ G Q=>t σ G fun c G1=>Q (!c) G1
theorem Yn(ha:QT X a t):QW X (.BoolOp .And [a] pos) t:=Yu ha
theorem Ab1(ha:QT X a t):QW X (.BoolOp .Or [a] pos) t:=Acj ha
theorem Ab2(ha:QT X a t)(hb:QW X (.BoolOp .And (b::rest) pos) u):QW X (.BoolOp .And (a::b::rest) pos) (nAnd t u):=(Ack ha hb).imp fun σ H Q zz=>by
 obtain⟨σD,G,Q',rs,rg,h,cl⟩:=zz;refine⟨σD,G,_,rs,rg,h,fun k G1 h1 H1 x1 rg1=>?_⟩;cases k with
 |true=>rw[if_pos rfl] at h1 ⊢;exact⟨σD,G1,Q',rs.ext x1,rg1,h1,fun b G' q=>(cl b G' q).go x1⟩
 |false=>rw[if_neg Bool.false_ne_true] at h1 ⊢;exact cl _ G1 h1 H1 x1 rg1
theorem qw_or(ha:QT X a t)(hb:QW X (.BoolOp .Or (b::rest) pos) u):QW X (.BoolOp .Or (a::b::rest) pos) (nOr t u):=(pw_or ha hb).imp fun σ H Q zz=>by
 obtain⟨σD,G,Q',rs,rg,h,cl⟩:=zz;refine⟨σD,G,_,rs,rg,h,fun k G1 h1 H1 x1 rg1=>?_⟩;cases k with
 |true=>rw[if_pos rfl] at h1 ⊢;exact cl _ G1 h1 H1 x1 rg1
 |false=>rw[if_neg Bool.false_ne_true] at h1 ⊢;exact⟨σD,G1,Q',rs.ext x1,rg1,h1,fun b G' q=>(cl b G' q).go x1⟩
theorem qt_of(h:QW X e t):QT X e t:=h.pt
theorem Ab4(ha:QT X a t):QT X (.UnaryOp .Not a pos) (nNot t):=(Acl ha).imp fun σ H Q ⟨σD,G,Q',rs,rg,h,cl⟩=>
 ⟨σD,G,_,rs,rg,h,fun k G1 h1 H1 x1 rg1=>cl _ G1 h1 H1 x1 rg1⟩
def Aaz(ta tb:DTE):DTE:=fun σ G Q=>ta σ G fun x G1=>∃c,x=.bl c∧if c=true then tb σ G1 Q else Q (.bl false) G1
def Aas(ta:DTE):DTE:=fun σ G Q=>ta σ G fun x G1=>∃c,x=.bl c∧Q (.bl (!c)) G1
theorem q_one{op}(h:QE X a ta):QE X (.BoolOp op [a] pos) ta:=Acz h
theorem q_and(ha:QE X a ta)(hb:QE X (.BoolOp .And (b::rest) pos) tb):QE X (.BoolOp .And (a::b::rest) pos) (Aaz ta tb):=(Ac3 ha hb).imp fun σ H Q zz=>by
 obtain⟨σD,G,Q',rs,rg,h,cl⟩:=zz;refine⟨σD,G,_,rs,rg,h,fun d G1 zz H1 x1 rg1 v dv=>?_⟩;obtain⟨k,ek,h1⟩:=zz;subst ek;cases dv;refine⟨k,rfl,?_⟩;cases k with
 |true=>rw[if_pos rfl] at h1 ⊢;exact⟨σD,G1,Q',rs.ext x1,rg1,h1,fun b G' q=>(cl b G' q).go x1⟩
 |false=>rw[if_neg Bool.false_ne_true] at h1 ⊢;exact cl _ G1 h1 H1 x1 rg1 _ (.bl false)
theorem q_not(ha:QE X a ta):QE X (.UnaryOp .Not a pos) (Aas ta):=(Ac0 ha).imp fun σ H Q zz=>by
 obtain⟨σD,G,Q',rs,rg,h,cl⟩:=zz;refine⟨σD,G,_,rs,rg,h,fun d G1 zz H1 x1 rg1 v dv=>?_⟩;obtain⟨k,ek,h1⟩:=zz;subst ek;cases dv;exact⟨k,rfl,cl _ G1 h1 H1 x1 rg1 _ (.bl _)⟩
def nIf(t:DTT)(ta tb:DTE):DTE:=fun σ G Q=>t σ G fun c G1=>if c=true then ta σ G1 Q else tb σ G1 Q
theorem Yr(hc:QT X c t)(ha:QE X a ta)(hb:QE X b tb):QE X (.IfExp c a b pos) (nIf t ta tb):=(Wi hc ha hb).imp fun σ H Q zz=>by
 obtain⟨σD,G,Q',rs,rg,h,cl⟩:=zz;refine⟨σD,G,_,rs,rg,h,fun k G1 h1 H1 x1 rg1=>?_⟩;cases k with
 |true=>rw[if_pos rfl] at h1 ⊢;exact⟨σD,G1,Q',rs.ext x1,rg1,h1,fun b G' q=>(cl b G' q).go x1⟩
 |false=>rw[if_neg Bool.false_ne_true] at h1 ⊢;exact⟨σD,G1,Q',rs.ext x1,rg1,h1,fun b G' q=>(cl b G' q).go x1⟩
def X3(G:Gp):D→Option Bool
 |.non=>some false
 |.bl b=>some b
 |.int i=>some (i != 0)
 |.str y=>if y.length≤sizeLine then some ((y.length:Int) != 0) else none
 |.tup ds=>some (!ds.isEmpty)
 |.lint ns=>some (!ns.isEmpty)
 |.ref a=>match G a with
  |some (.lst ds)=>some (!ds.isEmpty)
  |some (.dkk kvs)=>some (!kvs.isEmpty)
  |_=>none
 |_=>none
theorem isE{K:W.Frag}{H:Hp}{ds:List D}{vs:List V}(r:DVs K H ds vs):ds.isEmpty=vs.isEmpty:=by cases r<;>rfl
theorem Yc{K:W.Frag}{H:Hp}{G:Gp}{d:D}{v:V}{k:Bool}(rg:RelG K H G)(h:X3 G d=some k)(r:DV K H d v):TruV K v H k:=by
 cases r with
 |non=>cases h;rfl
 |bl b=>cases h;rfl
 |int i=>cases h;rfl
 |str y=>
  simp only[X3] at h
  split at h
  ·rename_i hy;cases h;exact⟨hy,rfl⟩
  ·cases h
 |tup e r=>
  cases h;exact .inr (.inl ⟨_,.inl (.inl e),by rw[isE r]⟩)
 |@lint ns a e=>
  cases h;exact .inl ⟨_,e.sq,by cases ns<;>rfl⟩
 |ref a=>
  simp only[X3] at h
  split at h
  ·rename_i ds q;obtain⟨xs,e,r⟩:=rg a _ q;cases h;exact .inl ⟨xs,.inl (.inl e),by rw[isE r]⟩
  ·rename_i kvs q;obtain⟨xs,e,r⟩:=rg a _ q;cases h;exact .inr (.inr ⟨xs,e,by cases r<;>rfl⟩)
  ·cases h
 |ty n=>cases h
def nTru(t:DTE):DTT:=fun σ G Q=>t σ G fun x G'=>∃k,X3 G' x=some k∧Q k G'
theorem Ab3(ha:QE X a ta)(he:∀whole,isTrue a X.env whole=(do let v ←whole;standAt a.pos;holding [v] (truthy v)):=by intro _;rfl):QT X a (nTru ta):=(V8 ha he).imp fun σ H Q zz=>by
 obtain⟨σD,G,Q',rs,rg,h,cl⟩:=zz;refine⟨σD,G,_,rs,rg,h,fun d G1 zz H1 x1 rg1 v dv=>?_⟩;obtain⟨k,ek,h1⟩:=zz;exact⟨k,Yc rg1 ek dv,cl _ G1 h1 H1 x1 rg1⟩

variable{es:List Expr}{tA:DTA}
def E5:DTA:=fun _ G Q=>Q [] G
def E7(ta:DTE)(tr:DTA):DTA:=fun σ G Q=>ta σ G fun x G1=>tr σ G1 fun xs G2=>Q (x::xs) G2
theorem qa_nil:QA X [] E5:=pa_nil.imp fun σ H Q ⟨σD,G,Q',rs,rg,h,cl⟩=>cl _ G h H (Ext.refl H) rg _ .nil
theorem Ic(ha:QE X e te)(hr:QA X es tA)(hs:starEach (e::es) X.env=(false,eval e X.env)::starEach es X.env:=by rfl):QA X (e::es) (E7 te tA):=(Ec ha hr hs).imp fun σ H Q zz=>by
 obtain⟨σD,G,Q',rs,rg,h,cl⟩:=zz;refine⟨σD,G,_,rs,rg,h,fun x G1 h1 H1 x1 rg1 v1 d1=>?_⟩;refine⟨σD,G1,_,rs.ext x1,rg1,h1,fun ys G2 h2 H2 x2 rg2 v2 d2=>?_⟩;exact cl _ G2 h2 H2 (x1.trans x2) rg2 _ (.cons (d1.ext x2) d2)
def O8(t:DTA):DTE:=fun σ G Q=>t σ G fun xs G1=>xs.length≤sizeLine∧Q (.tup xs) G1
def Pa(t:DTA):DTE:=fun σ G Q=>t σ G fun xs G1=>xs.length≤sizeLine∧∀p,G1 p=none→Q (.ref p) (Ab G1 p (.lst xs))
theorem Dr{x1}(h:QA X es tA):QE X (.Tuple es x1 pos) (O8 tA):=(Acx h).imp fun σ H Q zz=>by
 obtain⟨σD,G,Q',rs,rg,h,cl⟩:=zz;refine⟨σD,G,_,rs,rg,h,fun ds G1 ⟨hl,q⟩ H1 x1 rg1 vs dv=>⟨by rw[←dv.length];exact hl,fun p hp=>?_⟩⟩
 exact cl _ G1 q _ (x1.trans (Ext.fresh hp)) (rg1.tup hp) _ (.tup Ae (dv.ext (Ext.fresh hp)))
theorem Cj(h:QA X es tA):QE X (.List es pos) (Pa tA):=(U5 h).imp fun σ H Q zz=>by
 obtain⟨σD,G,Q',rs,rg,h,cl⟩:=zz;refine⟨σD,G,_,rs,rg,h,fun ds G1 ⟨hl,q⟩ H1 x1 rg1 vs dv=>⟨by rw[←dv.length];exact hl,fun p hp=>?_⟩⟩
 exact cl _ _ (q p (rg1.free hp)) _ (x1.trans (Ext.fresh hp)) (rg1.lst hp dv) _ (.ref p)

def Dv(G:Gp)(x:D)(i:Int):Option D:=match x with
 |.tup ds=>atI ds i
 |.lint ns=>atI (ns.map D.int) i
 |.ref a=>match G a with
  |some (.lst ds)=>atI ds i
  |_=>none
 |_=>none
theorem Mh{K:W.Frag}{H:Hp}{ds:List D}{vs:List V}{i:Int}{d:D}(r:DVs K H ds vs)(h:atI ds i=some d):∃v,atI vs i=some v∧DV K H d v:=by
 unfold atI at h ⊢;rw[←r.length];cases e:ixN ds.length i with
 |none=>rw[e] at h;cases h
 |some j=>rw[e] at h;exact r.get h
def dIx:DR2:=fun x y G Q=>∃i,y=.int i∧∃d,Dv G x i=some d∧Q d G
theorem _root_.L2.IxR.imp{r r':R2}(h:IxR X r)(g:∀x y H Q,r' x y H Q→r x y H Q):IxR X r':=fun va sl pins s σ H x y v u Q I rx ry q hs=>h va sl pins s σ H x y v u Q I rx ry (g x y H Q q) hs
theorem o_ix:IxR X (Kj X.K dIx):=ix_seq.imp fun x y H Q zz=>by
 obtain⟨dx,dy,G,Q',hx,hy,rg,⟨i,ei,d,ed,q⟩,cl⟩:=zz;subst ei;cases hy;cases hx with
 |@tup ds a xs e r=>
  obtain⟨v,ev,dv⟩:=Mh r (show atI ds i=some d from ed);exact .inr (.inl ⟨a,xs,i,v,rfl,rfl,.inl (.inl e),ev,cl _ G q H (Ext.refl H) rg _ dv⟩)
 |@lint ns a e=>
  obtain⟨v,ev,dv⟩:=Mh (K:=X.K) (H:=H) DVs.ints (show atI (ns.map D.int) i=some d from ed);exact .inl ⟨a,_,i,v,rfl,rfl,e.sq,ev,cl _ G q H (Ext.refl H) rg _ dv⟩
 |ref a=>
  simp only[Dv] at ed
  split at ed
  ·rename_i ds g;obtain⟨xs,e,r⟩:=rg a _ g;obtain⟨v,ev,dv⟩:=Mh r ed;exact .inl ⟨a,xs,i,v,rfl,rfl,.inl (.inl e),ev,cl _ G q H (Ext.refl H) rg _ dv⟩
  ·cases ed
 |_=>cases ed
theorem R5(ha:QE X a ta)(hb:QE X b tb)(hs:R3 b:=by intro _ _;rfl):QE X (.Subscript a b pos) (nOp dIx ta tb):=(pe_ix o_ix ha hb hs).imp fun _ _ _ h=>Ii h
end
section
variable{X:Cx}{a b c e:Expr}{ta tb tc te:DTE}{pos:Pos}{st:Stmt}{rest body orelse:List Stmt}{t u:DTS}
def Iu:DTS:=fun D σ G=>D.nx σ G
def O9(t u:DTS):DTS:=fun D σ G=>t { D with nx:=u D } σ G
theorem qss_nil:QSs X [] Iu:=pss_nil.imp fun E σ H ⟨σD,G,D,rs,rg,h,cl⟩=>cl.nx σD G h H (Ext.refl H) rg σ rs
theorem W5{K:W.Frag}{E:Ends}{σ:St}{H:Hp}(h:Du K (O9 t u) E σ H):tSeq (Du K t) (Du K u) E σ H:=by
 obtain⟨σD,G,D,rs,rg,h,cl⟩:=h;refine⟨σD,G,_,rs,rg,h,⟨fun σ1 G1 h1 H1 x1 rg1 σ' rs1=>⟨σ1,G1,D,rs1,rg1,h1,cl.go x1⟩,cl.rt,cl.bk,cl.ct⟩⟩
theorem Ni(h1:QS X st t)(h2:QSs X rest u):QSs X (st::rest) (O9 t u):=(Wa h1 h2).imp fun _ _ _ h=>W5 h
theorem Ib(h1:QS X st t):QSs X [st] t:=Ie h1
def Aax(te:DTE):DTS:=fun D σ G=>te σ G fun _ G1=>D.nx σ G1
theorem Yp(he:QE X e te)(hs:swapsWith e none pos.line X.env=pure false:=by rfl):QS X (.Expr e pos) (Aax te):=(Yy he hs).imp fun E σ H ⟨σD,G,D,rs,rg,h,cl⟩=>
 ⟨σD,G,_,rs,rg,h,fun d G1 h1 H1 x1 rg1 v dv=>cl.nx σD G1 h1 H1 x1 rg1 σ (rs.ext x1)⟩
def nRet(te:DTE):DTS:=fun D σ G=>te σ G D.rt
theorem Pk(he:QE X e te):QS X (.Return (some e) pos) (nRet te):=(Pm he).imp fun E σ H ⟨σD,G,D,rs,rg,h,cl⟩=>⟨σD,G,_,rs,rg,h,cl.rt⟩
def nIfS(c:DTT)(t u:DTS):DTS:=fun D σ G=>c σ G fun b G1=>if b=true then t D σ G1 else u D σ G1
theorem qs_if{tc:DTT}(hc:QT X c tc)(ha:QSs X body t)(hb:QSs X orelse u):QS X (.If c body orelse pos) (nIfS tc t u):=(Aao hc ha hb).imp fun E σ H zz=>by
 obtain⟨σD,G,D,rs,rg,h,cl⟩:=zz;refine⟨σD,G,_,rs,rg,h,fun k G1 h1 H1 x1 rg1=>?_⟩;cases k with
 |true=>rw[if_pos rfl] at h1 ⊢;exact⟨σD,G1,D,rs.ext x1,rg1,h1,cl.go x1⟩
 |false=>rw[if_neg Bool.false_ne_true] at h1 ⊢;exact⟨σD,G1,D,rs.ext x1,rg1,h1,cl.go x1⟩
def Va:DTS:=fun _ _ _=>False
theorem V0:QS X st Va:=ps_never.imp fun E σ H ⟨σD,G,D,rs,rg,h,cl⟩=>h
abbrev DTG:=D→DSt→Gp→(DSt→Gp→Prop)→Prop
abbrev M4:=List D→DSt→Gp→(DSt→Gp→Prop)→Prop
def C6(K:W.Frag)(t:DTG):TG:=fun v σ H Q=>∃d σD G Q',DV K H d v∧RelS K H σD σ∧RelG K H G∧t d σD G Q'∧∀σD' G',Q' σD' G'→Fwd K H G' fun H'=>∀σ',RelS K H' σD' σ'→Q σ' H'
def Adr(K:W.Frag)(t:M4):TGs:=fun vs σ H Q=>∃ds σD G Q',DVs K H ds vs∧RelS K H σD σ∧RelG K H G∧t ds σD G Q'∧∀σD' G',Q' σD' G'→Fwd K H G' fun H'=>∀σ',RelS K H' σD' σ'→Q σ' H'
def QG(X:Cx)(e:Expr)(g:DTG):Prop:=PG X e (C6 X.K g)
def QGs(X:Cx)(es:List Expr)(g:M4):Prop:=PGs X es (Adr X.K g)
theorem _root_.L2.PG.imp{X:Cx}{e:Expr}{t t':TG}(h:PG X e t)(f:∀v σ H Q,t' v σ H Q→t v σ H Q):PG X e t':=fun pins s σ H v u Q I r q=>h pins s σ H v u Q I r (f v σ H Q q)
theorem _root_.L2.PGs.imp{X:Cx}{e:List Expr}{t t':TGs}(h:PGs X e t)(f:∀v σ H Q,t' v σ H Q→t v σ H Q):PGs X e t':=fun pins s σ H v u Q I r q=>h pins s σ H v u Q I r (f v σ H Q q)
def C5(i:Nat):DTG:=fun d σ G Q=>Q (σ.set i (some d)) G
theorem L7{i:Nat}{x:Str}(hN:X.N.Nodup)(hi:X.N[i]? = some x:=by rfl)(hx:Loc X.env.scope x:=by first|exact Or.inl rfl|exact Or.inr rfl)(hf:X.fn x=true∨X.env.scope.names.lookup x=some .local:=by first|exact .inl rfl|exact .inr rfl|assumption):QG X (.Name x pos) (C5 i):=
 (Y0 hN hi hx hf).imp fun v σ H Q ⟨d,σD,G,Q',dv,rs,rg,h,cl⟩=>cl _ G h H (Ext.refl H) rg _ (rs.set dv i)
def mNil:M4:=fun ds σ G Q=>ds=[]∧Q σ G
def Uk(t:DTG)(u:M4):M4:=fun ds σ G Q=>∃v r,ds=v::r∧t v σ G fun σ' G'=>u r σ' G' Q
theorem Yq:QGs X [] mNil:=pgs_nil.imp fun v σ H Q zz=>by
 obtain⟨d,σD,G,Q',dv,rs,rg,⟨e,h⟩,cl⟩:=zz;subst e;cases dv;exact⟨rfl,cl _ G h H (Ext.refl H) rg _ rs⟩
theorem Nk{es:List Expr}{t:DTG}{u:M4}(h1:QG X e t)(h2:QGs X es u)(hs:(assignEach (e::es) X.env).map (·.2)=assign e X.env::(assignEach es X.env).map (·.2):=by rfl):QGs X (e::es) (Uk t u):=(Wf h1 h2 hs).imp fun v σ H Q zz=>by
 obtain⟨d,σD,G,Q',dv,rs,rg,⟨d1,r,e,h⟩,cl⟩:=zz;subst e;cases dv with
 |@cons _ v1 _ vs h1 t1=>
  refine⟨v1,vs,rfl,d1,σD,G,_,h1,rs,rg,h,fun σ1 G1 q1 H1 x1 rg1 σ' rs1=>?_⟩;exact⟨r,σ1,G1,Q',t1.ext x1,rs1,rg1,q1,fun σ2 G2 q=>(cl σ2 G2 q).go x1⟩
def mTup(n:Nat)(t:M4):DTG:=fun d σ G Q=>∃ds,d=.tup ds∧ds.length=n∧t ds σ G Q
theorem Ab8{es:List Expr}{k:Nat}{t:M4}{n:Nat}(hc:X.calm=true)(h:QGs X es t)(hn:(assignEach es X.env).length=n:=by rfl)(hst:(assignEach es X.env).findIdx? (·.1)=none:=by rfl):QG X (.Tuple es k pos) (mTup n t):=(Acs hc h hn hst).imp fun v σ H Q zz=>by
 obtain⟨d,σD,G,Q',dv,rs,rg,⟨ds,e,hl,h⟩,cl⟩:=zz;subst e;cases dv with
 |@tup _ a xs e r=>exact⟨a,xs,rfl,.inl (.inl e),by rw[←r.length];exact hl,ds,σD,G,Q',r,rs,rg,h,cl⟩
abbrev M8:=D→D→D→Gp→(Gp→Prop)→Prop
def Zt(K:W.Frag)(t:M8):T6:=fun o i v H Q=>∃d1 d2 d3 G Q',DV K H d1 o∧DV K H d2 i∧DV K H d3 v∧RelG K H G∧t d1 d2 d3 G Q'∧∀G',Q' G'→Fwd K H G' Q
def QSet(X:Cx)(t:M8):Prop:=PSet X (Zt X.K t)
theorem _root_.L2.PSet.imp{X:Cx}{t t':T6}(h:PSet X t)(f:∀o i v H Q,t' o i v H Q→t o i v H Q):PSet X t':=fun pins s σ H o i v ov iv u Q I r1 r2 r3 q=>h pins s σ H o i v ov iv u Q I r1 r2 r3 (f o i v H Q q)
def Aa4:M8:=fun o i v G Q=>∃p,o=.ref p∧∃k,i=.int k∧∃ds,G p=some (.lst ds)∧∃j,ixN ds.length k=some j∧Q (Ab G p (.lst (ds.set j v)))
theorem s_list:QSet X Aa4:=set_list.imp fun o i v H Q zz=>by
 obtain⟨d1,d2,d3,G,Q',h1,h2,h3,rg,⟨p,e1,k,e2,ds,eg,j,ej,q⟩,cl⟩:=zz;subst e1 e2;cases h1;cases h2;obtain⟨xs,ex,r⟩:=rg p _ eg;exact⟨p,xs,k,j,rfl,rfl,ex,by rw[←r.length];exact ej,cl _ q _ (Ef ex) (rg.lstw ex (r.set h3 j))⟩
def mSub(to ti:DTE)(t:M8):DTG:=fun v σ G Q=>to σ G fun o G1=>ti σ G1 fun i G2=>t o i v G2 fun G3=>Q σ G3
theorem Ab9{o i:Expr}{to ti:DTE}{t:M8}(ho:QE X o to)(hi:QE X i ti)(hs:QSet X t)(ha:∀v,assign (.Subscript o i pos) X.env v=(do
   let ov ←holding [v] (eval o X.env)
   let iv ←holding [v,ov] (eval i X.env)
   standAt pos
   holding [v,ov,iv] (setItem ov iv v)
   release [v,ov,iv] []):=by intro _;rfl):QG X (.Subscript o i pos) (mSub to ti t):=(Acu ho hi hs ha).imp fun v σ H Q zz=>by
 obtain⟨d,σD,G,Q',dv,rs,rg,h,cl⟩:=zz;refine⟨σD,G,_,rs,rg,h,fun x G1 h1 H1 x1 rg1 v1 d1=>?_⟩;refine⟨σD,G1,_,rs.ext x1,rg1,h1,fun y G2 h2 H2 x2 rg2 v2 d2=>?_⟩;exact⟨x,y,d,G2,_,d1.ext x2,d2,dv.ext (x1.trans x2),rg2,h2,fun G3 q H3 x3 rg3=>cl σD G3 q H3 (x1.trans (x2.trans x3)) rg3 σ (rs.ext (x1.trans (x2.trans x3)))⟩
def F5(te:DTE)(g:DTG):DTS:=fun D σ G=>te σ G fun x G1=>g x σ G1 D.nx
theorem W6{K:W.Frag}{g:DTG}{E:Ends}{σ:St}{H:Hp}(h:Du K (F5 te g) E σ H):T5 (Bi K te) (C6 K g) E σ H:=by
 obtain⟨σD,G,D,rs,rg,h,cl⟩:=h;refine⟨σD,G,_,rs,rg,h,fun d G1 h1 H1 x1 rg1 v dv=>?_⟩;exact⟨d,σD,G1,_,dv,rs.ext x1,rg1,h1,fun σ2 G2 q=>(cl.go x1).nx σ2 G2 q⟩
theorem Ab7{tg:Expr}{g:DTG}(he:QE X e te)(hg:QG X tg g)(hs:swapsWithSole [tg] e pos.line X.env=pure false:=by rfl)(hw:swappedStores [tg] e X.env=pure none:=by rfl)(h1:(assignEach [tg] X.env).map (·.2)=[assign tg X.env]:=by rfl):QS X (.Assign [tg] e pos) (F5 te g):=(Acr he hg hs hw h1).imp fun _ _ _ h=>W6 h
theorem Et{i:Nat}{x:Str}{pos':Pos}(hN:X.N.Nodup)(he:QE X e te)(hi:X.N[i]? = some x:=by rfl)(hx:Loc X.env.scope x:=by first|exact Or.inl rfl|exact Or.inr rfl)(hs:swapsWith e (some (.Name x pos')) pos.line X.env=pure false:=by rfl)(hf:X.fn x=true∨X.env.scope.names.lookup x=some .local:=by first|exact .inl rfl|exact .inr rfl|assumption) :
  QS X (.Assign [.Name x pos'] e pos) (F5 te (C5 i)):=(Acn hN hi hx he hs hf).imp fun E σ H ⟨σD,G,D,rs,rg,h,cl⟩=>
 ⟨σD,G,_,rs,rg,h,fun d G1 h1 H1 x1 rg1 v dv=>cl.nx _ G1 h1 H1 x1 rg1 _ ((rs.ext x1).set dv i)⟩
def nPar(i j:Nat)(ta:DTA):DTS:=fun D σ G=>ta σ G fun vs G1=>∃v w,vs=[v,w]∧D.nx ((σ.set i (some v)).set j (some w)) G1
theorem Ab5{i j:Nat}{x y:Str}{tA:DTA}{px py pt:Pos}{kt k2 pt2}(hc:X.calm=true)(hN:X.N.Nodup)(ha:QA X [a,b] tA)(hi:X.N[i]? = some x:=by rfl)(hj:X.N[j]? = some y:=by rfl)(hij:i≠j:=by decide)(hx:X.env.scope.names.lookup x=some .local:=by rfl)(hy:X.env.scope.names.lookup y=some .local:=by rfl)(hw:swappedStores [.Tuple [.Name x px,.Name y py] kt pt] (.Tuple [a,b] k2 pt2) X.env=pure (some [x,y]):=by rfl)(hs:swapsWithSole [.Tuple [.Name x px,.Name y py] kt pt] (.Tuple [a,b] k2 pt2) pos.line X.env=pure false:=by rfl) :
  QS X (.Assign [.Tuple [.Name x px,.Name y py] kt pt] (.Tuple [a,b] k2 pt2) pos) (nPar i j tA):=(Aco hc hN hi hj hij hx hy ha hw hs).imp fun E σ H zz=>by
 obtain⟨σD,G,D,rs,rg,h,cl⟩:=zz;refine⟨σD,G,_,rs,rg,h,fun ds G1 zz H1 x1 rg1 vs dv=>?_⟩;obtain⟨d1,d2,e,h1⟩:=zz;subst e;obtain⟨v,w,rfl,r1,r2⟩:=dv.two;exact⟨v,w,rfl,cl.nx _ G1 h1 H1 x1 rg1 _ (((rs.ext x1).set r1 i).set r2 j)⟩
def nAug(i:Nat)(te:DTE)(r:DR2):DTS:=fun D σ G=>∃x,σ[i]? = some (some x)∧te σ G fun y G1=>r x y G1 fun z G2=>D.nx (σ.set i (some z)) G2
def QIp(X:Cx)(op:Operator)(r:DR2):Prop:=PIp X op (Kj X.K r)
theorem Ad2{op:Operator}{f:Int→Int→Int}(h:PIp X op (ipI f)):QIp X op (dI0 fun i j=>.int (f i j)):=fun pins s σ H x y v u Q I rx ry zz=>by
 obtain⟨dx,dy,G,Q',hx,hy,rg,⟨i,ei,j,ej,q⟩,cl⟩:=zz;subst ei ej;cases hx;cases hy;exact h pins s σ H _ _ v u Q I rx ry ⟨i,j,rfl,rfl,cl _ G q H (Ext.refl H) rg _ (.int _)⟩
theorem ia_add:QIp X .Add (dI0 fun i j=>.int (i+j)):=Ad2 Ad1
theorem U1{i:Nat}{x:Str}{op:Operator}{r:DR2}{pos':Pos}(hN:X.N.Nodup)(ho:QIp X op r)(he:QE X e te)(hi:X.N[i]? = some x:=by rfl)(hx:Loc X.env.scope x:=by first|exact Or.inl rfl|exact Or.inr rfl)(hf:X.fn x=true∨X.env.scope.names.lookup x=some .local:=by first|exact .inl rfl|exact .inr rfl|assumption) :
  QS X (.AugAssign (.Name x pos') op e pos) (nAug i te r):=(Acq hN hi hx he ho hf).imp fun E σ H zz=>by
 obtain⟨σD,G,D,rs,rg,⟨d,ed,h⟩,cl⟩:=zz;obtain⟨v,ev,dv⟩:=rs.2 i d ed;refine⟨v,ev,σD,G,_,rs,rg,h,fun y G1 h1 H1 x1 rg1 v1 d1=>?_⟩;exact⟨d,y,G1,_,dv.ext x1,d1,rg1,h1,fun z G2 q H2 x2 rg2 v2 d2=>cl.nx _ G2 q H2 (x1.trans x2) rg2 _ ((rs.ext (x1.trans x2)).set d2 i)⟩

def Sub(G G':Gp):Prop:=∀a o,G a=some o→G' a=some o
theorem Sub.refl(G:Gp):Sub G G:=fun _ _ h=>h
theorem Sub.trans{G G1 G2:Gp}(a:Sub G G1)(b:Sub G1 G2):Sub G G2:=fun c o h=>b c o (a c o h)
theorem Sub.new{G:Gp}{p:Addr}{o:GO}(h:G p=none):Sub G (Ab G p o):=fun a u e=>by rw[Ad (gne e h)];exact e
theorem Sub.upd{G G':Gp}(s:Sub G G')(a:Addr)(o:GO):Sub (Ab G a o) (Ab G' a o):=fun b u e=>by
 by_cases h:b=a
 ·subst h;rw[Aa] at e ⊢;exact e
 ·rw[Ad h] at e ⊢;exact s b u e
theorem Sub.none{G G':Gp}(s:Sub G G'){p:Addr}(h:G' p=Option.none):G p=Option.none:=by
 cases e:G p with
 |none=>rfl
 |some o=>rw[s p o e] at h;cases h
theorem Sub.skip{G G':Gp}(s:Sub G G'){p:Addr}{o:GO}(h:G' p=Option.none):Sub G (Ab G' p o):=s.trans (Sub.new h)
def Fs(P:DSt→Gp→Prop)(σ:DSt)(G:Gp):Prop:=∃G',Sub G' G∧P σ G'
theorem Fs.of{P:DSt→Gp→Prop}{σ:DSt}{G:Gp}(h:P σ G):Fs P σ G:=⟨G,Sub.refl G,h⟩
def U8(c:DTT)(tb:DTS):DTS:=fun D σ G=>∃W:Nat→DSt→Gp→Prop,(∃m,W m σ G)∧∀m σ G,W m σ G→
 c σ G fun b G1=>if b=true then ∃N:DSt→Gp→Prop,(∀σ' G',N σ' G'→∃m',m'<m∧W m' σ' G')∧tb { D with nx:=Fs N,ct:=Fs N,bk:=D.nx } σ G1 else D.nx σ G1
theorem qs_while{tc:DTT}{tb:DTS}(hp:PassesOwn (model X.prog X.w) X.A X.env X.xe)(hc:QT X c tc)(hb:QSs X body tb):QS X (.While c body [] pos) (U8 tc tb):=(Wb hp hc hb).imp fun E σ H zz=>by
 obtain⟨σD,G,D,rs,rg,⟨W,⟨m0,w0⟩,turn⟩,cl⟩:=zz;refine⟨fun m σ' H'=>∃σD' G',RelS X.K H' σD' σ'∧RelG X.K H' G'∧Ext H H'∧W m σD' G',⟨m0,σD,G,rs,rg,Ext.refl H,w0⟩,?_⟩;rintro m σ1 H1 ⟨σD1,G1,rs1,rg1,x1,w1⟩;refine⟨σD1,G1,_,rs1,rg1,turn m σD1 G1 w1,fun k G2 h2 H2 x2 rg2=>?_⟩;cases k with
 |true=>
  rw[if_pos rfl] at h2 ⊢;obtain⟨N,hN,h2⟩:=h2;refine⟨fun σ' H'=>∃σD' G',RelS X.K H' σD' σ'∧RelG X.K H' G'∧Ext H H'∧N σD' G',fun σ' H' ⟨σD',G',r1,r2,r3,n⟩=>?_,?_⟩
  ·obtain⟨m',hm,w'⟩:=hN σD' G' n;exact⟨m',hm,σD',G',r1,r2,r3,w'⟩
  ·have xx:=x1.trans x2;exact⟨σD1,G2,_,rs1.ext x2,rg2,h2,⟨fun s3 G3 ⟨G4,sb,n⟩ H3 x3 rg3 σ3 rs3=>⟨s3,G4,rs3,rg3.ext' sb,xx.trans x3,n⟩,(cl.go xx).rt,(cl.go xx).nx,fun s3 G3 ⟨G4,sb,n⟩ H3 x3 rg3 σ3 rs3=>⟨s3,G4,rs3,rg3.ext' sb,xx.trans x3,n⟩⟩⟩
 |false=>
  rw[if_neg Bool.false_ne_true] at h2 ⊢;exact cl.nx _ G2 h2 H2 (x1.trans x2) rg2 _ (rs1.ext x2)

def Am(G:Gp):D→Option (List D)
 |.tup ds=>some ds
 |.lint ns=>some (ns.map .int)
 |.ref a=>match G a with
  |some (.lst ds)=>some ds
  |_=>none
 |_=>none
def iSeq(K:W.Frag)(tl:TE):TI:=fun σ H R=>tl σ H fun x H1=>∃a,x=.ref a∧(((∃xs,SqL K H1 a xs)∧R (Itl K a) H1)∨((∃xs,SqT K H1 a xs)∧R (Itt K a) H1))
theorem Lp{tg l:Expr}{tl:TE}(hl:PE X l tl):PI X tg l (iSeq X.K tl):=by
 intro pins s σ H R I h;refine thn (hl pins s σ H _ I h) fun v s1 zz=>?_;obtain⟨x,H1,I1,r1,q1⟩:=zz;obtain⟨a,e,q1⟩:=q1;subst e;cases r1;have fin:∀(b:Addr),b∈[s1.heap.objs.size]→Ej X pins H1 b:=fun b hb=>by
  have e:b=s1.heap.objs.size:=by simpa using hb
  subst e;exact I1.fpOk (Nat.le_refl _) (I1.hok.fresh (Nat.le_refl _))
 rcases q1 with ⟨⟨xs,hq⟩,q⟩|⟨⟨xs,hq⟩,q⟩
 ·obtain⟨its,rv,p,hz⟩:=I1.list hq;refine wpAny_pyIter_list p.isList ?_;exact⟨s1.heap.objs.size,[s1.heap.objs.size],_,_,H1,rfl,I1.kept (t':=s1.toks) fun b o e=>Heap.get?_push_of_some _ e,Sa a _,⟨_,Heap.get?_push_size _ rfl,rfl,rfl⟩,fin,q⟩
 ·obtain⟨its,rv,p,hz⟩:=I1.tuple hq;refine wpAny_pyIter_tuple (show s1.heap.IsTuple a its.toArray from p) ?_;exact⟨s1.heap.objs.size,[s1.heap.objs.size],_,_,H1,rfl,I1.kept (t':=s1.toks) fun b o e=>Heap.get?_push_of_some _ e,Pu a _,⟨_,Heap.get?_push_size _ rfl,rfl,rfl⟩,fin,q⟩
structure Items(K:W.Frag)(J:It)(G:Gp)(H:Hp)(ds:List D):Prop where
 go:∀i,i<ds.length→J.go i H
 yl:∀i x H',i<ds.length→J.yld i H x H'→H'=H∧∃d,ds[i]? = some d∧DV K H d x
 st:J.stop ds.length H
theorem K1{K:W.Frag}{H:Hp}{G:Gp}{a:Addr}{ds:List D}{xs:List V}(e:SqL K H a xs)(r:DVs K H ds xs):Items K (Itl K a) G H ds:=by
 refine⟨fun i hi=>?_,fun i x H' hi y=>?_,⟨xs,e,by rw[←r.length];exact Nat.le_refl _⟩⟩
 ·rw[r.length] at hi;exact⟨xs,xs[i],e,by simp[hi]⟩
 ·obtain⟨e1,e2⟩:=y;exact⟨e1,r.get' (e2 xs e)⟩
theorem Tb{K:W.Frag}{H:Hp}{G:Gp}{a:Addr}{ds:List D}{xs:List V}(e:H a=some (.tup xs))(r:DVs K H ds xs):Items K (Itt K a) G H ds:=by
 refine⟨fun i hi=>?_,fun i x H' hi y=>?_,⟨xs,.inl (.inl e),by rw[←r.length];exact Nat.le_refl _⟩⟩
 ·rw[r.length] at hi;exact⟨xs,xs[i],.inl (.inl e),by simp[hi]⟩
 ·obtain⟨e1,e2⟩:=y;exact⟨e1,r.get' (e2 xs (.inl (.inl e)))⟩
def jOf(K:W.Frag)(d:D)(a:Addr):It:=match d with
 |.tup _=>Itt K a
 |_=>Itl K a
theorem D1{K:W.Frag}{H:Hp}{G:Gp}{d:D}{ds:List D}{a:Addr}(rg:RelG K H G)(h:Am G d=some ds)(dv:DV K H d (.ref a)):Items K (jOf K d a) G H ds:=by
 cases dv with
 |tup e r=>cases h;exact Tb e r
 |lint e=>cases h;exact K1 e.sq DVs.ints
 |ref=>
  simp only[Am] at h
  split at h
  ·rename_i ds' q;cases h;obtain⟨xs,e,r⟩:=rg a _ q;exact K1 (.inl (.inl e)) r
  ·cases h
theorem Ft{K:W.Frag}{H:Hp}{G:Gp}{d:D}{ds:List D}{v:V}(h:Am G d=some ds)(dv:DV K H d v):∃a,v=.ref a:=by
 cases dv<;>first|exact⟨_,rfl⟩|cases h
def J4(ds:List D)(same:Gp→Prop)(g:DTG)(tb:DTS)(D:DEnds)(σ:DSt)(G:Gp):Prop:=∃P:Nat→DSt→Gp→Prop,P 0 σ G∧(∀i σ G,i≤ds.length→P i σ G→same G)∧
 (∀i x σ G,ds[i]? = some x→P i σ G→g x σ G fun σ2 G2=>tb { D with nx:=Fs (P (i+1)),ct:=Fs (P (i+1)),bk:=D.nx } σ2 G2)∧∀σ G,P ds.length σ G→D.nx σ G
theorem Gg{K:W.Frag}{J:It}{ds:List D}{same:Gp→Prop}{g:DTG}{tb:DTS}{D:DEnds}{E:Ends}{σD:DSt}{σ:St}{G:Gp}{H:Hp}(rs:RelS K H σD σ)(rg:RelG K H G)(cl:D.Reach K H E)(hJ:∀H' G',Ext H H'→RelG K H' G'→same G'→Items K J G' H' ds)(h:J4 ds same g tb D σD G) :
  ∃W:Nat→Nat→St→Hp→Prop,(∃m,W 0 m σ H)∧∀i m σ H,W i m σ H→
   (J.stop i H∧E.nx σ H)∨(J.go i H∧∃N:St→Hp→Prop,(∀σ' H',N σ' H'→∃m',m'<m∧W (i+1) m' σ' H')∧∀x H',J.yld i H x H'→C6 K g x σ H' fun σ2 H2=>Du K tb { E with nx:=N,ct:=N,bk:=E.nx } σ2 H2):=by
 obtain⟨P,p0,keep,step,fin⟩:=h;refine⟨fun i m σ' H'=>m=ds.length-i∧i≤ds.length∧∃σD' G',RelS K H' σD' σ'∧RelG K H' G'∧Ext H H'∧P i σD' G',⟨ds.length,rfl,Nat.zero_le _,σD,G,rs,rg,Ext.refl H,p0⟩,?_⟩;rintro i m σ1 H1 ⟨rfl,hi,σD1,G1,rs1,rg1,x1,p1⟩;have I:=hJ H1 G1 x1 rg1 (keep i σD1 G1 hi p1)
 by_cases hlt:i<ds.length
 ·refine .inr ⟨I.go i hlt,fun σ' H'=>∃σD' G',RelS K H' σD' σ'∧RelG K H' G'∧Ext H H'∧P (i+1) σD' G',fun σ' H' ⟨s2,G2,r1,r2,r3,p⟩=>⟨ds.length-(i+1),by omega,rfl,hlt,s2,G2,r1,r2,r3,p⟩,fun x H' y=>?_⟩
  obtain⟨e,d,ed,dv⟩:=I.yl i x H' hlt y;subst e;refine⟨d,σD1,G1,_,dv,rs1,rg1,step i d σD1 G1 ed p1,fun σ2 G2 h2 H2 x2 rg2 σ' rs2=>?_⟩;have xx:=x1.trans x2;exact⟨σ2,G2,_,rs2,rg2,h2,⟨fun s3 G3 ⟨G4,sb,n⟩ H3 x3 rg3 σ3 rs3=>⟨s3,G4,rs3,rg3.ext' sb,xx.trans x3,n⟩,(cl.go xx).rt,(cl.go xx).nx,fun s3 G3 ⟨G4,sb,n⟩ H3 x3 rg3 σ3 rs3=>⟨s3,G4,rs3,rg3.ext' sb,xx.trans x3,n⟩⟩⟩
 ·have e:i=ds.length:=by omega
  subst e;exact .inl ⟨I.st,cl.nx _ G1 (fin σD1 G1 p1) H1 x1 rg1 _ rs1⟩
def nFor(te:DTE)(g:DTG)(tb:DTS):DTS:=fun D σ G=>te σ G fun d G1=>∃ds,Am G1 d=some ds∧J4 ds (fun G'=>Am G' d=some ds) g tb D σ G1
theorem Lm{tg iter:Expr}{g:DTG}{tb:DTS}(hp:PassesOwn (model X.prog X.w) X.A X.env X.xe)(hc:X.calm=true)(hi:QE X iter te)(hg:QG X tg g)(hb:QSs X body tb)(hs:∀x,foldedSetIterable iter X.env x=pure x:=by intro _;rfl):QS X (.For tg iter body [] pos) (nFor te g tb):=(Lo hp hc (Lp hi) hg hb hs).imp fun E σ H zz=>by
 obtain⟨σD,G,D,rs,rg,h,cl⟩:=zz;refine⟨σD,G,_,rs,rg,h,fun d G1 zz H1 x1 rg1 v dv=>?_⟩;obtain⟨ds,ei,L⟩:=zz;obtain⟨a,rfl⟩:=Ft ei dv;refine⟨a,rfl,?_⟩;have lp:=Gg (J:=jOf X.K d a) (rs.ext x1) rg1 (cl.go x1) (fun H' G' x' rg' s'=>D1 rg' s' (dv.ext x')) L;have I0:=D1 rg1 ei dv;cases dv with
 |tup e r=>exact .inr ⟨⟨_,.inl (.inl e)⟩,lp⟩
 |lint e=>exact .inl ⟨⟨_,e.sq⟩,lp⟩
 |ref=>
  simp only[Am] at ei
  split at ei
  ·rename_i ds' q;obtain⟨xs,e,r⟩:=rg1 a _ q;exact .inl ⟨⟨_,.inl (.inl e)⟩,lp⟩
  ·cases ei
def J3(n:Nat):List D:=(List.range n).map fun i=>D.int (i:Nat)
theorem B5(n:Nat):(J3 n).length=n:=by simp[J3]
theorem Jd{n i:Nat}(h:i<n):(J3 n)[i]? = some (.int (i:Nat)):=by simp[J3,h]
def Aaw(tA:DTA)(g:DTG)(tb:DTS):DTS:=fun D σ G=>tA σ G fun ds G1=>∃j,ds=[.int j]∧(-(2 ^ 62)≤j∧j<2 ^ 62)∧J4 (J3 j.toNat) (fun _=>True) g tb D σ G1
theorem Rc{tg:Expr}{g:DTG}{tb:DTS}{tA:DTA}{p p2:Pos}(hp:PassesOwn (model X.prog X.w) X.A X.env X.xe)(hc:X.calm=true)(hm:X.mg "range" = none)(ha:QA X [a] tA)(hg:QG X tg g)(hb:QSs X body tb)(hgl:Gl X "range":=by rfl)(hst:starEach [a] X.env=[(false,eval a X.env)]:=by rfl)(hs:∀x,foldedSetIterable (.Call (.Name "range" p) [a] [] p2) X.env x=pure x:=by intro _;rfl) :
  QS X (.For tg (.Call (.Name "range" p) [a] [] p2) body [] pos) (Aaw tA g tb):=(Lo hp hc (Kw hgl hm ha hst) hg hb hs).imp fun E σ H zz=>by
 obtain⟨σD,G,D,rs,rg,h,cl⟩:=zz;refine⟨σD,G,_,rs,rg,h,fun ds G1 zz H1 x1 rg1 vs dv=>?_⟩;obtain⟨j,ej,⟨j1,j2⟩,L⟩:=zz;subst ej;obtain⟨v,rfl,r⟩:=dv.one;cases r;refine⟨j,rfl,j1,j2,Gg (J:=Itr 0 j.toNat) (rs.ext x1) rg1 (cl.go x1) (fun H' G' x' rg' _=>?_) L⟩;refine⟨fun i hi=>by rw[B5] at hi;exact hi,fun i x H2 hi y=>?_,by show j.toNat≤_;rw[B5];exact Nat.le_refl _⟩
 rw[B5] at hi;obtain⟨e1,e2⟩:=y;refine⟨e1,_,Jd hi,?_⟩;rw[e2,Int.zero_add];exact .int _

abbrev DX:=Value→Gp→Prop
abbrev DSp:=List D→Gp→DK→DX→Prop
def E8(K:W.Frag)(E:DX):XK:=fun c _ H'=>∃G',RelG K H' G'∧E c G'
def liftSp(K:W.Frag)(sp:DSp):Sp:=fun vs H Q E=>∃ds G Q' E',DVs K H ds vs∧RelG K H G∧sp ds G Q' E'∧(∀d G',Q' d G'→Fwd K H G' fun H'=>∀v,DV K H' d v→Q v H')∧∀c G',E' c G'→Fwd K H G' fun H'=>∀ad,E c ad H'
structure Def(P:Program)(w:World)(K:W.Frag)(mg:Str→Option Value)(base:Heap)(CX:CXT)(k:Nat)(x:Str)(ps:List Str)(sp:DSp):Prop where
 ex:∃f fd,FnOk P w K mg base CX k f fd ps (liftSp K sp)∧mg x=some (.ref f)∧W.keepIn K (.ref f)=true∧Binds K fd ps []
def Dt(sp:DSp)(E:DX)(t:DTA):DTE:=fun σ G Q=>t σ G fun ds G1=>sp ds G1 Q E
abbrev noX:DX:=fun _ _=>False
theorem q_call{CX:CXT}{k:Nat}{x:Str}{ps:List Str}{sp:DSp}{E:DX}{es:List Expr}{p:Pos}{tA:DTA}(F:Def X.prog X.w X.K X.mg X.base CX k x ps sp)(hr:Room k X.A)(hx:By CX X (E8 X.K E))(ha:QA X (e::es) tA)(hg:Gl X x:=by rfl)(hdb:(x == ("__debug__" : Str))=false:=by decide)(he:starEach (e::es) X.env=(false,eval e X.env)::starEach es X.env:=by rfl)(hpl:(backTo pos (starEach es X.env)).any (·.1)=false:=by rfl) :
  QE X (.Call (.Name x p) (e::es) [] pos) (Dt sp E tA):=by
 obtain⟨f,fd,F,hm,hk,hb⟩:=F.ex;refine(Y5 (ds:=[]) (dvs:=[]) F hr hg hm hk hb .nil hx ha hdb he hpl).imp fun σ H Q zz=>?_;obtain⟨σD,G,Q',rs,rg,h,cl⟩:=zz;refine⟨σD,G,_,rs,rg,h,fun ds G1 h1 H1 x1 rg1 vs dv=>?_⟩;show liftSp X.K sp (vs++[]) H1 Q (E8 X.K E);rw[List.append_nil];exact⟨ds,G1,Q',E,dv,rg1,h1,fun d G' q=>(cl d G' q).go x1,fun c G' q H2 x2 rg2 ad=>⟨G',rg2,q⟩⟩
theorem passN{E:DX}:By CX0 X (E8 X.K E):=fun _ _ _ _ _ _ _ h=>h.elim

def B9(N:List Str)(ds:List D):DSt:=ds.map some++List.replicate (N.length-ds.length) none
def Fq(Q:DK)(d:D)(G:Gp):Prop:=∃G',Sub G' G∧Q d G'
theorem Fq.of{Q:DK}{d:D}{G:Gp}(h:Q d G):Fq Q d G:=⟨G,Sub.refl G,h⟩
theorem Eg{K:W.Frag}{H:Hp}{N:List Str}{ds:List D}{vs:List V}(r:DVs K H ds vs):RelS K H (B9 N ds) (L2.start N vs):=by
 have hl:=r.length;refine⟨by simp[B9,L2.start,hl],fun i d e=>?_⟩
 unfold B9 at e;unfold L2.start
 by_cases hi:i<ds.length
 ·rw[List.getElem?_append_left (by simpa using hi),List.getElem?_map] at e
  rw[List.getElem?_append_left (by simpa[←hl] using hi),List.getElem?_map]
  cases q:ds[i]? with
  |none=>rw[q] at e;cases e
  |some d'=>
   rw[q] at e;cases e;obtain⟨v,ev,dv⟩:=r.get q;exact⟨v,by rw[ev];rfl,dv⟩
 ·rw[List.getElem?_append_right (by simpa using hi),List.getElem?_replicate] at e
  split at e<;>cases e
section
variable{P:Program}{w:World}{K:W.Frag}{mg:Str→Option Value}{base:Heap}
theorem okD{x qual:Str}{st:Stmt}{f:Addr}{fd:FuncData}{N ps:List Str}{k:Nat}{sp:DSp}(F:Fun K x qual st f fd)(S:FnScope N ps (defScope st))(len:∀ds G Q E,sp ds G Q E→ds.length=ps.length)(hbody:∀(cdv:Value) (A:Around) (outer:List Env) (s:Shared) (H:Hp) (XE:XK) (ds:List D) (G:Gp) (Q:DK) (E:DX),Room k (A.deeper (envOfC qual (defScope st) s.heap.objs.size f cdv))→sp ds G Q E→
   ∃t,QSs (Cw CX0 P w K mg base N qual (defScope st) f cdv A outer s H XE).nox (defBody st) t∧t { nx:=fun _ G'=>Fq Q .non G',rt:=Fq Q } (B9 N ds) G):FnOk P w K mg base CX0 (k+1) f fd ps (liftSp K sp):=by
 refine F.ok S (fun vs H Q E ⟨ds,G,Q',E',dv,rg,h,_⟩=>by rw[←dv.length];exact len ds G Q' E' h) fun cdv A outer s H vs Q E hr ⟨ds,G,Q',E',dv,rg,h,cl,_⟩=>?_
 obtain⟨t,ht,hq⟩:=hbody cdv A outer s H E ds G Q' E' hr h;refine⟨_,ht,B9 N ds,G,_,Eg dv,rg,hq,⟨fun σD G1 ⟨G2,sb,q⟩ H1 x1 rg1 σ rs=>cl _ G2 q H1 x1 (rg1.ext' sb) _ .non,fun d G1 ⟨G2,sb,q⟩ H1 x1 rg1 v dv=>cl _ G2 q H1 x1 (rg1.ext' sb) _ dv,fun _ _ z=>z.elim,fun _ _ z=>z.elim⟩⟩
end
abbrev DRC:=List D→Gp→DK→Prop
def Aa0(K:W.Frag)(r:DRC):List V→Hp→VK→Prop:=fun xs H Q=>∃ds G Q',DVs K H ds xs∧RelG K H G∧r ds G Q'∧∀d G',Q' d G'→Fwd K H G' fun H'=>∀v,DV K H' d v→Q v H'
def QC(X:Cx)(f:Value)(r:DRC):Prop:=CallR X f (Aa0 X.K r)
theorem _root_.L2.CallR.imp{f:Value}{r r':List V→Hp→VK→Prop}(h:CallR X f r)(g:∀xs H Q,r' xs H Q→r xs H Q):CallR X f r':=fun pins s σ H xs us Q I rx q=>h pins s σ H xs us Q I rx (g xs H Q q)
def nCB(r:DRC)(t:DTA):DTE:=fun σ G Q=>t σ G fun vs G1=>r vs G1 Q
theorem Rn{K:W.Frag}{r:DRC}{tA:DTA}{σ:St}{H:Hp}{Q:VK}(h:Bi K (nCB r tA) σ H Q):tCB (Aa0 K r) (Um K tA) σ H Q:=by
 obtain⟨σD,G,Q',rs,rg,h,cl⟩:=h;exact⟨σD,G,_,rs,rg,h,fun ds G1 h1 H1 x1 rg1 vs dv=>⟨ds,G1,Q',dv,rg1,h1,fun d G' q=>(cl d G' q).go x1⟩⟩
theorem B1{x:Str}{id:String}{r:DRC}{es:List Expr}{p:Pos}{tA:DTA}(hc:QC X (.builtin id) r)(hm:X.mg x=none)(hv:bootBuiltins x=some (.builtin id))(ha:QA X (e::es) tA)(hg:Gl X x:=by rfl)(hn:x≠"__name__":=by decide)(hdb:(x == ("__debug__" : Str))=false:=by decide)(he:starEach (e::es) X.env=(false,eval e X.env)::starEach es X.env:=by rfl)(hpl:(backTo pos (starEach es X.env)).any (·.1)=false:=by rfl):QE X (.Call (.Name x p) (e::es) [] pos) (nCB r tA):=(Wn hc hg hm hv ha hn hdb he hpl).imp fun _ _ _ h=>Rn h
theorem Nl{x:Str}{T:String}{r:DRC}{es:List Expr}{p:Pos}{tA:DTA}(hc:QC X (.type T) r)(hm:X.mg x=none)(hv:bootBuiltins x=some (.type T))(ha:QA X (e::es) tA)(hg:Gl X x:=by rfl)(hn:x≠"__name__":=by decide)(hdb:(x == ("__debug__" : Str))=false:=by decide)(he:starEach (e::es) X.env=(false,eval e X.env)::starEach es X.env:=by rfl)(hpl:(backTo pos (starEach es X.env)).any (·.1)=false:=by rfl):QE X (.Call (.Name x p) (e::es) [] pos) (nCB r tA):=(Ss hc hg hm hv ha hn hdb he hpl).imp fun _ _ _ h=>Rn h
theorem c_abs:QC X (.builtin "abs") (fun ds G Q=>∃i,ds=[.int i]∧Q (.int (if i<0 then -i else i)) G):=call_abs.imp fun xs H Q zz=>by
 obtain⟨ds,G,Q',dv,rg,⟨i,e,q⟩,cl⟩:=zz;subst e;obtain⟨v,rfl,r⟩:=dv.one;cases r;exact⟨i,rfl,cl _ G q H (Ext.refl H) rg _ (.int _)⟩
theorem Aee(hc:X.calm=true):QC X (.builtin "max") (fun ds G Q=>∃i j,ds=[.int i,.int j]∧Q (.int (if j>i then j else i)) G):=(To hc).imp fun xs H Q zz=>by
 obtain⟨ds,G,Q',dv,rg,⟨i,j,e,q⟩,cl⟩:=zz;subst e;obtain⟨v,w,rfl,r,r'⟩:=dv.two;cases r;cases r';exact⟨i,j,rfl,cl _ G q H (Ext.refl H) rg _ (.int _)⟩
theorem Aed(hc:X.calm=true):QC X (.builtin "min") (fun ds G Q=>∃i j,ds=[.int i,.int j]∧Q (.int (if j<i then j else i)) G):=(Tl hc).imp fun xs H Q zz=>by
 obtain⟨ds,G,Q',dv,rg,⟨i,j,e,q⟩,cl⟩:=zz;subst e;obtain⟨v,w,rfl,r,r'⟩:=dv.two;cases r;cases r';exact⟨i,j,rfl,cl _ G q H (Ext.refl H) rg _ (.int _)⟩
theorem Xo:QC X (.builtin "divmod") (fun ds G Q=>∃i j,ds=[.int i,.int j]∧T7 i j∧Q (.tup [.int (i / j),.int (i % j)]) G):=call_divmod.imp fun xs H Q zz=>by
 obtain⟨ds,G,Q',dv,rg,⟨i,j,e,hc,q⟩,cl⟩:=zz;subst e;obtain⟨v,w,rfl,r,r'⟩:=dv.two;cases r;cases r';refine⟨i,j,rfl,hc,fun p hp=>?_⟩;exact cl _ G q _ (Ext.fresh hp) (rg.tup hp) _ (.tup Ae (.cons (.int _) (.cons (.int _) .nil)))
def Hl(G:Gp):D→Option Nat
 |.tup ds=>some ds.length
 |.lint ns=>some ns.length
 |.str y=>if y.length≤sizeLine then some y.length else none
 |.ref a=>match G a with
  |some (.lst ds)=>some ds.length
  |_=>none
 |_=>none
theorem c_len:QC X (.builtin "len") (fun ds G Q=>∃d,ds=[d]∧∃n,Hl G d=some n∧Q (.int (n:Nat)) G):=call_len.imp fun xs H Q zz=>by
 obtain⟨ds,G,Q',dv,rg,⟨d,e,n,en,q⟩,cl⟩:=zz;subst e;obtain⟨v,rfl,r⟩:=dv.one;refine⟨v,n,rfl,?_,cl _ G q H (Ext.refl H) rg _ (.int _)⟩;cases r with
 |tup e r=>cases en;exact .inr ⟨_,.inl (.inl e),r.length⟩
 |@lint ns a e=>cases en;exact .inl ⟨_,e.sq,by simp⟩
 |str y=>
  simp only[Hl] at en
  split at en
  ·rename_i hy;cases en;exact⟨hy,rfl⟩
  ·cases en
 |ref a=>
  simp only[Hl] at en
  split at en
  ·rename_i ds g;cases en;obtain⟨xs,e,r⟩:=rg a _ g;exact .inl ⟨xs,.inl (.inl e),r.length⟩
  ·cases en
 |_=>cases en
theorem Z9:QC X (.type "tuple") (fun ds G Q=>∃d,ds=[d]∧∃es,Am G d=some es∧Q (.tup es) G):=call_tuple_of.imp fun xs H Q zz=>by
 obtain⟨ds,G,Q',dv,rg,⟨d,e,es,en,q⟩,cl⟩:=zz;subst e;obtain⟨v,rfl,r⟩:=dv.one;cases r with
 |tup e r=>cases en;exact⟨_,_,rfl,.inr ⟨.inl (.inl e),cl _ G q H (Ext.refl H) rg _ (.tup e r)⟩⟩
 |@lint ns a e=>cases en;exact⟨_,_,rfl,.inl ⟨e.sq,fun p hp=>cl _ G q _ (Ext.fresh hp) (rg.tup hp) _ (.tup Ae DVs.ints)⟩⟩
 |ref a=>
  simp only[Am] at en
  split at en
  ·rename_i ds g;cases en;obtain⟨xs,e,r⟩:=rg a _ g;exact⟨a,xs,rfl,.inl ⟨.inl (.inl e),fun p hp=>cl _ G q _ (Ext.fresh hp) (rg.tup hp) _ (.tup Ae (r.ext (Ext.fresh hp)))⟩⟩
  ·cases en
 |_=>cases en
theorem Aef:QC X (.type "list") (fun ds G Q=>∃d,ds=[d]∧∃es,Am G d=some es∧∀p,G p=none→Q (.ref p) (Ab G p (.lst es))):=call_list_of.imp fun xs H Q zz=>by
 obtain⟨ds,G,Q',dv,rg,⟨d,e,es,en,q⟩,cl⟩:=zz;subst e;obtain⟨v,rfl,r⟩:=dv.one;cases r with
 |tup e r=>cases en;exact⟨_,_,rfl,.inr (.inl (.inl e)),fun p hp=>cl _ _ (q p (rg.free hp)) _ (Ext.fresh hp) (rg.lst hp r) _ (.ref p)⟩
 |@lint ns a e=>cases en;exact⟨_,_,rfl,.inl e.sq,fun p hp=>cl _ _ (q p (rg.free hp)) _ (Ext.fresh hp) (rg.lst hp DVs.ints) _ (.ref p)⟩
 |ref a=>
  simp only[Am] at en
  split at en
  ·rename_i ds g;cases en;obtain⟨xs,e,r⟩:=rg a _ g;exact⟨a,xs,rfl,.inl (.inl (.inl e)),fun p hp=>cl _ _ (q p (rg.free hp)) _ (Ext.fresh hp) (rg.lst hp r) _ (.ref p)⟩
  ·cases en
 |_=>cases en
def nApp(to:DTE)(ta:DTE):DTE:=fun σ G Q=>to σ G fun x G1=>∃p,x=.ref p∧(∃ds,G1 p=some (.lst ds))∧ta σ G1 fun y G2=>∃ds,G2 p=some (.lst ds)∧ds.length<sizeLine∧Q .non (Ab G2 p (.lst (ds++[y])))
theorem q_app{o:Expr}{to:DTE}{apos cpos:Pos}(ho:QE X o to)(ha:QE X e ta)(hbase:attributeBase o "append" X.env (eval o X.env)=eval o X.env:=by rfl)(hfew:((backTo cpos (starEach [e] X.env)).all (fun x=>!x.1)&&(backToKw cpos (keywordEach [] X.env)).all (fun x=>x.1.isSome)
   && decide (([e]:List Expr).length+([]:List Keyword).length+(if ([]:List Keyword).isEmpty then 0 else 1)<30))=true:=by rfl)(hline:(apos.endLine == cpos.line)=true:=by rfl)(hs:starEach [e] X.env=(false,eval e X.env)::starEach [] X.env:=by rfl)(hplain:(backTo cpos (starEach [] X.env)).any (·.1)=false:=by rfl) :
  QE X (.Call (.Attribute o "append" apos) [e] [] cpos) (nApp to ta):=
 (Uf PySem.F.plainAttrs_list PySem.F.slot_list_append PySem.F.type_list_append Ge ho (Ic ha qa_nil hs) hbase hfew hline hs hplain).imp fun σ H Q zz=>by
 obtain⟨σD,G,Q',rs,rg,h,cl⟩:=zz;refine⟨σD,G,_,rs,rg,h,fun d G1 zz H1 x1 rg1 v dv=>?_⟩;obtain⟨p,ep,⟨ds,eg⟩,h1⟩:=zz;subst ep;cases dv;obtain⟨xs,ex,r⟩:=rg1 p _ eg;refine⟨.inl ⟨rfl,xs,.inl (.inl ex)⟩,σD,G1,fun ds' G2=>∃y,ds'=[y]∧∃ds,G2 p=some (.lst ds)∧ds.length<sizeLine∧Q' .non (Ab G2 p (.lst (ds++[y]))),rs.ext x1,rg1,?_,?_⟩
 ·show ta σD G1 fun x G1=>E5 σD G1 fun xs G2=>_;exact cast (by congr 1;funext y G2;simp[E5]) h1
 ·rintro ds' G2 ⟨y,rfl,ds2,eg2,hl,q⟩ H2 x2 rg2 vs dvs;obtain⟨v,rfl,dv⟩:=dvs.one;obtain⟨xs2,ex2,r2⟩:=rg2 p _ eg2;exact⟨p,xs2,v,rfl,rfl,ex2,by rw[←r2.length];exact hl,cl _ _ q _ ((x1.trans x2).trans (Ef ex2)) (rg2.lstw ex2 (r2.append (.cons dv .nil))) _ .non⟩
end
theorem Bn{n:Nat}{g:DTG}{tb:DTS}{D:DEnds}{σ:DSt}{G:Gp}(P:Nat→DSt→Gp→Prop)(h0:P 0 σ G)(hs:∀i σ G,i<n→P i σ G→g (.int (i:Nat)) σ G fun σ2 G2=>tb { D with nx:=Fs (P (i+1)),ct:=Fs (P (i+1)),bk:=D.nx } σ2 G2)(hd:∀σ G,P n σ G→D.nx σ G):J4 (J3 n) (fun _=>True) g tb D σ G:=by
 refine⟨P,h0,fun _ _ _ _ _=>trivial,fun i x σ G hx p=>?_,fun σ G p=>hd σ G (by rw[B5] at p;exact p)⟩
 have hi:i<n:=by
  have:=(List.getElem?_eq_some_iff.mp hx).1
  rw[B5] at this;exact this
 rw[Jd hi] at hx;cases hx;exact hs i σ G hi p
theorem Ys{X:Cx}{x:Str}{i:Int}{pos:Pos}(hm:∃t,X.mg x=some (.int i t))(hg:Gl X x:=by rfl)(hd:(x == ("__debug__" : Str))=false:=by decide):QE X (.Name x pos) (nC (.int i)):=
 let ⟨_,h⟩:=hm;Ach h hg hd
theorem it0{P:Prop}[Decidable P]{A B:Prop}(h:P)(a:A):if P then A else B:=by rw[if_pos h];exact a
theorem it1{P:Prop}[Decidable P]{A B:Prop}(h:¬P)(b:B):if P then A else B:=by rw[if_neg h];exact b
theorem exI{p:Int→Prop}{j:Int}:(∃i,D.int j=D.int i∧p i)↔p j:=⟨fun⟨i,e,h⟩=>by cases e;exact h,fun h=>⟨j,rfl,h⟩⟩
theorem exB{p:Bool→Prop}{j:Bool}:(∃i,D.bl j=D.bl i∧p i)↔p j:=⟨fun⟨i,e,h⟩=>by cases e;exact h,fun h=>⟨j,rfl,h⟩⟩
theorem exR{p:Addr→Prop}{j:Addr}:(∃i,D.ref j=D.ref i∧p i)↔p j:=⟨fun⟨i,e,h⟩=>by cases e;exact h,fun h=>⟨j,rfl,h⟩⟩
theorem exT{p:List D→Prop}{j:List D}:(∃i,D.tup j=D.tup i∧p i)↔p j:=⟨fun⟨i,e,h⟩=>by cases e;exact h,fun h=>⟨j,rfl,h⟩⟩
theorem exS{α:Type}{p:α→Prop}{j:α}:(∃i,some j=some i∧p i)↔p j:=⟨fun⟨i,e,h⟩=>by cases e;exact h,fun h=>⟨j,rfl,h⟩⟩
theorem exSS{α:Type}{p:α→Prop}{j:α}:(∃i,some (some j)=some (some i)∧p i)↔p j:=⟨fun⟨i,e,h⟩=>by cases e;exact h,fun h=>⟨j,rfl,h⟩⟩
theorem ex1{p:D→Prop}{j:D}:(∃i,[j]=[i]∧p i)↔p j:=⟨fun⟨i,e,h⟩=>by cases e;exact h,fun h=>⟨j,rfl,h⟩⟩
theorem ex1I{p:Int→Prop}{j:Int}:(∃i,[D.int j]=[D.int i]∧p i)↔p j:=⟨fun⟨i,e,h⟩=>by cases e;exact h,fun h=>⟨j,rfl,h⟩⟩
theorem ex2{p:D→D→Prop}{j k:D}:(∃x y,[j,k]=[x,y]∧p x y)↔p j k:=⟨fun⟨_,_,e,h⟩=>by cases e;exact h,fun h=>⟨j,k,rfl,h⟩⟩
theorem ex2I{p:Int→Int→Prop}{j k:Int}:(∃x y,[D.int j,D.int k]=[D.int x,D.int y]∧p x y)↔p j k:=⟨fun⟨_,_,e,h⟩=>by cases e;exact h,fun h=>⟨j,k,rfl,h⟩⟩
theorem Gf{ds:List D}{same:Gp→Prop}{g:DTG}{tb:DTS}{D:DEnds}{σ:DSt}{G:Gp}(P:Nat→DSt→Gp→Prop)(h0:P 0 σ G)(hk:∀i σ G,i≤ds.length→P i σ G→same G)(hs:∀i x σ G,ds[i]? = some x→P i σ G→g x σ G fun σ2 G2=>tb { D with nx:=Fs (P (i+1)),ct:=Fs (P (i+1)),bk:=D.nx } σ2 G2)(hd:∀σ G,P ds.length σ G→D.nx σ G):J4 ds same g tb D σ G:=⟨P,h0,hk,hs,hd⟩
theorem exCons{p:D→List D→Prop}{j:D}{r:List D}:(∃x y,j::r=x::y∧p x y)↔p j r:=⟨fun⟨_,_,e,h⟩=>by cases e;exact h,fun h=>⟨j,r,rfl,h⟩⟩
theorem R7{α:Type}{x:α}{r:List α}:atI (x::r) 0=some x:=C1 (j:=0) rfl
theorem atI1{α:Type}{x y:α}{r:List α}:atI (x::y::r) 1=some y:=C1 (j:=1) rfl
theorem Nz{G:Gp}{ds:List D}{i:Int}:Dv G (.tup ds) i=atI ds i:=rfl
theorem Tc{G:Gp}{ns:List Int}{i:Int}:Dv G (.lint ns) i=atI (ns.map D.int) i:=rfl
theorem Ba{G:Gp}{a:Addr}{ds:List D}{i:Int}(h:G a=some (.lst ds)):Dv G (.ref a) i=atI ds i:=by simp only[Dv,h]
theorem Ro{G:Gp}{ds:List D}:Hl G (.tup ds)=some ds.length:=rfl
theorem Nr{G:Gp}{ns:List Int}:Hl G (.lint ns)=some ns.length:=rfl
theorem Ij{G:Gp}{a:Addr}{ds:List D}(h:G a=some (.lst ds)):Hl G (.ref a)=some ds.length:=by simp only[Hl,h]
theorem Av{G:Gp}{a:Addr}{ds:List D}(h:G a=some (.lst ds)):Am G (.ref a)=some ds:=by simp only[Am,h]
theorem Ny{G:Gp}{ds:List D}:Am G (.tup ds)=some ds:=rfl
theorem ix0{n:Nat}:ixN (n+1) 0=some 0:=by unfold ixN;rw[if_pos (by omega),if_pos (by omega)];rfl
def nIfM(c:DTT)(t u:DTS):DTS:=fun D σ G=>∃M:DSt→Gp→Prop,(c σ G fun b G1=>if b=true then t { D with nx:=Fs M } σ G1 else u { D with nx:=Fs M } σ G1)∧∀σ' G',M σ' G'→D.nx σ' G'
theorem Ab6{X:Cx}{c:Expr}{body orelse:List Stmt}{pos:Pos}{tc:DTT}{t u:DTS}(hc:QT X c tc)(ha:QSs X body t)(hb:QSs X orelse u):QS X (.If c body orelse pos) (nIfM tc t u):=(Aao hc ha hb).imp fun E σ H zz=>by
 obtain⟨σD,G,D,rs,rg,⟨M,h,hM⟩,cl⟩:=zz;refine⟨σD,G,_,rs,rg,h,fun k G1 h1 H1 x1 rg1=>?_⟩;have cl':DEnds.Reach X.K H1 { D with nx:=Fs M } E:=⟨fun s2 G2 ⟨G3,sb,m⟩ H2 x2 rg2=>(cl.go x1).nx s2 G3 (hM s2 G3 m) H2 x2 (rg2.ext' sb),(cl.go x1).rt,(cl.go x1).bk,(cl.go x1).ct⟩;dsimp only at h1 ⊢;cases k with
 |true=>rw[if_pos rfl] at h1 ⊢;exact⟨σD,G1,_,rs.ext x1,rg1,h1,cl'⟩
 |false=>rw[if_neg Bool.false_ne_true] at h1 ⊢;exact⟨σD,G1,_,rs.ext x1,rg1,h1,cl'⟩
theorem Vm{α:Type}{xs:List α}{k:Nat}{x:α}(h:xs[k]? = some x):atI xs (k:Int)=some x:=C1 h
theorem szl{n:Nat}(h:n≤1000):n≤sizeLine:=Nat.le_of_lt (Kt h)
theorem sz2:2≤sizeLine:=szl (by decide)
def O7(T:List Str)(σ:St):St:=List.replicate T.length none++σ

def Iz(ifs:List Expr)(env:Env):Sem Bool:=forIn ifs true fun c r=>if r=true then do let ok ←isTrue c env (eval c env);pure (ForInStep.yield ok) else pure (ForInStep.yield r)
def PF(X:Cx)(ifs:List Expr)(t:TT):Prop:=
 ∀(pins:List (Addr×Obj)) (s:Shared) (σ:St) (H:Hp) (Q:Bool→Hp→Prop),Inv X pins σ H s→t σ H Q→wpAny (model X.prog X.w) X.A (Iz ifs X.env) (TP X pins σ Q) X.xe s
theorem Acw{X:Cx}:PF X [] (fun _ H Q=>Q true H):=fun pins s σ H Q I h=>by
 unfold Iz;rw[List.forIn_nil];exact wpAny_pure ⟨H,I,h⟩
theorem Acv{X:Cx}{c:Expr}{t:TT}(h:PT X c t):PF X [c] t:=fun pins s σ H Q I q=>by
 unfold Iz;rw[List.forIn_cons];refine wpAny_bind ?_;rw[if_pos rfl];refine wpAny_bind (thn (h pins s σ H Q I q) fun b s1 hb=>wpAny_pure ?_);show wpAny _ _ (forIn [] b _) _ _ s1;rw[List.forIn_nil];exact wpAny_pure hb

def Bk(cells:List (Str×Addr)):List (Str×NameKind)→List (Str×Addr)→List (Str×Addr)
 |[],cs=>cs
 |(n,k)::r,cs=>if (k == .free)=true then match cells.lookup n with
   |some c=>Bk cells r ((n,c)::cs)
   |none=>Bk cells r cs
  else Bk cells r cs
theorem Z8{env:Env}:∀(names:List (Str×NameKind)) (cs:List (Str×Addr)),(names.all fun y=>!(y.2 == .free)||(env.cells.lookup y.1).isSome)=true→
  (forIn names cs fun(x:Str×NameKind) (r:List (Str×Addr))=>(if (x.2 == NameKind.free)=true then do let __do_lift ←cellOf env x.1;pure (ForInStep.yield ((x.1,__do_lift)::r)) else pure (ForInStep.yield r):Sem (ForInStep (List (Str×Addr)))))=pure (Bk env.cells names cs):=by
 intro names
 induction names with
 |nil=>intro cs _;rw[List.forIn_nil];rfl
 |cons y r ih=>
  intro cs h;obtain⟨n,k⟩:=y;rw[List.all_cons,Bool.and_eq_true] at h;rw[List.forIn_cons]
  by_cases hk:(k == NameKind.free)=true
  ·have hs:(env.cells.lookup n).isSome=true:=by
    have h1:=h.1;simp only[hk,Bool.not_true,Bool.false_or] at h1;exact h1
   obtain⟨c,hc⟩:=Option.isSome_iff_exists.mp hs;simp only[hk,if_true,Bk,hc,cellOf];exact ih _ h.2
  ·simp only[hk,Bk];exact ih _ h.2
theorem Ei{cells:List (Str×Addr)}:∀(names:List (Str×NameKind)) (cs:List (Str×Addr)),(∀x c,cs.lookup x=some c→cells.lookup x=some c)→∀x c,(Bk cells names cs).lookup x=some c→cells.lookup x=some c
 |[],cs,h,x,c,e=>h x c e
 |(n,k)::r,cs,h,x,c,e=>by
  unfold Bk at e
  split at e
  ·split at e
   ·rename_i c' hc;refine Ei r _ (fun y d z=>?_) x c e
    by_cases hy:y=n
    ·subst hy;rw[List.lookup_cons_self] at z;cases z;exact hc
    ·rw[List.lookup_cons,beq_false_of_ne hy] at z;exact h y d z
   ·exact Ei r _ h x c e
  ·exact Ei r _ h x c e
theorem Gm{cells:List (Str×Addr)}:∀(names:List (Str×NameKind)) (cs:List (Str×Addr)) (x:Str),(names.all fun y=>!(y.2 == .free)||(cells.lookup y.1).isSome)=true→((x,NameKind.free)∈names∨∃c,cs.lookup x=some c)→∃c,(Bk cells names cs).lookup x=some c
 |[],cs,x,_,h=>h.elim (fun z=>nomatch z) id
 |(n,k)::r,cs,x,ha,h=>by
  rw[List.all_cons,Bool.and_eq_true] at ha;unfold Bk
  by_cases hk:(k == NameKind.free)=true
  ·have hs:(cells.lookup n).isSome=true:=by
    have h1:=ha.1;simp only[hk,Bool.not_true,Bool.false_or] at h1;exact h1
   obtain⟨c,hc⟩:=Option.isSome_iff_exists.mp hs;rw[if_pos hk,hc];refine Gm r _ x ha.2 ?_
   by_cases hx:x=n
   ·subst hx;exact .inr ⟨c,List.lookup_cons_self⟩
   ·rcases h with h|⟨d,h⟩
    ·rcases List.mem_cons.mp h with z|z
     ·cases z;exact absurd rfl hx
     ·exact .inl z
    ·exact .inr ⟨d,by rw[List.lookup_cons,beq_false_of_ne hx];exact h⟩
  ·rw[if_neg hk];refine Gm r _ x ha.2 (h.imp (fun z=>?_) id);rcases List.mem_cons.mp z with z|z
   ·cases z;exact absurd rfl hk
   ·exact z
def Fg(P:Gp→Prop)(G:Gp):Prop:=∃G',Sub G' G∧P G'
theorem Fg.of{P:Gp→Prop}{G:Gp}(h:P G):Fg P G:=⟨G,Sub.refl G,h⟩
def Us(n:Nat)(σ σ2:DSt):Prop:=∃pre,pre.length=n∧σ2=pre++σ
def He(n:Nat)(p:Addr)(ds:List D)(same:Gp→Prop)(g:DTG)(tf:DTT)(te:DTE)(σ:DSt)(G:Gp)(Q:DK):Prop:=∃P:Nat→List D→Gp→Prop,P 0 [] G∧(∀i ys G,i≤ds.length→P i ys G→same G∧G p=some (.lst ys))∧
 (∀i x ys G,ds[i]? = some x→P i ys G→g x (List.replicate n none++σ) G fun σ2 G2=>Us n σ σ2∧tf σ2 G2 fun b G3=>if b=true then te σ2 G3 fun y G4=>G4 p=some (.lst ys)∧ys.length<sizeLine∧Fg (P (i+1) (ys++[y])) (Ab G4 p (.lst (ys++[y]))) else Fg (P (i+1) ys) G3)∧
 ∀ys G,P ds.length ys G→Q (.ref p) G
theorem Ri{K:W.Frag}{H:Hp}{σD:DSt}{σ:St}(n:Nat)(r:RelS K H σD σ):RelS K H (List.replicate n none++σD) (List.replicate n none++σ):=by
 refine⟨by simp[r.1],fun i d e=>?_⟩
 by_cases hi:i<n
 ·rw[List.getElem?_append_left (by simpa using hi),List.getElem?_replicate,if_pos hi] at e
  cases e
 ·rw[List.getElem?_append_right (by simpa using hi)] at e ⊢
  simp only[List.length_replicate] at e ⊢;exact r.2 _ d e
section
variable{X:Cx}{elt iter:Expr}{x:Str}{px:Pos}{ifs:List Expr}{scope:Scope}{pos:Pos}{ti te:DTE}{tf:DTT}{T:List Str}
def QF(X:Cx)(ifs:List Expr)(t:DTT):Prop:=PF X ifs (Do X.K t)
def Aap:DTT:=fun _ G Q=>Q true G
theorem Pl:QF X [] Aap:=fun pins s σ H Q I ⟨σD,G,Q',rs,rg,h,cl⟩=>Acw pins s σ H Q I (cl _ G h H (Ext.refl H) rg)
theorem Aca{c:Expr}{t:DTT}(h:QT X c t):QF X [c] t:=Acv h
end
def A9(G:Gp):D→Option String
 |.non=>some "NoneType"
 |.bl _=>some "bool"
 |.int _=>some "int"
 |.str _=>some "str"
 |.tup _=>some "tuple"
 |.ref a=>match G a with
  |some (.lst _)=>some "list"
  |some (.dct _)=>some "dict"
  |some (.dkk _)=>some "dict"
  |_=>none
 |_=>none
theorem Abk{G:Gp}{i:List D}:A9 G (.tup i)=some "tuple":=rfl
def pyIs(t c:String):Bool:=t == c||(t == "bool" && c == "int")
def Aa1(t c:String):Option Bool:=if (Value.type t == Value.type c)=true then some true else if W.kitMeta c=true then (fastBuiltinMro t).map (·.contains (.type c)) else none
theorem Adt(K:W.Frag)(t c:String):W.kitOne K (.type t) (.type c)=Aa1 t c:=rfl
abbrev tNames:List String:=["NoneType", "bool", "int", "str", "tuple", "list", "dict"]
abbrev cNames:List String:=["int", "bool", "tuple", "list", "str", "dict"]
theorem Xc:(tNames.all fun t=>cNames.all fun c=>Aa1 t c == some (pyIs t c))=true:=by decide +kernel
theorem Jm{G:Gp}{d:D}{t:String}(h:A9 G d=some t):t∈tNames:=by
 cases d<;>simp only[A9] at h<;>first
  |(cases h;decide)
  |(split at h<;>first|(cases h;decide)|cases h)
  |cases h
theorem Yb{K:W.Frag}{H:Hp}{G:Gp}{d:D}{v:V}{t:String}(rg:RelG K H G)(h:A9 G d=some t)(dv:DV K H d v):TyOf K H v (.type t):=by
 cases dv with
 |non=>cases h;exact .non
 |bl b=>cases h;exact .bl b
 |int i=>cases h;exact .int i
 |str x=>cases h;exact .str x
 |tup e r=>cases h;exact .tup e
 |ty n=>cases h
 |lint e=>cases h
 |ref a=>
  simp only[A9] at h
  split at h
  ·rename_i ds q;cases h;obtain⟨xs,e,_⟩:=rg a _ q;exact .lst e
  ·rename_i ds q;cases h;obtain⟨xs,e,_⟩:=rg a _ q;exact .dT e
  ·rename_i ds q;cases h;obtain⟨xs,e,_⟩:=rg a _ q;exact .dK e
  ·cases h
theorem Aea:("int"∈cNames)=True:=by decide
theorem Z7:("bool"∈cNames)=True:=by decide
theorem Xj:("tuple"∈cNames)=True:=by decide
theorem Z6:("list"∈cNames)=True:=by decide
def Kn(G:Gp)(d:D):Prop:=∃t,A9 G d=some t
def KnT(G:Gp):Nat→D→Prop
 |0,d=>Kn G d
 |n+1,d=>Kn G d∧∀ds,d=.tup ds→∀x∈ds,KnT G n x
theorem KnT.kn{G:Gp}:∀{n:Nat} {d:D},KnT G n d→Kn G d
 |0,_,h=>h
 |_+1,_,h=>h.1
theorem Kn.new{G:Gp}{d:D}(h:Kn G d){p:Addr}{o:GO}(hp:G p=none):Kn (Ab G p o) d:=by
 obtain⟨t,h⟩:=h;refine⟨t,?_⟩;cases d<;>first|exact h|skip
 rename_i a;simp only[A9] at h ⊢
 by_cases e:a=p
 ·subst e;rw[hp] at h;cases h
 ·rw[Ad e];exact h
theorem KnT.new{G:Gp}{p:Addr}{o:GO}(hp:G p=none):∀{n:Nat} {d:D},KnT G n d→KnT (Ab G p o) n d
 |0,_,h=>Kn.new h hp
 |_+1,_,h=>⟨Kn.new h.1 hp,fun ds e x hx=>KnT.new hp (h.2 ds e x hx)⟩
theorem Es{G:Gp}{d:D}(h:A9 G d=some "tuple"):∃ds,d=.tup ds:=by
 cases d<;>simp only[A9] at h<;>first|exact⟨_,rfl⟩|(exact absurd (Option.some.inj h) (by decide))|(split at h<;>first|(exact absurd (Option.some.inj h) (by decide))|cases h)|cases h
section
variable{X:Cx}
theorem Xm:QC X (.builtin "isinstance") (fun ds G Q=>∃x c,ds=[x,.ty c]∧c∈cNames∧∃t,A9 G x=some t∧Q (.bl (pyIs t c)) G):=by
 rintro pins s σ H xs us Q I r ⟨ds,G,Q',dv,rg,⟨x,c,e,hc,t,ht,q⟩,cl⟩;subst e;obtain⟨v,w,rfl,d1,d2⟩:=dv.two;cases d2;obtain⟨u1,u2,rfl,r1,r2⟩:=Im r;cases r2;have hk:W.kitOne X.K (.type t) (.type c)=some (pyIs t c):=by
  rw[Adt];have h1:=List.all_eq_true.mp Xc t (Jm ht);have h2:=List.all_eq_true.mp h1 c hc;exact beq_iff_eq.mp h2
 refine Td I r1 (Yb rg ht d1) hk fun tk=>?_;exact⟨.bl (pyIs t c),H,I.tok _,rfl,cl _ G q H (Ext.refl H) rg _ (.bl _)⟩

theorem Tp(hc:X.calm=true):CallR X (.builtin "all") (fun xs H Q=>∃(a:Addr) (bs:List Bool),xs=[.ref a]∧SqL X.K H a (bs.map V.bl)∧Q (.bl (bs.all id)) H):=by
 intro pins s σ H xs us Q I r h;obtain⟨a,bs,rfl,hq,q⟩:=h;obtain⟨u,rfl,ru⟩:=Hc r;cases ru;obtain⟨its,rv,p,hz⟩:=I.list hq;refine call_all_walk ?_;refine wpAny_pyIter_list p.isList ?_;have hlt:a<s.heap.objs.size:=by obtain⟨_,_,e,_⟩:=p;exact Heap.lt_size e
 refine⟨s.heap.objs.size,_,_,_,_,_,fun i=>(bs[i]?).getD true,rfl,Walks.list (A:=X.A.in1) (I.ok.hd hc) _ _ (Nat.ne_of_lt hlt) its.toArray,⟨⟨_,Heap.get?_push_size _ rfl,rfl,rfl⟩,p.isList.push _⟩,?_,?_⟩
 ·intro i v s' Q' E' hP hQ;have hv:its[i]? = some v:=by simpa using hP
  have hb:∃b,bs[i]? = some b∧v=Value.bool b:=by
   have key:∀(bs:List Bool) (its:List Value),Vals (bs.map V.bl) its→∀(i:Nat) (v:Value),its[i]? = some v→∃b,bs[i]? = some b∧v=Value.bool b:=by
    intro bs
    induction bs with
    |nil=>intro its r i v e;cases r;simp at e
    |cons b bs ih=>
     intro its r i v e;rw[List.map_cons] at r;cases r with
     |cons r1 r2=>
      cases i with
      |zero=>simp at e;subst e;cases r1;exact⟨b,rfl,rfl⟩
      |succ i=>simpa using ih _ r2 i v (by simpa using e)
   exact key bs its rv i v hv
  obtain⟨b,eb,rfl⟩:=hb;refine wpAny_truthy_bool ?_
  have:(bs[i]?).getD true=b:=by rw[eb];rfl
  dsimp only at hQ;rw[this] at hQ;exact hQ
 ·intro h' tk hk;have hl:=rv.length;rw[List.length_map] at hl;have e:((List.range its.toArray.size).all fun i=>(bs[i]?).getD true)=bs.all id:=by
   rw[List.size_toArray,←hl,Bool.eq_iff_iff,List.all_eq_true,List.all_eq_true];constructor
   ·intro h b hb;obtain⟨i,hi,e⟩:=List.getElem_of_mem hb
    have:=h i (List.mem_range.mpr hi)
    rw[List.getElem?_eq_getElem hi,e] at this;exact this
   ·intro h i hi;have hi:=List.mem_range.mp hi;rw[List.getElem?_eq_getElem hi];exact h _ (List.getElem_mem hi)
  refine⟨.bl (bs.all id),H,I.kept (t':=tk) fun b o eb=>hk b o (fun z=>?_) (Heap.get?_push_of_some _ eb),by rw[e];rfl,q⟩
  have:b=s.heap.objs.size:=by simpa using z
  subst this;exact absurd (Heap.lt_size eb) (Nat.lt_irrefl _)
theorem Vk{K:W.Frag}{H:Hp}:∀{bs:List Bool} {vs:List V},DVs K H (bs.map D.bl) vs→vs=bs.map V.bl
 |[],_,r=>by cases r;rfl
 |b::bs,_,r=>by
  cases r with
  |cons h t=>cases h;rw[Vk t];rfl
theorem c_all(hc:X.calm=true):QC X (.builtin "all") (fun ds G Q=>∃a,ds=[.ref a]∧∃bs:List Bool,G a=some (.lst (bs.map D.bl))∧Q (.bl (bs.all id)) G):=(Tp hc).imp fun xs H Q zz=>by
 obtain⟨ds,G,Q',dv,rg,⟨a,e,bs,eg,q⟩,cl⟩:=zz;subst e;obtain⟨v,rfl,r⟩:=dv.one;cases r;obtain⟨ys,ey,ry⟩:=rg a _ eg
 have:=Vk ry
 subst this;exact⟨a,bs,rfl,.inl (.inl ey),cl _ G q H (Ext.refl H) rg _ (.bl _)⟩
theorem A8{n i0:Nat}{p:Addr}{ds:List D}{same:Gp→Prop}{tf:DTT}{te:DTE}{σ:DSt}{G:Gp}{Q:DK}(f:D→D)(c:D→Bool)(hz:ds.length<sizeLine)(hsm:∀ys,same (Ab G p (.lst ys)))(h0:i0<n)(hs:∀x ys,x∈ds→ys.length<sizeLine→∀(R1:D→Gp→Prop) (R2:Gp→Prop),(c x=true→R1 (f x) (Ab G p (.lst (ys++[f x]))))→(c x=false→R2 (Ab G p (.lst ys)))→
   tf ((List.replicate n none++σ).set i0 (some x)) (Ab G p (.lst ys)) fun b G3=>if b=true then te ((List.replicate n none++σ).set i0 (some x)) G3 fun y G4=>G4 p=some (.lst ys)∧ys.length<sizeLine∧Fg (R1 y) (Ab G4 p (.lst (ys++[y]))) else Fg R2 G3)(hq:Q (.ref p) (Ab G p (.lst ((ds.filter c).map f)))):He n p ds same (C5 i0) tf te σ (Ab G p (.lst [])) Q:=by
 refine⟨fun i ys G'=>ys=((ds.take i).filter c).map f∧Ab G p (.lst ys)=G',⟨rfl,rfl⟩,?_,?_,?_⟩
 ·rintro i ys _ _ ⟨_,rfl⟩;exact⟨hsm ys,Aa⟩
 ·rintro i x ys _ hx ⟨e,rfl⟩;have hi:=(List.getElem?_eq_some_iff.mp hx).1;have hl:ys.length<sizeLine:=by
   rw[e,List.length_map];refine Nat.lt_of_le_of_lt (List.length_filter_le _ _) ?_;rw[List.length_take];omega
  have tk:ds.take (i+1)=ds.take i++[x]:=by rw[List.take_add_one,hx];rfl
  refine⟨⟨(List.replicate n none).set i0 (some x),by simp,by rw[List.set_append_left _ _ (by simpa using h0)]⟩,?_⟩
  refine hs x ys (List.mem_of_getElem? hx) hl (fun y G'=>ys++[y]=((ds.take (i+1)).filter c).map f∧Ab G p (.lst (ys++[y]))=G') (fun G'=>ys=((ds.take (i+1)).filter c).map f∧Ab G p (.lst ys)=G') (fun hc=>⟨?_,rfl⟩) (fun hc=>⟨?_,rfl⟩)
  ·rw[tk,List.filter_append,List.map_append,←e];simp[hc]
  ·rw[tk,List.filter_append,List.map_append,←e];simp[hc]
 ·rintro ys _ ⟨e,rfl⟩;rw[List.take_length] at e;rw[e];exact hq
end
mutual
inductive RepD (G:Gp):D→PyData→Prop where
 |non:RepD G .non .none
 |bl (b:Bool):RepD G (.bl b) (.bool b)
 |int (i:Int):RepD G (.int i) (.int i)
 |str (x:Str):RepD G (.str x) (.str x)
 |tup {ds:List D} {ps:List PyData} (r:RepDs G ds ps):RepD G (.tup ds) (.tuple ps)
 |lst {a:Addr} {ds:List D} {ps:List PyData} (e:G a=some (.lst ds)) (r:RepDs G ds ps):RepD G (.ref a) (.list ps)
 |dct0 {a:Addr} (e:G a=some (.dkk [])):RepD G (.ref a) (.dict [])
inductive RepDs (G:Gp):List D→List PyData→Prop where
 |nil:RepDs G [] []
 |cons {d:D} {p:PyData} {ds:List D} {ps:List PyData} (h:RepD G d p) (t:RepDs G ds ps):RepDs G (d::ds) (p::ps)
end
section
variable{P:Program}{w:World}{K:W.Frag}{H:Hp}{G:Gp}{h:Heap}
mutual
theorem Cu(rg:RelG K H G)(ok:HOk P w H h):∀{d:D} {p:PyData} {v:V} {u:Value},RepD G d p→DV K H d v→RelV v u→∃as,Reads h u p as∧∀b∈as,H b≠none
 |_,_,_,_,.non,dv,r=>by cases dv;cases r;exact⟨_,.none,by simp⟩
 |_,_,_,_,.bl b,dv,r=>by cases dv;cases r;exact⟨_,.bool b,by simp⟩
 |_,_,_,_,.int i,dv,r=>by cases dv;obtain⟨t,rfl⟩:=r;exact⟨_,.int i t,by simp⟩
 |_,_,_,_,.str x,dv,r=>by cases dv;obtain⟨t,rfl⟩:=r;exact⟨_,.str x t,by simp⟩
 |_,_,_,_,.tup rs,dv,r=>by
  cases dv with
  |@tup _ a xs e ds=>
   cases r;obtain⟨_,its,rv,o,h1,h2,n,h3⟩:=(show ObjOk P w H h a (.tup xs) from ok a _ e);obtain⟨as,ra,hb⟩:=D7 rg ok rs ds rv;exact⟨_,.tuple h1 h2 h3 (by simpa using ra),hb⟩
 |_,_,_,_,@RepD.lst _ a _ _ e rs,dv,r=>by
  cases dv with
  |ref=>
   cases r;obtain⟨xs,ex,ds⟩:=rg _ _ e;obtain⟨_,its,n,rv,h1⟩:=(show ObjOk P w H h a (.lst xs) from ok a _ ex);obtain⟨as,ra,hb⟩:=D7 rg ok rs ds rv;refine⟨_,.list h1 rfl rfl (by simpa using ra),fun b hm=>?_⟩
   rcases List.mem_cons.mp hm with z|z
   ·subst z;rw[ex];simp
   ·exact hb b z
 |_,_,_,_,@RepD.dct0 _ a e,dv,r=>by
  cases dv with
  |ref=>
   cases r;obtain⟨ks,ex,ds⟩:=rg _ _ e;cases ds;obtain⟨_,_,vs,rv,o,es,ep,h1,h2,h3,_,h4,_⟩:=(show ObjOk P w H h a (.dK []) from ok a _ ex);cases rv;have he:es.toList=[]:=by
    revert h4
    cases es.toList with
    |nil=>intro _;rfl
    |cons x r=>intro h4;exact absurd h4 (by intro z;cases z)
   refine⟨_,.dict (kvs:=[]) h1 h2.1 h3 (by rw[he];exact .nil) (by rw[he];exact .nil),fun b hm=>?_⟩
   have:b=a:=by simpa using hm
   subst this;rw[ex];simp
theorem D7(rg:RelG K H G)(ok:HOk P w H h):∀{ds:List D} {ps:List PyData} {vs:List V} {us:List Value},RepDs G ds ps→DVs K H ds vs→Vals vs us→∃as,ReadsAll h us ps as∧∀b∈as,H b≠none
 |_,_,_,_,.nil,dv,r=>by cases dv;cases r;exact⟨_,.nil,by simp⟩
 |_,_,_,_,.cons hd tl,dv,r=>by
  cases dv with
  |cons d1 d2=>
   cases r with
   |cons r1 r2=>
    obtain⟨as,a,ha⟩:=Cu rg ok hd d1 r1;obtain⟨bs,b,hb⟩:=D7 rg ok tl d2 r2;exact⟨_,.cons a b,fun x hx=>(List.mem_append.mp hx).elim (ha x) (hb x)⟩
end
end
theorem Lz{X:Cx}{pins:List (Addr×Obj)}{σ:St}{H:Hp}{s:Shared}(I:Inv X pins σ H s):H sysModules=none:=by
 obtain⟨mm,o,es,ep,e,_⟩:=I.mod.sm;exact(I.bs _ _ e).2
section
variable{X:Cx}{k:Nat}
def dNeD:DR2:=fun x y G Q=>∃p q,RepD G x p∧RepD G y q∧p.canLay0=true∧q.canLay0=true∧min p.depth q.depth≤100∧Q (.bl (!PyData.eqv p q)) G
theorem Fd{A:Around}(hr:Room k A){n:Nat}(h:n≤100):A.units+n<cLine:=by have:=hr.un;omega
theorem o_neD(hr:Room k X.A):QOp X (compareOp .NotEq) dNeD:=by
 rintro pins s σ H x y v u Q I rx ry ⟨dx,dy,G,Q',hx,hy,rg,⟨p,q,rp,rq,c1,c2,hd,h⟩,cl⟩;obtain⟨as,ra,hfa⟩:=Cu rg I.hok rp hx rx;obtain⟨bs,rb,hfb⟩:=Cu rg I.hok rq hy ry;exact SeqAt.compareNe_reads ra rb c1 c2 (Fd hr hd) ⟨.bl _,H,I,rfl,cl _ G h H (Ext.refl H) rg _ (.bl _)⟩
def dInD(neg:Bool):DR2:=fun x y G Q=>∃p ps,RepD G x p∧(RepD G y (.list ps)∨RepD G y (.tuple ps))∧p.canLay0=true∧PyData.canLayAll0 ps=true∧1+min (PyData.depthAll ps) p.depth≤100∧Q (.bl (if neg then !(ps.any fun y=>PyData.eqv y p) else ps.any fun y=>PyData.eqv y p)) G
theorem o_inD(hr:Room k X.A):QOp X (compareOp .In) (dInD false):=by
 rintro pins s σ H x y v u Q I rx ry ⟨dx,dy,G,Q',hx,hy,rg,⟨p,ps,rp,rq,c1,c2,hd,h⟩,cl⟩;obtain⟨as,ra,hfa⟩:=Cu rg I.hok rp hx rx;have fin:EP X pins σ Q (.bool (ps.any fun y=>PyData.eqv y p)) s:=⟨.bl _,H,I,rfl,cl _ G h H (Ext.refl H) rg _ (.bl _)⟩;rcases rq with rq|rq
 ·obtain⟨bs,rb,hfb⟩:=Cu rg I.hok rq hy ry;exact SeqAt.in_list_reads rb ra c2 c1 (by have:=Fd hr hd;omega) fin
 ·obtain⟨bs,rb,hfb⟩:=Cu rg I.hok rq hy ry;exact SeqAt.in_tuple_reads rb ra c2 c1 (by have:=Fd hr hd;omega) fin
theorem c_repr(hr:Room k X.A):QC X (.builtin "repr") (fun ds G Q=>∃d,ds=[d]∧∃p,RepD G d p∧p.showable=true∧p.shown.length≤sizeLine∧p.depth≤99∧Q (.str p.shown) G):=by
 rintro pins s σ H xs us Q I r ⟨ds,G,Q',dv,rg,⟨d,e,p,rp,h1,h2,h3,q⟩,cl⟩;subst e;obtain⟨v,rfl,d1⟩:=dv.one;obtain⟨u,rfl,r1⟩:=Hc r;have fin:∀(h':Heap) (tk:Nat) (t:Tok),(∀b o,s.heap.get? b=some o→h'.get? b=some o)→EP X pins σ Q (.str p.shown t) { s with heap:=h',toks:=tk }:=fun h' tk t kp=>
  ⟨.str p.shown,H,I.kept kp,⟨t,rfl⟩,cl _ G q H (Ext.refl H) rg _ (.str _)⟩
 obtain⟨as,ra,hfa⟩:=Cu rg I.hok rp d1 r1;cases ra with
 |none=>exact PySem.P.repr_of_none (fin s.heap _ _ fun _ _ e=>e)
 |bool b=>exact PySem.P.repr_of_bool (fin s.heap _ _ fun _ _ e=>e)
 |int i t=>exact PySem.P.repr_of_int (of_decide_eq_true h1) (fin s.heap _ _ fun _ _ e=>e)
 |str x t=>exact PySem.P.repr_of_str (fin s.heap _ _ fun _ _ e=>e) h2
 |list a1 a2 a3 a4=>exact repr_of_reads' (.list a1 a2 a3 a4) h1 (fun _ z=>hfa _ z (Lz I)) hr.gd (by have:=hr.un;omega) (fun _ _ e=>e) (fun h' u tk kp=>fin h' tk u kp) h2
 |tuple a1 a2 a3 a4=>exact repr_of_reads' (.tuple a1 a2 a3 a4) h1 (fun _ z=>hfa _ z (Lz I)) hr.gd (by have:=hr.un;omega) (fun _ _ e=>e) (fun h' u tk kp=>fin h' tk u kp) h2
 |dict a1 a2 a3 a4 a5=>exact repr_of_reads' (.dict a1 a2 a3 a4 a5) h1 (fun _ z=>hfa _ z (Lz I)) hr.gd (by have:=hr.un;omega) (fun _ _ e=>e) (fun h' u tk kp=>fin h' tk u kp) h2

end
section
variable{prog:Program}{w:World}{A:Around}{E:Value→Shared→Prop}{s:Shared}
theorem F0{t sl:Addr}{items:Array Value}{vl vu:Value}{lo hi:Option Int}{Q:Value→Shared→Prop}(ht:IsTup s.heap t items)(hs:s.heap.IsSliceOf sl vl vu .none)(pl:IsPart vl lo)(pu:IsPart vu hi)(hw:HT.sIx items.size 0 lo=0∧HT.sIx items.size items.size hi=items.size)(h:Q (.ref t) s):wpAny (model prog w) A (getItem (.ref t) (.ref sl)) Q E s:=by
 obtain⟨os,hos,hcs,hds⟩:=id hs;have hTs:s.TypeIs (.ref sl) "slice":=⟨os,hos,hcs⟩;unfold getItem
 try with_reducible refine wpAny_holding ?_
 first|refine wpAny_bind (wpAny_pure ?_)|skip
 refine wpAny_bind (wpAny_sequenceKey ht.typeIs (by decide) ?_)
 refine wpAny_bind (wpAny_callSpecial?_slot (name:=Str.ofString "__getitem__") ht.typeIs PyProof.Rows.slot_tuple_getitem
  (wpAny_call_entry PyProof.Rows.slot_tuple_getitem ht.typeIs entry_tuple_getitem ?_ (args_tuple_getitem _ _)))
 show wpAny _ _ (Builtin.Tuple.tupleItemsOf (.ref t) >>= _) _ _ s;refine wpAny_bind (tupleItemsOf_ ht ?_);refine wpAny_bind (wpAny_typeOf hTs ?_);rw[if_pos (by decide)]
 refine wpAny_bind (HT.sliceApplied_gen hs pl pu ?_);show wpAny _ _ (if (((HT.sIx items.size 0 lo:Nat):Int) == 0&&(1:Int) == 1&&(HT.sIx items.size items.size hi-HT.sIx items.size 0 lo) == items.size)=true then _ else _) _ _ s;rw[if_pos (by rw[hw.1,hw.2];simp)]
 refine wpAny_bind ?_;unfold Builtin.Tuple.tupleIsExact;refine wpAny_bind (wpAny_typeOf ht.typeIs (wpAny_pure ?_));rw[if_pos (by decide)]
 refine wpAny_bind (wpAny_rule ?_);exact wpAny_pure ⟨_,rfl,wpAny_pure h⟩
end
section
variable{X:Cx}{a b c e:Expr}{ta tb tc te:DTE}{pos p2:Pos}{lo hi:Option Expr}
def C4(xs:List D)(lo hi:Option Int):List D:=(xs.drop (HT.sIx xs.length 0 lo)).take (HT.sIx xs.length xs.length hi-HT.sIx xs.length 0 lo)
theorem Vi{K:W.Frag}{H:Hp}{ds:List D}{vs:List V}(r:DVs K H ds vs)(lo hi:Option Int):DVs K H (C4 ds lo hi) (M3 vs lo hi):=by
 unfold C4 M3;rw[r.length];exact(r.drop _).take _
theorem Ti{ds:List D}{lo hi:Option Int}(h:HT.sIx ds.length 0 lo=0∧HT.sIx ds.length ds.length hi=ds.length):C4 ds lo hi=ds:=by
 unfold C4;rw[h.1,h.2];simp
abbrev DTO:=DSt→Gp→(Option Int→Gp→Prop)→Prop
def liftO(K:W.Frag)(t:DTO):TO:=fun σ H Q=>∃σD G Q',RelS K H σD σ∧RelG K H G∧t σD G Q'∧∀o G',Q' o G'→Fwd K H G' fun H'=>Q o H'
def QO(X:Cx)(e:Option Expr)(t:DTO):Prop:=PO X e (liftO X.K t)
def Ig:DTO:=fun _ G Q=>Q none G
def Qz(t:DTE):DTO:=fun σ G Q=>t σ G fun x G1=>∃i,x=.int i∧Q (some i) G1
theorem _root_.L2.PO.imp{X:Cx}{e:Option Expr}{t t':TO}(h:PO X e t)(f:∀σ H Q,t' σ H Q→t σ H Q):PO X e t':=fun pins s σ H Q I q=>h pins s σ H Q I (f σ H Q q)
theorem qo_none:QO X none Ig:=po_none.imp fun σ H Q ⟨σD,G,Q',rs,rg,h,cl⟩=>cl _ G h H (Ext.refl H) rg
theorem qo_some(h:QE X e te):QO X (some e) (Qz te):=(Yz h).imp fun σ H Q zz=>by
 obtain⟨σD,G,Q',rs,rg,h,cl⟩:=zz;refine⟨σD,G,_,rs,rg,h,fun d G1 zz H1 x1 rg1 v dv=>?_⟩;obtain⟨i,ei,h1⟩:=zz;subst ei;cases dv;exact⟨i,rfl,cl _ G1 h1 H1 x1 rg1⟩
def Ll(G:Gp)(x:D)(lo hi:Option Int)(Q:DK):Prop:=match x with
 |.tup ds=>Q (.tup (C4 ds lo hi)) G
 |.ref a=>match G a with
  |some (.lst ds)=>∀p,G p=none→Q (.ref p) (Ab G p (.lst (C4 ds lo hi)))
  |_=>False
 |_=>False
def rSl(K:W.Frag):V→Option Int→Option Int→Hp→VK→Prop:=fun x lo hi H Q=>∃d G Q',DV K H d x∧RelG K H G∧Ll G d lo hi Q'∧∀d G',Q' d G'→Fwd K H G' fun H'=>∀v,DV K H' d v→Q v H'
theorem Abu:SlR X (rSl X.K):=by
 rintro pins s σ H x v vl vu lo hi sl Q I rx hs pl pu ⟨d,G,Q',dv,rg,h,cl⟩;cases dv with
 |@tup ds a xs e r=>
  have h:Q' (.tup (C4 ds lo hi)) G:=h
  by_cases hw:HT.sIx xs.length 0 lo=0∧HT.sIx xs.length xs.length hi=xs.length
  ·cases rx;obtain⟨its,rv,ht,hz⟩:=I.tuple (.inl (.inl e));have hlen:its.toArray.size=xs.length:=by rw[List.size_toArray];exact rv.length.symm
   refine⟨"tuple",_,PyProof.Rows.slot_tuple_getitem.lookup,ht.typeIs,F0 ht hs pl pu (by rw[hlen];exact hw) ⟨.ref a,H,I,rfl,?_⟩⟩
   rw[Ti (by rw[r.length];exact hw)] at h
   exact cl _ G h H (Ext.refl H) rg _ (.tup e r)
  ·exact Abt pins s σ H _ v vl vu lo hi sl Q I rx hs pl pu ⟨a,xs,rfl,.inl (.inl e),hw,fun p hp=>cl _ G h _ (Ext.fresh hp) (rg.tup hp) _ (.tup Ae ((Vi r lo hi).ext (Ext.fresh hp)))⟩
 |ref a=>
  simp only[Ll] at h
  split at h
  ·rename_i ds g;obtain⟨xs,e,r⟩:=rg a _ g;exact Yh pins s σ H _ v vl vu lo hi sl Q I rx hs pl pu ⟨a,xs,rfl,.inl (.inl e),fun p hp=>cl _ _ (h p (rg.free hp)) _ (Ext.fresh hp) (rg.lst hp (Vi r lo hi)) _ (.ref p)⟩
  ·exact h.elim
 |_=>exact h.elim
def nSl(te:DTE)(tl th:DTO):DTE:=fun σ G Q=>te σ G fun x G1=>tl σ G1 fun l G2=>th σ G2 fun u G3=>Ll G3 x l u Q
theorem q_slice{tl th:DTO}(he:QE X e te)(hl:QO X lo tl)(hu:QO X hi th):QE X (.Subscript e (.Slice lo hi none p2) pos) (nSl te tl th):=(Wg Abu he hl hu).imp fun σ H Q zz=>by
 obtain⟨σD,G,Q',rs,rg,h,cl⟩:=zz;refine⟨σD,G,_,rs,rg,h,fun x G1 h1 H1 x1 rg1 v1 d1=>?_⟩;refine⟨σD,G1,_,rs.ext x1,rg1,h1,fun l G2 h2 H2 x2 rg2=>?_⟩;refine⟨σD,G2,_,rs.ext (x1.trans x2),rg2,h2,fun u G3 h3 H3 x3 rg3=>?_⟩;exact⟨x,G3,Q',d1.ext (x2.trans x3),rg3,h3,fun d G' q=>(cl d G' q).go (x1.trans (x2.trans x3))⟩

theorem Xk{prog:Program}{w:World}{A:Around}{E:Value→Shared→Prop}{s:Shared}{t b:Addr}{ws:List Value}{Q:Value→Shared→Prop}(ht:IsTup s.heap t #[])(hb:IsTup s.heap b ws.toArray)(h1:Q (.ref b) s) :
  wpAny (model prog w) A (binaryOp .Add (.ref t) (.ref b)) Q E s:=by
 obtain⟨⟨cls,dd,data,sl⟩,ho,hc,n,hd⟩:=id ht;obtain⟨⟨cls2,dd2,data2,sl2⟩,ho2,hc2,n2,hd2⟩:=id hb;simp only at hc hd hc2 hd2;subst hc hd hc2 hd2;exact concat_meets ⟨_,ho,rfl⟩ ⟨_,ho2,rfl⟩ noFill_tuple_add seq_tuple_add PySem.F.slot_tuple_add PySem.F.entry_tuple_add (PySem.F.args_tuple_add_2 _ _)
   (tuple_addW0 t b #[] ws.toArray n n2 dd dd2 sl sl2 rfl) ⟨ho,ho2,h1⟩
def R8:DR2:=fun x y G Q=>match x,y with
 |.int i,.int j=>Q (.int (i+j)) G
 |.tup xs,.tup ys=>xs.length+ys.length≤sizeLine∧Q (.tup (xs++ys)) G
 |.ref a,.ref b=>match G a,G b with
  |some (.lst xs),some (.lst ys)=>xs.length+ys.length≤sizeLine∧∀p,G p=none→Q (.ref p) (Ab G p (.lst (xs++ys)))
  |_,_=>False
 |_,_=>False
theorem o_addD:QOp X (binaryOp .Add) R8:=by
 rintro pins s σ H x y v u Q I rx ry ⟨dx,dy,G,Q',hx,hy,rg,h,cl⟩;cases hx with
 |int i=>
  cases hy with
  |int j=>exact Adb pins s σ H _ _ v u Q I rx ry ⟨i,j,rfl,rfl,cl _ G h H (Ext.refl H) rg _ (.int _)⟩
  |_=>exact h.elim
 |@tup xs a vs ea ra=>
  cases hy with
  |@tup ys b ws eb rb=>
   obtain⟨hl,h⟩:=h
   by_cases hne:vs=[]
   ·subst hne;cases ra;cases rx;cases ry;obtain⟨its,r1,p1,_⟩:=I.tuple (.inl (.inl ea));obtain⟨its2,r2,p2,_⟩:=I.tuple (.inl (.inl eb));cases r1;exact Xk p1 p2 ⟨.ref b,H,I,rfl,cl _ G h H (Ext.refl H) rg _ (.tup eb rb)⟩
   ·refine Y9 pins s σ H _ _ v u Q I rx ry ⟨a,b,vs,ws,rfl,rfl,.inl (.inl ea),.inl (.inl eb),hne,by rw[←ra.length,←rb.length];exact hl,?_,fun _ p hp=>cl _ G h _ (Ext.fresh hp) (rg.tup hp) _ (.tup Ae ((ra.append rb).ext (Ext.fresh hp)))⟩
    intro z;subst z;cases rb;rw[List.append_nil] at h;exact cl _ G h H (Ext.refl H) rg _ (.tup ea ra)
  |_=>exact h.elim
 |ref a=>
  cases hy with
  |ref b=>
   simp only[R8] at h
   split at h
   ·rename_i xs ys ga gb;obtain⟨hl,h⟩:=h;obtain⟨vs,ea,ra⟩:=rg a _ ga;obtain⟨ws,eb,rb⟩:=rg b _ gb;exact Ada pins s σ H _ _ v u Q I rx ry ⟨a,b,vs,ws,rfl,rfl,ea,eb,by rw[←ra.length,←rb.length];exact hl,fun p hp=>cl _ _ (h p (rg.free hp)) _ (Ext.fresh hp) (rg.lst hp (ra.append rb)) _ (.ref p)⟩
   ·exact h.elim
  |_=>exact h.elim
 |_=>exact h.elim
theorem Dg{i j:Int}{G:Gp}{Q:DK}:R8 (.int i) (.int j) G Q=Q (.int (i+j)) G:=rfl
theorem Pt{i j:List D}{G:Gp}{Q:DK}:R8 (.tup i) (.tup j) G Q=(i.length+j.length≤sizeLine∧Q (.tup (i++j)) G):=rfl
theorem Fb{G:Gp}{ds:List D}{lo hi:Option Int}{Q:DK}:Ll G (.tup ds) lo hi Q=Q (.tup (C4 ds lo hi)) G:=rfl
def Aay:DTE:=fun _ G Q=>∀p,G p=none→Q (.ref p) (Ab G p (.dkk []))
theorem RelG.new{K:W.Frag}{H:Hp}{G:Gp}(r:RelG K H G){p:Addr}{u:HO}{o:GO}(h:H p=none)(n:GOk K (upd H p u) p o):RelG K (upd H p u) (Ab G p o):=fun a q e=>by
 by_cases z:a=p
 ·subst z;rw[Aa] at e;cases e;exact n
 ·rw[Ad z] at e;exact(r a q e).upd (Ext.fresh h) (.inr z)
theorem U2:QE X (.Dict [] [] pos) Aay:=pe_dnewK.imp fun σ H Q ⟨σD,G,Q',rs,rg,h,cl⟩=>fun p hp=>
 cl _ _ (h p (rg.free hp)) _ (Ext.fresh hp) (rg.new hp ⟨[],Ae,.nil⟩) _ (.ref p)
end
structure Src where
 it:Addr
 l:Addr
 tp:Bool
def Src.At(h:Heap)(c:Src)(i:Nat):Prop:=if c.tp=true then h.IsTupleIter c.it c.l i else h.IsListIter c.it c.l i
def Src.Sq(h:Heap)(c:Src)(xs:Array Value):Prop:=if c.tp=true then h.IsTuple c.l xs else h.IsList c.l xs
theorem Src.At.keep{h h':Heap}{c:Src}{i:Nat}(x:c.At h i)(k:∀o,h.get? c.it=some o→h'.get? c.it=some o):c.At h' i:=by
 unfold Src.At at x ⊢
 split at x
 ·rename_i e;rw[if_pos e];exact x.at k
 ·rename_i e;rw[if_neg e];exact x.at k
theorem Src.Sq.keep{h h':Heap}{c:Src}{xs:Array Value}(x:c.Sq h xs)(k:∀o,h.get? c.l=some o→h'.get? c.l=some o):c.Sq h' xs:=by
 unfold Src.Sq at x ⊢
 split at x
 ·rename_i e;rw[if_pos e];exact x.at k
 ·rename_i e;rw[if_neg e];exact x.at k
theorem Src.At.obj{h:Heap}{c:Src}{i:Nat}(x:c.At h i):∃o,h.get? c.it=some o∧∀v,o.data≠.cell v:=by
 unfold Src.At at x
 split at x
 ·obtain⟨o,e,_,d⟩:=x;exact⟨o,e,fun v z=>by rw[d] at z;cases z⟩
 ·obtain⟨o,e,_,d⟩:=x;exact⟨o,e,fun v z=>by rw[d] at z;cases z⟩
section
variable{prog:Program}{w:World}{A:Around}{E:Value→Shared→Prop}{s:Shared}
theorem Jr{p q:Addr}{n:Nat}{vals:Array Value}{R:Value→Shared→Prop}(calm:A.handled=none)(at_:s.heap.IsTupleIter p q n)(tp:s.heap.IsTuple q vals)(more:∀v,vals[n]? = some v→∀g,g.IsTupleIter p q (n+1)→Heap.SameBut p s.heap g→R v { s with heap:=g })(last:vals[n]? = none→∀g x,Heap.ExtBut p s.heap g→(∃ob,g.get? x=some ob∧ob.cls=.type "StopIteration")→E (.ref x) { s with heap:=g }):wpAny (model prog w) A (Builtin.SmallTypes.nextOf (.ref p)) R E s:=by
 obtain⟨ob,eo,co,fo⟩:=id at_;obtain⟨ot,et,_,m,ft⟩:=tp;unfold Builtin.SmallTypes.nextOf;refine wpAny_bind (wpAny_callSpecial?_slot (name:=Str.ofString "__next__") at_.typeIs F.slot_tuple_iterator_next (wpAny_call_entry F.slot_tuple_iterator_next at_.typeIs F.entry_tuple_iterator_next ?_ (F.args_tuple_iterator_next_1 _)));show wpAny _ _ (field (.ref p) 0 >>= _) _ _ s;refine wpAny_bind (wpAny_field eo fo (x:=.ref q) rfl ?_);show wpAny _ _ (if (Value.ref q == Value.none)=true then _ else _) _ _ s;rw[if_neg (by intro z;cases z)]
 show wpAny _ _ (field (.ref p) 1 >>= _) _ _ s;refine wpAny_bind (wpAny_field eo fo (x:=.int n 0) rfl ?_);show wpAny _ _ (seqItems? (.ref q) >>= _) _ _ s;refine wpAny_bind (wpAny_seqItems et ft ?_);simp only[Int.toNat_natCast];cases hv:vals[n]? with
 |some v=>
  refine wpAny_bind (wpAny_setField eo fo (by simp) (wpAny_pure ⟨v,rfl,wpAny_pure (more v hv _ ⟨_,Heap.get?_update_self _ eo (Obj.isFreed_of_fields (Obj.data_mapFields fo _)),(Obj.cls_mapFields ..).trans co,?_⟩ (Heap.SameBut.update ..))⟩))
  rw[Obj.data_mapFields fo];simp[rawInt]
 |none=>
  refine wpAny_bind (wpAny_rule (wpAny_bind (wpAny_setField eo fo (by simp) (show wpAny _ _ (newExc (.type "StopIteration") [] >>= _) _ _ _ from wpAny_bind ?_))))
  simp only[newExc,newTuple];refine wpAny_bind (wpAny_newObj_type (wpAny_bind (m:=firstArgMember _ _) (wpAny_of_eq (a:=Value.none) (by first|rfl|(simp only[firstArgMember];rfl)) (wpAny_newObj_type ?_ (by size_fits)))) (by size_fits))
  simp only[raiseNew];refine wpAny_bind (wpAny_handled ?_);first|rw[show A.in1.handled=none from calm]|rw[calm]
  exact wpAny_bind (wpAny_pure (wpAny_throw (last hv _ _ (((Heap.SameBut.update ..).extBut.push _).push _) ⟨_,Heap.get?_push_size _ rfl,rfl⟩)))
theorem Vu{c:Src}{i:Nat}{xs:Array Value}{x:Value}{Q:Value→Shared→Prop}(hh:A.handled=none)(hit:c.At s.heap i)(ht:c.Sq s.heap xs)(hx:xs[i]? = some x)(hQ:∀h',c.At h' (i+1)→Heap.SameBut c.it s.heap h'→Q x { s with heap:=h' }):wpAny (model prog w) A (Builtin.SmallTypes.nextOf (.ref c.it)) Q E s:=by
 unfold Src.At at hit hQ;unfold Src.Sq at ht
 by_cases e:c.tp=true
 ·rw[if_pos e] at hit ht;exact Jr hh hit ht (fun v ev h' a b=>by rw[hx] at ev;cases ev;exact hQ h' (by rw[if_pos e];exact a) b) (fun z=>by rw[hx] at z;cases z)
 ·rw[if_neg e] at hit ht;exact wpAny_nextOf_list_item hit ht hx fun h' a=>hQ h' (by rw[if_neg e];exact a)
theorem Yg{c:Src}{i:Nat}{xs:Array Value}{Q:Value→Shared→Prop}(hh:A.handled=none)(hit:c.At s.heap i)(ht:c.Sq s.heap xs)(hx:xs[i]? = none)(hE:∀h' e,Heap.ExtBut c.it s.heap h'→(∃o,h'.get? e=some o∧o.cls=.type "StopIteration")→E (.ref e) { s with heap:=h' }):wpAny (model prog w) A (Builtin.SmallTypes.nextOf (.ref c.it)) Q E s:=by
 unfold Src.At at hit;unfold Src.Sq at ht
 by_cases e:c.tp=true
 ·rw[if_pos e] at hit ht;exact Jr hh hit ht (fun v ev=>by rw[hx] at ev;cases ev) (fun _=>hE)
 ·rw[if_neg e] at hit ht;exact wpAny_nextOf_list_end hh hit ht hx hE
theorem Nb{M:Model}{α β:Type}{f:α→β→Sem (ForInStep β)}{Q:β→Shared→Prop}(I:List α→β→Shared→Prop)(step:∀x r b s,I (x::r) b s→wpAny M A (f x b) (fun y s'=>match y with|.yield b'=>I r b' s'|.done b'=>Q b' s') E s)(fin:∀b s,I [] b s→Q b s) :
  ∀(l:List α) (b:β) (s:Shared),I l b s→wpAny M A (forIn l b f) Q E s
 |[],b,s,h=>by rw[List.forIn_nil];exact wpAny_pure (fin b s h)
 |x::r,b,s,h=>by
  rw[List.forIn_cons];refine wpAny_bind (wpAny_mono (step x r b s h) (fun y s' h'=>?_) fun _ _ z=>z);cases y with
  |yield b'=>exact Nb I step fin r b' s' h'
  |done b'=>exact wpAny_pure h'
abbrev Dq(h:Heap)(T:Addr)(vs:List Value):Prop:=h.get? T=some { cls:=.type "tuple",data:=.seq vs.toArray }
abbrev zfp(z TO:Addr)(cs:List Src):List Addr:=z::TO::cs.map (·.it)
structure ZApart(z TI TO:Addr)(cs:List Src):Prop where
 nd:(z::TO::cs.map (·.it)).Nodup
 ti:TI ∉ zfp z TO cs
 ls:∀c∈cs,c.l ∉ zfp z TO cs
theorem Vn{z TI TO:Addr}{cs:List Src}{i:Nat}{old:List Value}{X:Src→Array Value}{Q:Value→Shared→Prop}(hh:A.handled=none)(hne:cs≠[])(hs16:cs.length≤16)(D:ZApart z TI TO cs)(hz:IsZip s.heap z TI TO .none)(hTI:Dq s.heap TI (cs.map fun c=>.ref c.it))(hTO:Dq s.heap TO old)(hol:old.length=cs.length)(hA:∀c∈cs,c.At s.heap i)(hX:∀c∈cs,c.Sq s.heap (X c))(hQ:(∀c∈cs,i<(X c).size)→∀h',IsZip h' z TI TO (rawInt s.heap.objs.size)→(∃vs,Dq h' TO vs∧vs.length=cs.length)→(∀c∈cs,c.At h' (i+1))→Dq h' s.heap.objs.size (cs.map fun c=>(X c).getD i .none)→
   (∀b o,b ∉ zfp z TO cs→s.heap.get? b=some o→h'.get? b=some o)→Q (.ref s.heap.objs.size) { s with heap:=h' })(hE:(∃c∈cs,(X c).size≤i)→∀h' e,(∀b o,b ∉ zfp z TO cs→s.heap.get? b=some o→h'.get? b=some o)→(∃o,h'.get? e=some o∧o.cls=.type "StopIteration")→E (.ref e) { s with heap:=h' }) :
  wpAny (model prog w) A (Builtin.«zip.__next__» ⟨[.ref z],[]⟩) (fun fin s'=>∃v,fin=.done (.ret v)∧Q v s') E s:=by
 show wpAny _ _ (field (.ref z) 2 >>= _) _ _ _;refine wpAny_bind (wpAny_field hz rfl (x:=.bool false) rfl ?_);show wpAny _ _ (field (.ref z) 3 >>= _) _ _ _;refine wpAny_bind (wpAny_field hz rfl (x:=.ref TI) rfl (wpAny_bind (wpAny_seqItems hTI rfl ?_)));have hemp:¬((cs.map fun c=>Value.ref c.it).toArray.isEmpty=true):=by
  cases cs with
  |nil=>exact absurd rfl hne
  |cons c r=>simp
 simp only[hemp];show wpAny _ _ (Builtin.SmallTypes.ownedTupleIsFree (.ref z) >>= _) _ _ _;refine wpAny_bind ?_;unfold Builtin.SmallTypes.ownedTupleIsFree;refine wpAny_bind (wpAny_field hz rfl (x:=.none) rfl (wpAny_pure ?_));simp only[if_true];refine wpAny_bind (wpAny_rule (wpAny_bind (wpAny_field hz rfl (x:=.ref TO) rfl (wpAny_bind (wpAny_setField_rec hz (by simp) fun h₁ hz₁ hs₁=>?_)))))
 have hz₁:IsZip h₁ z TI TO .ellipsis:=hz₁;refine wpAny_bind ?_;have ne:=D.nd;have TOz:TO≠z:=fun e=>(List.nodup_cons.mp ne).1 (by simp[e])
 have itz:∀c∈cs,c.it≠z:=fun c hc e=>(List.nodup_cons.mp ne).1 (by rw[←e];exact List.mem_cons_of_mem _ (List.mem_map_of_mem hc))
 have itT:∀c∈cs,c.it≠TO:=fun c hc e=>(List.nodup_cons.mp (List.nodup_cons.mp ne).2).1 (by rw[←e];exact List.mem_map_of_mem hc)
 have sq:∀{h':Heap},(∀b o,b ∉ zfp z TO cs→s.heap.get? b=some o→h'.get? b=some o)→∀c∈cs,c.Sq h' (X c):=fun k c hc=>(hX c hc).keep fun o e=>k _ o (D.ls c hc) e;have nfp:∀{b:Addr},b ∉ zfp z TO cs→b≠z∧b≠TO∧∀c∈cs,b≠c.it:=fun {b} hb=>⟨fun e=>hb (by simp[e]),fun e=>hb (by simp[e]),fun c hc e=>hb (by rw[e];exact List.mem_cons_of_mem _ (List.mem_cons_of_mem _ (List.mem_map_of_mem hc)))⟩
 have sz16:∀{n:Nat},n≤16→n≤sizeLine:=fun h=>szl (by omega)
 refine Nb (fun rest b s'=>b=(none,())∧∃pre post h',s'={ s with heap:=h' }∧cs=pre++post∧rest=(post.map fun c=>Value.ref c.it).zipIdx pre.length∧IsZip h' z TI TO .ellipsis∧Dq h' TO (pre.map (fun c=>(X c).getD i .none)++old.drop pre.length)∧
  (∀c∈pre,i<(X c).size∧c.At h' (i+1))∧(∀c∈post,c.At h' i)∧h'.objs.size=s.heap.objs.size∧∀b o,b ∉ zfp z TO cs→s.heap.get? b=some o→h'.get? b=some o) ?_ ?_ _ _ _
  ⟨rfl,[],cs,h₁,rfl,rfl,rfl,hz₁,hs₁.extBut _ _ TOz hTO,fun c hc=>absurd hc (by simp),fun c hc=>(hA c hc).keep fun o e=>hs₁.extBut _ _ (itz c hc) e,hs₁.1,fun b o hb e=>hs₁.extBut _ _ (nfp hb).1 e⟩
 ·rintro⟨itv,k⟩ r b s' ⟨rfl,pre,post,h',rfl,hcs,hr,hz',hTO',hpre,hpost,hsz,hk⟩;cases post with
  |nil=>simp at hr
  |cons c post=>
   rw[List.map_cons,List.zipIdx_cons] at hr;injection hr with hr1 hr2;cases hr1;have hc:c∈cs:=by rw[hcs];simp
   have nd2:((pre++c::post).map (·.it)).Nodup:=by rw[←hcs];exact(List.nodup_cons.mp (List.nodup_cons.mp ne).2).2
   rw[List.map_append,List.map_cons] at nd2;have npre:∀d∈pre,d.it≠c.it:=fun d hd e=>(List.nodup_append.mp nd2).2.2 d.it (List.mem_map_of_mem hd) c.it (by simp) e
   have npost:∀d∈post,d.it≠c.it:=fun d hd e=>(List.nodup_cons.mp (List.nodup_append.mp nd2).2.1).1 (by rw[←e];exact List.mem_map_of_mem hd)
   refine wpAny_bind (wpAny_onRaise ?_);show wpAny _ _ (Builtin.SmallTypes.nextOf (.ref c.it) >>= _) _ _ _
   by_cases hi:i<(X c).size
   ·refine wpAny_bind (Vu hh (hpost c (by simp)) (sq hk c hc) (Array.getElem?_eq_getElem hi) fun h2 at2 sb2=>wpAny_pure ?_)
    have hTO2:=sb2.extBut _ _ (itT c hc).symm hTO';refine wpAny_bind (wpAny_seqItems hTO2 rfl ?_);have hlt:pre.length<old.length:=by rw[hol,hcs];simp
    have hlen:(pre.map (fun c=>(X c).getD i .none)++old.drop pre.length).length=cs.length:=by
     rw[List.length_append,List.length_map,List.length_drop,hol,hcs];simp
    refine wpAny_bind (wpAny_updateSeq hTO2 rfl ?_ (by rw[List.size_toArray,hlen];exact sz16 hs16) (by rw[Array.size_setIfInBounds,List.size_toArray,hlen];exact Nat.le_succ_of_le (sz16 hs16)))
    refine wpAny_bind (wpAny_letGo (wpAny_pure ?_));have sb3:Heap.SameBut TO h2 (h2.update TO (Obj.mapSeq fun x_2=>x_2.setIfInBounds pre.length (X c)[i])):=Heap.SameBut.update ..;have hTO3:Dq (h2.update TO (Obj.mapSeq fun x_2=>x_2.setIfInBounds pre.length (X c)[i])) TO ((pre++[c]).map (fun c=>(X c).getD i .none)++old.drop (pre++[c]).length):=by
     show Heap.get? _ _=_;rw[Heap.get?_update_self _ hTO2 rfl];have e1:old.drop pre.length=old[pre.length]::old.drop (pre.length+1):=List.drop_eq_getElem_cons hlt;have e2:(X c).getD i Value.none=(X c)[i]:=by simp[Array.getD,hi]
     simp only[Obj.mapSeq];rw[e1];congr 2;simp only[List.map_append,List.map_cons,List.map_nil,e2,List.setIfInBounds_toArray,List.length_append,List.length_cons,List.length_nil];rw[List.set_append_right _ _ (by simp)]
     simp only[List.length_map,Nat.sub_self,List.set_cons_zero,List.append_assoc,List.cons_append,List.nil_append];rw[if_pos (by simp;omega)]
    refine⟨rfl,pre++[c],post,_,rfl,by rw[hcs];simp,by rw[hr2];simp,sb3.extBut _ _ TOz.symm (sb2.extBut _ _ (itz c hc).symm hz'),hTO3,fun d hd=>?_,fun d hd=>?_,by rw[sb3.1,sb2.1];exact hsz,fun b o hb e=>sb3.extBut _ _ (nfp hb).2.1 (sb2.extBut _ _ ((nfp hb).2.2 c hc) (hk b o hb e))⟩
    ·rcases List.mem_append.mp hd with hd|hd
     ·have hd2:d∈cs:=by rw[hcs];simp[hd]
      exact⟨(hpre d hd).1,(hpre d hd).2.keep fun o e=>sb3.extBut _ _ (itT d hd2) (sb2.extBut _ _ (npre d hd) e)⟩
     ·have:d=c:=by simpa using hd
      subst this;exact⟨hi,at2.keep fun o e=>sb3.extBut _ _ (itT d hc) e⟩
    ·have hd2:d∈cs:=by rw[hcs];simp[hd]
     exact(hpost d (by simp[hd])).keep fun o e=>sb3.extBut _ _ (itT d hd2) (sb2.extBut _ _ (npost d hd) e)
   ·refine wpAny_bind (Yg hh (hpost c (by simp)) (sq hk c hc) (Array.getElem?_eq_none (by omega)) fun h2 e eb st=>?_)
    obtain⟨oe,hoe,hce⟩:=st;have hz2:IsZip h2 z TI TO .ellipsis:=eb _ _ (itz c hc).symm hz';have hez:e≠z:=fun x=>by subst x;rw[hz2] at hoe;cases hoe;simp at hce
    exact wpAny_setField_rec hz2 (by simp) fun h3 _ hs3=>hE ⟨c,hc,by omega⟩ h3 e (fun b o hb x=>hs3.extBut _ _ (nfp hb).1 (eb _ _ ((nfp hb).2.2 c hc) (hk b o hb x))) ⟨oe,hs3.extBut _ _ hez hoe,hce⟩
 ·rintro b s' ⟨rfl,pre,post,h5,rfl,hcs,hr,hz5,hTO5,hpre,hpost,hsz,hk⟩;have hp:post=[]:=by
   cases post with
   |nil=>rfl
   |cons c r=>simp at hr
  subst hp;rw[List.append_nil] at hcs;subst hcs;rw[←hol,List.drop_length,List.append_nil] at hTO5;refine wpAny_bind (wpAny_seqItems hTO5 rfl ?_);refine wpAny_bind (wpAny_newTuple ?_);have hzlt:z<h5.objs.size:=Heap.lt_size hz5;show wpAny _ _ (Builtin.SmallTypes.ownedTupleHandOut (.ref z) (.ref h5.objs.size) >>= _) _ _ _;refine wpAny_bind ?_;unfold Builtin.SmallTypes.ownedTupleHandOut;have hz6:=Heap.get?_push_of_some { cls:=.type "tuple",data:=.seq (cs.map fun c=>(X c).getD i .none).toArray } hz5;refine wpAny_bind (wpAny_setField_rec hz6 (by simp) fun h7 hz7 hs7=>?_)
  replace hz7:IsZip h7 z TI TO (rawInt h5.objs.size):=hz7
  refine wpAny_setField_rec hz7 (by simp) fun h8 hz8 hs8=>?_
  replace hz8:IsZip h8 z TI TO (rawInt h5.objs.size):=hz8
  have up:∀c o,c≠z→h5.get? c=some o→h8.get? c=some o:=fun c o c1 e=>hs8.extBut _ _ c1 (hs7.extBut _ _ c1 (Heap.get?_push_of_some _ e));have hT8:Dq h8 h5.objs.size (cs.map fun c=>(X c).getD i .none):=hs8.extBut _ _ (Nat.ne_of_gt hzlt) (hs7.extBut _ _ (Nat.ne_of_gt hzlt) (Heap.get?_push_size _ rfl));rw[hsz] at hz8 hT8;refine wpAny_pure ⟨_,rfl,?_⟩;show Q (.ref h5.objs.size) _;rw[hsz];exact hQ (fun c hc=>(hpre c hc).1) h8 hz8 ⟨_,up _ _ TOz hTO5,by simp⟩ (fun c hc=>(hpre c hc).2.keep fun o e=>up _ o (itz c hc) e) hT8 fun b o hb e=>up b o (nfp hb).1 (hk b o hb e)

theorem Jp{z TI TO:Addr}{cs:List Src}{i:Nat}{old:List Value}{X:Src→Array Value}{Q:Option Value→Shared→Prop}(hh:A.handled=none)(hne:cs≠[])(hs16:cs.length≤16)(D:ZApart z TI TO cs)(hz:IsZip s.heap z TI TO .none)(hTI:Dq s.heap TI (cs.map fun c=>.ref c.it))(hTO:Dq s.heap TO old)(hol:old.length=cs.length)(hA:∀c∈cs,c.At s.heap i)(hX:∀c∈cs,c.Sq s.heap (X c))(hQ:(∀c∈cs,i<(X c).size)→∀h',IsZip h' z TI TO (rawInt s.heap.objs.size)→(∃vs,Dq h' TO vs∧vs.length=cs.length)→(∀c∈cs,c.At h' (i+1))→Dq h' s.heap.objs.size (cs.map fun c=>(X c).getD i .none)→
   (∀b o,b ∉ zfp z TO cs→s.heap.get? b=some o→h'.get? b=some o)→Q (some (.ref s.heap.objs.size)) { s with heap:=h' })(hE:(∃c∈cs,(X c).size≤i)→∀h',(∀b o,b ∉ zfp z TO cs→s.heap.get? b=some o→h'.get? b=some o)→Q none { s with heap:=h' }) :
  wpAny (model prog w) A (pyNext (.ref z)) Q E s:=by
 have ty:s.TypeIs (.ref z) "zip":=⟨_,hz,rfl⟩;unfold pyNext;refine wpAny_bind (wpAny_attempt (wpAny_callSpecial?_slot (name:=Str.ofString "__next__") ty F.slot_zip_next (wpAny_call_entry F.slot_zip_next ty F.entry_zip_next (Vn hh hne hs16 D hz hTI hTO hol hA hX (fun a h' a1 a2 a3 a4 a5=>wpAny_pure (hQ a h' a1 a2 a3 a4 a5)) fun a h' e hk ⟨o,ho,co⟩=>?_) (F.args_zip_next_1 _))));exact wpAny_bind (wpAny_isInstance (T:="StopIteration") (b:=true) ⟨o,ho,co⟩ isSubtype_stop (wpAny_pure (hE a _ hk)))
abbrev Q1(l:Addr)(tp:Bool):Obj:={ cls:=.type (if tp then "tuple_iterator" else "list_iterator"),data:=.fields #[.ref l,.int 0 0] }
theorem Jq{l:Addr}{tp:Bool}{xs:Array Value}{Q:Value→Shared→Prop}(h:if tp=true then s.heap.IsTuple l xs else s.heap.IsList l xs)(hQ:Q (.ref s.heap.objs.size) { s with heap:=s.heap.push (Q1 l tp) }) :
  wpAny (model prog w) A (pyIter (.ref l)) Q E s:=by
 cases tp with
 |true=>exact wpAny_pyIter_tuple h hQ
 |false=>exact wpAny_pyIter_list h hQ
end
abbrev SqOf(h:Heap)(l:Addr)(tp:Bool)(xs:Array Value):Prop:=if tp=true then h.IsTuple l xs else h.IsList l xs
theorem SqOf.push{h:Heap}{l:Addr}{tp:Bool}{xs:Array Value}(x:SqOf h l tp xs)(o:Obj):SqOf (h.push o) l tp xs:=by
 unfold SqOf at x ⊢
 split at x
 ·rename_i e;rw[if_pos e];exact x.push o
 ·rename_i e;rw[if_neg e];exact x.push o
abbrev zh1(h:Heap)(a:Addr×Bool):Heap:=h.push (Q1 a.1 a.2)
abbrev La(h:Heap)(ts:List Value)(k:Nat):Heap:=((h.push { cls:=.type "tuple",data:=.seq ts.toArray }).push { cls:=.type "tuple",data:=.seq (List.replicate k Value.none).toArray }).push
 { cls:=.type "zip",data:=.fields #[.none,.bool false,.bool false,.ref h.objs.size,.ref (h.objs.size+1)] }
theorem Vo(a b:Addr×Bool)(xs ys:Array Value) :
  Meets (Builtin.«zip.__new__» ⟨[.type "zip",.ref a.1,.ref b.1],[]⟩) (fun _ R s=>SqOf s.heap a.1 a.2 xs∧SqOf s.heap b.1 b.2 ys∧
   R (.ok (.ret (.ref (s.heap.objs.size+4)))) { s with heap:=La (zh1 (zh1 s.heap a) b) [.ref s.heap.objs.size,.ref (s.heap.objs.size+1)] 2 }):=
 .of_wp fun prog w A R s h=>by
  obtain⟨hp,g,d,tk,os⟩:=s;obtain⟨hl1,hl2,h⟩:=h;have hsub:=sub_zip;have hL1:SqOf (Shared.heap ⟨hp,g,d,tk,os⟩) a.1 a.2 xs:=hl1;have hL2:SqOf (Shared.heap ⟨hp.push (Q1 a.1 a.2),g,d,tk,os⟩) b.1 b.2 ys:=SqOf.push hl2 _
  wp_walk using Jq hL1,Jq hL2
  refine⟨_,rfl,?_⟩;simp only[La,zh1,Heap.size_push] at h ⊢;exact h
theorem Src.Sq.inj{h:Heap}{c:Src}{xs ys:Array Value}(x:c.Sq h xs)(y:c.Sq h ys):xs=ys:=by
 unfold Src.Sq at x y
 split at x
 ·rename_i e;rw[if_pos e] at y;obtain⟨o,h1,_,n,d⟩:=x;obtain⟨o',h1',_,n',d'⟩:=y;rw[h1] at h1';cases h1';rw[d] at d';cases d';rfl
 ·rename_i e;rw[if_neg e] at y;obtain⟨o,h1,_,n,d⟩:=x;obtain⟨o',h1',_,n',d'⟩:=y;rw[h1] at h1';cases h1';rw[d] at d';cases d';rfl
def SqC(K:W.Frag)(H:Hp)(c:Addr×Bool)(xs:List V):Prop:=if c.2=true then SqT K H c.1 xs else SqL K H c.1 xs
def Itz (K:W.Frag) (cs:List (Addr×Bool)):It:=
  ⟨fun i H=>∀c∈cs,∃xs,SqC K H c xs∧i<xs.length,
   fun i H x H'=>∃p vs,H p=none∧x=.ref p∧H'=upd H p (.tup vs)∧Paired (fun (c:Addr×Bool) v=>∀xs,SqC K H c xs→xs[i]? = some v) cs vs,
   fun i H=>(∀c∈cs,∃xs,SqC K H c xs)∧∃c∈cs,∃xs,SqC K H c xs∧xs.length≤i⟩
section
variable{X:Cx}{pins:List (Addr×Obj)}{σ:St}{H:Hp}{s:Shared}
theorem Pf(I:Inv X pins σ H s){c:Src}{xs:List V}(h:SqC X.K H (c.l,c.tp) xs):∃its:List Value,Vals xs its∧c.Sq s.heap its.toArray:=by
 unfold SqC at h;unfold Src.Sq
 by_cases e:c.tp=true
 ·rw[if_pos e] at h;obtain⟨its,r,p,_⟩:=I.tuple h;exact⟨its,r,by rw[if_pos e];exact p⟩
 ·rw[if_neg e] at h;obtain⟨its,r,p,_⟩:=I.list h;exact⟨its,r,by rw[if_neg e];exact p.isList⟩
theorem Q8(I:Inv X pins σ H s){c:Addr×Bool}{xs ys:List V}(h:SqC X.K H c xs)(h':SqC X.K H c ys):xs=ys:=by
 unfold SqC at h h'
 split at h
 ·rename_i e;rw[if_pos e] at h';exact I.tuple_inj h h'
 ·rename_i e;rw[if_neg e] at h';exact I.list_inj h h'
theorem Q5{t':Nat}{h':Heap}{fp:List Addr}(I:Inv X pins σ H s)(k:∀b o,b ∉ fp→s.heap.get? b=some o→h'.get? b=some o)(hf:∀b∈fp,Ej X pins H b):Inv X pins σ H { s with heap:=h',toks:=t' }:=by
 have nit:∀b u,H b=some u→b ∉ fp:=fun b u e z=>by rw[(hf b z).1] at e;cases e
 refine I.step (g':=s.gens) (d':=s.drawn) (ch:=fp) (fun b hb=>⟨(hf b hb).2.2.2.1,(hf b hb).2.1,(hf b hb).2.2.2.2.1,(hf b hb).2.2.2.2.2⟩) (fun b o _ _ hc e _=>k b o hc e) (fun b o _ _ hc e _=>⟨o.slots,k b o hc e⟩) (fun _ _ _ _ n=>n)
  (fun b o hc e=>⟨o,k b o hc e⟩) (fun _ _ e=>e) (fun _ _ _ e=>e) (fun b ps e=>⟨#[],by rw[e];simp⟩) (fun m hm=>?_) (fun b u e=>?_) I.bare
 ·obtain⟨o,es,ep,ho,r⟩:=hm;exact⟨o,es,ep,k _ o (fun z=>(hf _ z).2.1 rfl) ho,r⟩
 ·refine(I.hok b u e).stay (fun c v hc q=>k c v ?_ q) (fun _ q=>q) fun _ _ q=>q;rcases hc with z|z
  ·rw[z];exact nit b u e
  ·exact nit c _ z
theorem Uw{K:W.Frag}{i:Nat}{Y:Src→Array Value}:∀(cs:List Src),(∀c∈cs,∃v,RelV v ((Y c).getD i .none)∧∀xs,SqC K H (c.l,c.tp) xs→xs[i]? = some v)→
  ∃vs,Vals vs (cs.map fun c=>(Y c).getD i .none)∧Paired (fun(c:Addr×Bool) v=>∀xs,SqC K H c xs→xs[i]? = some v) (cs.map fun c=>(c.l,c.tp)) vs
 |[],_=>⟨[],.nil,.nil⟩
 |c::cs,h=>by
  obtain⟨v,r,q⟩:=h c (by simp)
  obtain⟨vs,a,b⟩:=Uw cs fun d hd=>h d (by simp[hd])
  exact⟨v::vs,.cons r a,.cons q b⟩
end
theorem Vs{P:Program}{w:World}{K:W.Frag}{elts:List Expr}{kk:Nat}{pos:Pos}(z TI TO:Addr)(cs:List Src)(hne:cs≠[])(h16:cs.length≤16)(D:ZApart z TI TO cs) :
  Turn P w K (.Tuple elts kk pos) (Itz K (cs.map fun c=>(c.l,c.tp))) (TI::zfp z TO cs) z
   (fun i h=>IsZip h z TI TO .none∧Dq h TI (cs.map fun c=>.ref c.it)∧(∃vs,Dq h TO vs∧vs.length=cs.length)∧∀c∈cs,c.At h i) where
 mem:=by simp
 obj:=fun i h zz b hb=>by
  obtain⟨hz,hTI,⟨vs,hTO,_⟩,hA⟩:=zz;have hb':b=TI∨b=z∨b=TO∨∃c∈cs,c.it=b:=by simpa[zfp] using hb
  rcases hb' with rfl|rfl|rfl|⟨c,hc,rfl⟩
  ·exact⟨_,hTI,fun v e=>by cases(show Data.seq _ _=Data.cell v from e)⟩
  ·exact⟨_,hz,fun v e=>by cases(show Data.fields _=Data.cell v from e)⟩
  ·exact⟨_,hTO,fun v e=>by cases(show Data.seq _ _=Data.cell v from e)⟩
  ·exact(hA c hc).obj
 keep:=fun i h h' ⟨hz,hTI,⟨vs,hTO,hl⟩,hA⟩ k=>⟨k z (by simp) _ hz,k TI (by simp) _ hTI,⟨vs,k TO (by simp) _ hTO,hl⟩,fun c hc=>(hA c hc).keep fun o e=>k c.it (List.mem_cons_of_mem _ (List.mem_cons_of_mem _ (List.mem_cons_of_mem _ (List.mem_map_of_mem hc)))) o e⟩
 item:=by
  intro X hP hw hK hc i pins s σ H E I hf st hg;subst hP hw hK;obtain⟨hz,hTI,⟨old,hTO,hol⟩,hA⟩:=st;have hex:∀c∈cs,∃(xs:List V) (its:List Value),SqC X.K H (c.l,c.tp) xs∧i<xs.length∧Vals xs its∧c.Sq s.heap its.toArray:=fun c hc=>by
   obtain⟨xs,h1,h2⟩:=hg (c.l,c.tp) (List.mem_map_of_mem (f:=fun c:Src=>(c.l,c.tp)) hc);obtain⟨its,r,p⟩:=Pf I h1;exact⟨xs,its,h1,h2,r,p⟩
  open Classical in
  let Y:Src→Array Value:=fun c=>if h:∃ys,c.Sq s.heap ys then Classical.choose h else #[]
  have hY:∀c∈cs,c.Sq s.heap (Y c):=fun c hc=>by
   obtain⟨xs,its,_,_,_,p⟩:=hex c hc;have h:∃ys,c.Sq s.heap ys:=⟨_,p⟩;show c.Sq s.heap (if h:∃ys,c.Sq s.heap ys then Classical.choose h else #[]);rw[dif_pos h];exact Classical.choose_spec h
  obtain⟨vs,rv,pv⟩:=Uw (H:=H) (K:=X.K) (i:=i) (Y:=Y) cs fun c hc=>by
   obtain⟨xs,its,h1,h2,r,p⟩:=hex c hc;have e:=(hY c hc).inj p;have hx:xs[i]? = some xs[i]:=List.getElem?_eq_getElem h2;obtain⟨u,hu,ru⟩:=r.get hx;refine⟨xs[i],?_,fun ys hy=>by rw[Q8 I hy h1];exact hx⟩
   rw[e]
   have:its.toArray.getD i Value.none=u:=by simp[Array.getD_eq_getD_getElem?,hu]
   rw[this];exact ru
  refine Jp (X:=Y) (I.ok.hd hc) hne h16 D hz hTI hTO hol hA hY (fun _ h' a1 a2 a3 a4 a5=>?_) fun⟨c,hc,hl⟩=>?_
  ·refine⟨_,rfl,wpAny_letOwnedTupleGo_zip (s:={ s with heap:=h' }) a1 fun h2 hz2 sb2=>?_⟩;have TIne:TI≠z:=fun e=>D.ti (by simp[e])
   have TOz:TO≠z:=fun e=>(List.nodup_cons.mp D.nd).1 (by simp[e])
   have itz:∀c∈cs,c.it≠z:=fun c hc e=>(List.nodup_cons.mp D.nd).1 (by rw[←e];exact List.mem_cons_of_mem _ (List.mem_map_of_mem hc))
   have hTne:s.heap.objs.size≠z:=Nat.ne_of_gt (Heap.lt_size hz);have I1:Inv X pins σ (upd H s.heap.objs.size (.tup vs)) { s with heap:=s.heap.push { cls:=.type "tuple",data:=.seq (cs.map fun c=>(Y c).getD i .none).toArray } }:=
    I.laid (t':=s.toks) (fun b u e=>Heap.get?_push_of_some _ e) (Nat.le_refl _) ⟨by rw[rv.length,List.length_map];exact szl (by omega),_,rv,⟨_,Heap.get?_push_size _ rfl,rfl,_,rfl⟩⟩
   have hfl:∀b∈TI::zfp z TO cs,b<s.heap.objs.size:=fun b hb=>by
    have hb':b=TI∨b=z∨b=TO∨∃c∈cs,c.it=b:=by simpa[zfp] using hb
    rcases hb' with rfl|rfl|rfl|⟨c,hc,rfl⟩
    ·exact Heap.lt_size hTI
    ·exact Heap.lt_size hz
    ·exact Heap.lt_size hTO
    ·obtain⟨o,e,_⟩:=(hA c hc).obj;exact Heap.lt_size e
   have hf1:∀b∈TI::zfp z TO cs,Ej X pins (upd H s.heap.objs.size (.tup vs)) b:=fun b hb=>⟨by rw[Ac (Nat.ne_of_lt (hfl b hb))];exact(hf b hb).1,(hf b hb).2⟩
   have I2:=Q5 (t':=s.toks) (h':=h2) I1 (fp:=TI::zfp z TO cs) (fun b o hb e=>?_) hf1
   ·refine⟨.ref s.heap.objs.size,_,I2,rfl,⟨s.heap.objs.size,vs,I.hok.fresh (Nat.le_refl _),rfl,rfl,pv⟩,⟨hz2,sb2.extBut _ _ TIne (a5 _ _ D.ti hTI),?_,fun c hc=>(a3 c hc).keep fun o e=>sb2.extBut _ _ (itz c hc) e⟩,fun b hb=>(hf1 b hb).1⟩;obtain⟨ws,b1,b2⟩:=a2;exact⟨ws,sb2.extBut _ _ TOz b1,b2⟩
   ·have hbz:b≠z:=fun e=>hb (by simp[e])
    refine sb2.extBut _ _ hbz ?_;rcases Heap.get?_push_cases e with ⟨rfl,rfl⟩|e
    ·exact a4
    ·exact a5 _ _ (fun q=>hb (List.mem_cons_of_mem _ q)) e
  ·intro h' hk;obtain⟨xs,its,h1,h2,r,p⟩:=hex c hc;have e:=(hY c hc).inj p;rw[e,List.size_toArray,←r.length] at hl;omega
 done:=by
  intro X hP hw hK hc i pins s σ H E I hf st hg;subst hP hw hK;obtain⟨hz,hTI,⟨old,hTO,hol⟩,hA⟩:=st;obtain⟨hall,c0,hc0,xs0,hx0,hl0⟩:=hg;obtain⟨c1,hc1,rfl⟩:=List.mem_map.mp hc0;have hex:∀c∈cs,∃(xs:List V) (its:List Value),SqC X.K H (c.l,c.tp) xs∧Vals xs its∧c.Sq s.heap its.toArray:=fun c hc=>by
   obtain⟨xs,h1⟩:=hall (c.l,c.tp) (List.mem_map_of_mem (f:=fun c:Src=>(c.l,c.tp)) hc);obtain⟨its,r,p⟩:=Pf I h1;exact⟨xs,its,h1,r,p⟩
  open Classical in
  let Y:Src→Array Value:=fun c=>if h:∃ys,c.Sq s.heap ys then Classical.choose h else #[]
  have hY:∀c∈cs,c.Sq s.heap (Y c):=fun c hc=>by
   obtain⟨xs,its,_,_,p⟩:=hex c hc;have h:∃ys,c.Sq s.heap ys:=⟨_,p⟩;show c.Sq s.heap (if h:∃ys,c.Sq s.heap ys then Classical.choose h else #[]);rw[dif_pos h];exact Classical.choose_spec h
  refine Jp (X:=Y) (I.ok.hd hc) hne h16 D hz hTI hTO hol hA hY (fun hlt=>?_) fun _ h' hk=>⟨rfl,Q5 (t':=s.toks) (h':=h') (fp:=TI::zfp z TO cs) I (fun b o hb e=>hk b o (fun q=>hb (List.mem_cons_of_mem _ q)) e) hf⟩;have h1:=hlt c1 hc1;obtain⟨xs,its,h2,r,p⟩:=hex c1 hc1;rw[(hY c1 hc1).inj p,List.size_toArray,←r.length,Q8 I h2 hx0] at h1;omega
 self:=fun _ _ _ _ _ st h=>wpAny_pyIter_zip st.1 h
theorem zipTy:bootBuiltins "zip" = some (.type "zip"):=by decide +kernel
section
variable{X:Cx}{pins:List (Addr×Obj)}{σ:St}{H:Hp}{s:Shared}{E:Value→Shared→Prop}
theorem Q7(I:Inv X pins σ H s){c:Addr×Bool}(h:∃xs,SqC X.K H c xs):∃xs,SqOf s.heap c.1 c.2 xs∧c.1<s.heap.objs.size:=by
 obtain⟨xs,h⟩:=h;obtain⟨its,_,p⟩:=Pf (c:=⟨0,c.1,c.2⟩) I h;refine⟨_,p,?_⟩;unfold Src.Sq at p
 split at p
 ·obtain⟨o,e,_⟩:=p;exact Heap.lt_size e
 ·obtain⟨o,e,_⟩:=p;exact Heap.lt_size e
theorem Vl{h h':Heap}{l:Addr}{tp:Bool}(e:h'.get? h.objs.size=some (Q1 l tp)):Src.At h' ⟨h.objs.size,l,tp⟩ 0:=by
 unfold Src.At;cases tp with
 |true=>exact⟨_,e,rfl,rfl⟩
 |false=>exact⟨_,e,rfl,rfl⟩
theorem Oa{elts:List Expr}{kk:Nat}{tp:Pos}{R:It→Hp→Prop}(I:Inv X pins σ H s){z TI TO:Addr}{cs:List Src}{h':Heap}(hne:cs≠[])(h16:cs.length≤16)(hk:∀b o,s.heap.get? b=some o→h'.get? b=some o)(hz:IsZip h' z TI TO .none)(hTI:Dq h' TI (cs.map fun c=>.ref c.it))(hTO:Dq h' TO (List.replicate cs.length .none))(hA:∀c∈cs,c.At h' 0)(nd:(z::TO::cs.map (·.it)).Nodup)(ti:TI ∉ zfp z TO cs)(new:∀b∈TI::zfp z TO cs,s.heap.objs.size≤b)(old:∀c∈cs,c.l<s.heap.objs.size)(q:R (Itz X.K (cs.map fun c=>(c.l,c.tp))) H) :
  wpAny (model X.prog X.w) X.A (pyIter (.ref z)) (PIE X pins σ (.Tuple elts kk tp) R) E { s with heap:=h' }:=by
 refine wpAny_pyIter_zip (s:={ s with heap:=h' }) hz ?_;have D:ZApart z TI TO cs:=⟨nd,ti,fun c hc hb=>absurd (Nat.lt_of_lt_of_le (old c hc) (new _ (List.mem_cons_of_mem _ hb))) (Nat.lt_irrefl _)⟩;refine⟨z,TI::zfp z TO cs,_,_,H,rfl,I.kept (t':=s.toks) hk,Vs z TI TO cs hne h16 D,⟨hz,hTI,⟨_,hTO,by simp⟩,hA⟩,fun b hb=>I.fpOk (new b hb) (I.hok.fresh (new b hb)),q⟩
theorem X7{elts:List Expr}{kk:Nat}{tp:Pos}{R:It→Hp→Prop}(I:Inv X pins σ H s){a b:Addr×Bool}(ha:∃xs,SqC X.K H a xs)(hb:∃xs,SqC X.K H b xs)(q:R (Itz X.K [a,b]) H) :
  wpAny (model X.prog X.w) X.A (call (.type "zip") [.ref a.1,.ref b.1]) (fun v s1=>wpAny (model X.prog X.w) X.A (pyIter v) (PIE X pins σ (.Tuple elts kk tp) R) E s1) E s:=by
 obtain⟨xs,sa,la⟩:=Q7 I ha;obtain⟨ys,sb,lb⟩:=Q7 I hb;refine callType_new F.called_zip (by decide) (F.typeCall_zip_2 _ _) (F.newCall_zip_2 _ _) (fun obj=>F.args_object_init_3 obj _ _) F.entry_zip_new (Vo a b xs ys) ⟨sa,sb,?_⟩
 generalize hh:s.heap=h at *;have z1:(zh1 h a).objs.size=h.objs.size+1:=Heap.size_push ..;have z2:(zh1 (zh1 h a) b).objs.size=h.objs.size+2:=by rw[Heap.size_push,z1]
 have g0:∀c o,(zh1 (zh1 h a) b).get? c=some o→(La (zh1 (zh1 h a) b) [.ref h.objs.size,.ref (h.objs.size+1)] 2).get? c=some o:=fun c o e=>Heap.get?_push_of_some _ (Heap.get?_push_of_some _ (Heap.get?_push_of_some _ e));have gz:(La (zh1 (zh1 h a) b) [.ref h.objs.size,.ref (h.objs.size+1)] 2).get? (h.objs.size+4)=some { cls:=.type "zip",data:=.fields #[.none,.bool false,.bool false,.ref (h.objs.size+2),.ref (h.objs.size+3)] }:=by
  have e:h.objs.size+4=(((zh1 (zh1 h a) b).push { cls:=.type "tuple",data:=.seq [Value.ref h.objs.size,.ref (h.objs.size+1)].toArray }).push { cls:=.type "tuple",data:=.seq (List.replicate 2 Value.none).toArray }).objs.size:=by rw[Heap.size_push,Heap.size_push,z2]
  rw[e];unfold La;rw[z2];exact Heap.get?_push_size _ rfl
 have gTI:Dq (La (zh1 (zh1 h a) b) [.ref h.objs.size,.ref (h.objs.size+1)] 2) (h.objs.size+2) [.ref h.objs.size,.ref (h.objs.size+1)]:=by
  rw[←z2];exact Heap.get?_push_of_some _ (Heap.get?_push_of_some _ (Heap.get?_push_size _ rfl))
 have gTO:Dq (La (zh1 (zh1 h a) b) [.ref h.objs.size,.ref (h.objs.size+1)] 2) (h.objs.size+3) (List.replicate 2 Value.none):=by
  have e:h.objs.size+3=((zh1 (zh1 h a) b).push { cls:=.type "tuple",data:=.seq [Value.ref h.objs.size,.ref (h.objs.size+1)].toArray }).objs.size:=by rw[Heap.size_push,z2]
  rw[e];exact Heap.get?_push_of_some _ (Heap.get?_push_size _ rfl)
 have A1:Src.At (La (zh1 (zh1 h a) b) [.ref h.objs.size,.ref (h.objs.size+1)] 2) ⟨h.objs.size,a.1,a.2⟩ 0:=Vl (g0 _ _ (Heap.get?_push_of_some _ (Heap.get?_push_size _ rfl)));have A2:Src.At (La (zh1 (zh1 h a) b) [.ref h.objs.size,.ref (h.objs.size+1)] 2) ⟨h.objs.size+1,b.1,b.2⟩ 0:=by
  have:=Vl (h:=zh1 h a) (l:=b.1) (tp:=b.2) (g0 _ _ (Heap.get?_push_size _ rfl))
  rw[z1] at this;exact this
 refine⟨⟨_,gz,rfl⟩,Oa (s:=s) (cs:=[⟨h.objs.size,a.1,a.2⟩,⟨h.objs.size+1,b.1,b.2⟩]) I (by simp) (by simp) (fun c o e=>?_) gz gTI gTO (fun c hc=>?_) (by simp) (by simp[zfp]) (fun c hc=>?_) (fun c hc=>?_) q⟩
 ·rw[hh] at e;exact g0 _ _ (Heap.get?_push_of_some _ (Heap.get?_push_of_some _ e))
 ·simp only[List.mem_cons,List.not_mem_nil,or_false] at hc;rcases hc with rfl|rfl
  ·exact A1
  ·exact A2
 ·rw[hh];simp only[zfp,List.map_cons,List.map_nil,List.mem_cons,List.not_mem_nil,or_false] at hc;rcases hc with rfl|rfl|rfl|rfl|rfl<;>first|exact Nat.le_refl _|exact Nat.le_add_right _ _
 ·rw[hh];simp only[List.mem_cons,List.not_mem_nil,or_false] at hc;rcases hc with rfl|rfl
  ·exact la
  ·exact lb
end
def O6(ls:List (List D))(i:Nat):List D:=ls.map fun l=>l.getD i .non
def Ci:List (List D)→Nat
 |[]=>0
 |[l]=>l.length
 |l::m::r=>min l.length (Ci (m::r))
def A6(ls:List (List D)):List D:=(List.range (Ci ls)).map fun i=>.tup (O6 ls i)
theorem B3(ls:List (List D)):(A6 ls).length=Ci ls:=by simp[A6]
theorem Fk{ls:List (List D)}{i:Nat}(h:i<Ci ls):(A6 ls)[i]? = some (.tup (O6 ls i)):=by simp[A6,h]
theorem Fe:∀{ls:List (List D)} {i:Nat},i<Ci ls→∀l∈ls,i<l.length
 |[],_,h,_,_=>by simp[Ci] at h
 |[l],i,h,m,hm=>by
  have:m=l:=by simpa using hm
  subst this;exact h
 |l::k::r,i,h,m,hm=>by
  have h1:i<min l.length (Ci (k::r)):=h;rcases List.mem_cons.mp hm with e|e
  ·subst e;omega
  ·exact Fe (by omega) m e
theorem Rm:∀{ls:List (List D)},ls≠[]→∃l∈ls,l.length≤Ci ls
 |[],h=>absurd rfl h
 |[l],_=>⟨l,by simp,Nat.le_refl _⟩
 |l::k::r,_=>by
  obtain⟨m,hm,h1⟩:=Rm (ls:=k::r) (by simp)
  show ∃m∈l::k::r,m.length≤min l.length (Ci (k::r))
  by_cases h:l.length≤Ci (k::r)
  ·exact⟨l,by simp,by omega⟩
  ·exact⟨m,by simp[List.mem_cons.mp hm],by omega⟩
abbrev Jb(K:W.Frag)(H:Hp)(cs:List (Addr×Bool))(ls:List (List D)):Prop:=Paired (fun(c:Addr×Bool) l=>∃xs,SqC K H c xs∧DVs K H l xs) cs ls
structure ItemsX(K:W.Frag)(J:It)(H:Hp)(ds:List D):Prop where
 go:∀i,i<ds.length→J.go i H
 yl:∀i x H',i<ds.length→J.yld i H x H'→Ext H H'∧(∀G,RelG K H G→RelG K H' G)∧∃d,ds[i]? = some d∧DV K H' d x
 st:J.stop ds.length H
theorem Dy{K:W.Frag}{H:Hp}:∀{cs:List (Addr×Bool)} {ls:List (List D)},Jb K H cs ls→∀c∈cs,∃l∈ls,∃xs,SqC K H c xs∧DVs K H l xs
 |_,_,.cons h t,c,hc=>by
  rcases List.mem_cons.mp hc with e|e
  ·subst e;exact⟨_,by simp,h⟩
  ·obtain⟨l,hl,q⟩:=Dy t c e;exact⟨l,by simp[hl],q⟩
theorem Ks{K:W.Frag}{H:Hp}:∀{cs:List (Addr×Bool)} {ls:List (List D)},Jb K H cs ls→∀l∈ls,∃c∈cs,∃xs,SqC K H c xs∧DVs K H l xs
 |_,_,.cons h t,c,hc=>by
  rcases List.mem_cons.mp hc with e|e
  ·subst e;exact⟨_,by simp,h⟩
  ·obtain⟨l,hl,q⟩:=Ks t c e;exact⟨l,by simp[hl],q⟩
theorem Uy{K:W.Frag}{H:Hp}{i:Nat}:∀{cs:List (Addr×Bool)} {ls:List (List D)} {vs:List V},Jb K H cs ls→(∀l∈ls,i<l.length)→Paired (fun(c:Addr×Bool) v=>∀xs,SqC K H c xs→xs[i]? = some v) cs vs→DVs K H (O6 ls i) vs
 |_,_,_,.nil,_,.nil=>.nil
 |_,_,_,.cons (b:=l) h t,hl,.cons q r=>by
  obtain⟨xs,h1,h2⟩:=h;have hi:i<l.length:=hl l (by simp)
  obtain⟨v,hv,dv⟩:=h2.get (List.getElem?_eq_getElem hi);rw[q xs h1] at hv;cases hv;show DVs K H (l.getD i .non::O6 _ i) _;have e:l.getD i .non=l[i]:=by simp[List.getD,hi]
  rw[e];exact .cons dv (Uy t (fun m hm=>hl m (by simp[hm])) r)
theorem K0{K:W.Frag}{H:Hp}{cs:List (Addr×Bool)}{ls:List (List D)}(h:Jb K H cs ls)(hne:ls≠[]):ItemsX K (Itz K cs) H (A6 ls):=by
 refine⟨fun i hi c hc=>?_,fun i x H' hi y=>?_,⟨fun c hc=>?_,?_⟩⟩
 ·rw[B3] at hi;obtain⟨l,hl,xs,h1,h2⟩:=Dy h c hc;exact⟨xs,h1,by rw[←h2.length];exact Fe hi l hl⟩
 ·rw[B3] at hi;obtain⟨p,vs,hp,rfl,rfl,pv⟩:=y;refine⟨Ext.fresh hp,fun G r=>r.tup hp,_,Fk hi,.tup Ae ((Uy h (Fe hi) pv).ext (Ext.fresh hp))⟩
 ·obtain⟨l,_,xs,h1,_⟩:=Dy h c hc;exact⟨xs,h1⟩
 ·obtain⟨l,hl,hle⟩:=Rm hne;obtain⟨c,hc,xs,h1,h2⟩:=Ks h l hl;exact⟨c,hc,xs,h1,by rw[B3,←h2.length];exact hle⟩
def Bl(G:Gp):List D→Option (List (List D))
 |[]=>some []
 |d::r=>match Am G d,Bl G r with
  |some l,some ls=>some (l::ls)
  |_,_=>none
def Io:D→V→Addr×Bool
 |.tup _,.ref a=>(a,true)
 |_,.ref a=>(a,false)
 |_,_=>(0,false)
theorem Abs{K:W.Frag}{H:Hp}{G:Gp}{d:D}{v:V}{l:List D}(rg:RelG K H G)(h:Am G d=some l)(dv:DV K H d v):v=.ref (Io d v).1∧∃xs,SqC K H (Io d v) xs∧DVs K H l xs:=by
 cases dv with
 |tup e r=>cases h;exact⟨rfl,_,.inl (.inl e),r⟩
 |lint e=>cases h;exact⟨rfl,_,e.sq,DVs.ints⟩
 |ref a=>
  simp only[Am] at h
  split at h
  ·rename_i ds' q;cases h;obtain⟨xs,e,r⟩:=rg a _ q;exact⟨rfl,xs,.inl (.inl e),r⟩
  ·cases h
 |_=>cases h
theorem Fa{K:W.Frag}{H:Hp}{G:Gp}(rg:RelG K H G):∀{ds:List D} {vs:List V} {ls:List (List D)},Bl G ds=some ls→DVs K H ds vs→vs=(List.zipWith Io ds vs).map (fun c=>V.ref c.1)∧Jb K H (List.zipWith Io ds vs) ls
 |[],_,_,h,.nil=>by cases h;exact⟨rfl,.nil⟩
 |d::ds,_,_,h,.cons (v:=v) (vs:=vs) dv t=>by
  simp only[Bl] at h
  split at h
  ·rename_i l ls e1 e2;cases h;obtain⟨a1,a2⟩:=Abs rg e1 dv;obtain⟨b1,b2⟩:=Fa rg e2 t;refine⟨?_,.cons a2 b2⟩;show v::vs=V.ref (Io d v).1::_;rw[←a1,←b1]
  ·cases h
def iZip(K:W.Frag)(n:Nat)(ta:TA):TI:=fun σ H R=>ta σ H fun vs H1=>∃cs:List (Addr×Bool),vs=cs.map (fun c=>V.ref c.1)∧cs.length=n∧(∀c∈cs,∃xs,SqC K H1 c xs)∧R (Itz K cs) H1
section
variable{X:Cx}{a b c e:Expr}{elts:List Expr}{kk:Nat}{tp p pos:Pos}{body:List Stmt}
theorem Rg{ta:TA}(hg:Gl X "zip")(hm:X.mg "zip" = none)(ha:PA X [a,b] ta)(hs:starEach [a,b] X.env=(false,eval a X.env)::starEach [b] X.env:=by rfl)(hpl:(backTo pos (starEach [b] X.env)).any (·.1)=false:=by rfl) :
  PI X (.Tuple elts kk tp) (.Call (.Name "zip" p) [a,b] [] pos) (iZip X.K 2 ta):=by
 intro pins s σ H R I h;refine Call_ (Dw I hg hm zipTy (PyProof.Rows.callWith_type1 (thn (ha pos pins s σ H _ I h) fun us s1 ⟨vs,H1,I1,r1,q1⟩=>?_) hs hpl));obtain⟨cs,e,hl,hq,q⟩:=q1
 match cs,hl with
 |[x,y],_=>
  subst e;obtain⟨u1,u2,rfl,r1,r2⟩:=Im r1;cases r1;cases r2;exact X7 I1 (hq x (by simp)) (hq y (by simp)) q
theorem vals3{x y z:V}{us:List Value}(r:Vals [x,y,z] us):∃u v w,us=[u,v,w]∧RelV x u∧RelV y v∧RelV z w:=by
 cases r with|cons a t=>cases t with|cons b t=>cases t with|cons c t=>cases t;exact⟨_,_,_,rfl,a,b,c⟩
theorem Qf{K:W.Frag}{J:It}{ds:List D}{same:Gp→Prop}{g:DTG}{tb:DTS}{D:DEnds}{E:Ends}{σD:DSt}{σ:St}{G:Gp}{H:Hp}(rs:RelS K H σD σ)(rg:RelG K H G)(cl:D.Reach K H E)(hJ:∀H' G',Ext H H'→RelG K H' G'→same G'→ItemsX K J H' ds)(h:J4 ds same g tb D σD G) :
  ∃W:Nat→Nat→St→Hp→Prop,(∃m,W 0 m σ H)∧∀i m σ H,W i m σ H→
   (J.stop i H∧E.nx σ H)∨(J.go i H∧∃N:St→Hp→Prop,(∀σ' H',N σ' H'→∃m',m'<m∧W (i+1) m' σ' H')∧∀x H',J.yld i H x H'→C6 K g x σ H' fun σ2 H2=>Du K tb { E with nx:=N,ct:=N,bk:=E.nx } σ2 H2):=by
 obtain⟨P,p0,keep,step,fin⟩:=h;refine⟨fun i m σ' H'=>m=ds.length-i∧i≤ds.length∧∃σD' G',RelS K H' σD' σ'∧RelG K H' G'∧Ext H H'∧P i σD' G',⟨ds.length,rfl,Nat.zero_le _,σD,G,rs,rg,Ext.refl H,p0⟩,?_⟩;rintro i m σ1 H1 ⟨rfl,hi,σD1,G1,rs1,rg1,x1,p1⟩;have I:=hJ H1 G1 x1 rg1 (keep i σD1 G1 hi p1)
 by_cases hlt:i<ds.length
 ·refine .inr ⟨I.go i hlt,fun σ' H'=>∃σD' G',RelS K H' σD' σ'∧RelG K H' G'∧Ext H H'∧P (i+1) σD' G',fun σ' H' ⟨s2,G2,r1,r2,r3,p⟩=>⟨ds.length-(i+1),by omega,rfl,hlt,s2,G2,r1,r2,r3,p⟩,fun x H' y=>?_⟩
  obtain⟨xe,rge,d,ed,dv⟩:=I.yl i x H' hlt y;refine⟨d,σD1,G1,_,dv,rs1.ext xe,rge _ rg1,step i d σD1 G1 ed p1,fun σ2 G2 h2 H2 x2 rg2 σ' rs2=>?_⟩;have xx:=x1.trans (xe.trans x2);exact⟨σ2,G2,_,rs2,rg2,h2,⟨fun s3 G3 ⟨G4,sb,n⟩ H3 x3 rg3 σ3 rs3=>⟨s3,G4,rs3,rg3.ext' sb,xx.trans x3,n⟩,(cl.go xx).rt,(cl.go xx).nx,fun s3 G3 ⟨G4,sb,n⟩ H3 x3 rg3 σ3 rs3=>⟨s3,G4,rs3,rg3.ext' sb,xx.trans x3,n⟩⟩⟩
 ·have e:i=ds.length:=by omega
  subst e;exact .inl ⟨I.st,cl.nx _ G1 (fin σD1 G1 p1) H1 x1 rg1 _ rs1⟩
def Uj(n:Nat)(tA:DTA)(g:DTG)(tb:DTS):DTS:=fun D σ G=>tA σ G fun ds G1=>ds.length=n∧∃ls,Bl G1 ds=some ls∧J4 (A6 ls) (fun G'=>Bl G' ds=some ls) g tb D σ G1
theorem Mi{G:Gp}:∀{ds:List D} {ls:List (List D)},Bl G ds=some ls→ls.length=ds.length
 |[],_,h=>by cases h;rfl
 |d::ds,_,h=>by
  simp only[Bl] at h
  split at h
  ·rename_i l ls e1 e2;cases h;simp[Mi e2]
  ·cases h
theorem W4{n:Nat}(hn:n≠0){g:DTG}{tb:DTS}{tA:DTA}{E:Ends}{σ:St}{H:Hp}(h:Du X.K (Uj n tA g tb) E σ H):tFor (iZip X.K n (Um X.K tA)) (C6 X.K g) (Du X.K tb) E σ H:=by
 obtain⟨σD,G,D,rs,rg,h,cl⟩:=h;refine⟨σD,G,_,rs,rg,h,fun ds G1 zz H1 x1 rg1 vs dv=>?_⟩;obtain⟨hn2,ls,ei,L⟩:=zz;obtain⟨e1,ok⟩:=Fa rg1 ei dv;refine⟨List.zipWith Io ds vs,e1,by rw[List.length_zipWith,←dv.length,Nat.min_self];exact hn2,fun c hc=>?_,?_⟩
 ·obtain⟨l,_,xs,h1,_⟩:=Dy ok c hc;exact⟨xs,h1⟩
 ·refine Qf (rs.ext x1) rg1 (cl.go x1) (fun H' G' x' rg' s'=>?_) L;obtain⟨_,ok'⟩:=Fa rg' s' (dv.ext x');refine K0 ok' fun z=>?_
  have:=Mi ei
  rw[z] at this;simp at this;omega
theorem V1{g:DTG}{tb:DTS}{tA:DTA}(hp:PassesOwn (model X.prog X.w) X.A X.env X.xe)(hc:X.calm=true)(hm:X.mg "zip" = none)(ha:QA X [a,b] tA)(hg:QG X (.Tuple elts kk tp) g)(hb:QSs X body tb)(hgl:Gl X "zip":=by rfl)(hst:starEach [a,b] X.env=(false,eval a X.env)::starEach [b] X.env:=by rfl)(hpl:(backTo pos (starEach [b] X.env)).any (·.1)=false:=by rfl)(hs:∀x,foldedSetIterable (.Call (.Name "zip" p) [a,b] [] pos) X.env x=pure x:=by intro _;rfl){pos2:Pos} :
  QS X (.For (.Tuple elts kk tp) (.Call (.Name "zip" p) [a,b] [] pos) body [] pos2) (Uj 2 tA g tb):=(Lo hp hc (Rg hgl hm ha hst hpl) hg hb hs).imp fun E σ H h=>W4 (by decide) h
end
def Az(scope:Scope)(cl:List (Str×Addr))(C:Addr):List (Str×Addr):=cellsFrom (C+1) scope.names cl
def Aj(X:Cx)(scope:Scope)(cl:List (Str×Addr))(T M:List Str)(s:Shared)(H:Hp)(fp:List Addr):Cx where
 prog:=X.prog
 w:=X.w
 K:=X.K
 mg:=X.mg
 base:=X.base
 A:=X.A
 N:=T++M
 s₀:=s
 H₀:=H
 env:=compEnvC scope (Az scope cl s.heap.objs.size) s.heap.objs.size X.env
 outer:=X.stack
 stack:=X.stack
 ex:=fp
 fn:=fun x=>scope.names.lookup x == some .cell
 calm:=X.calm
 pn:=[]
 xe:=fun _ _=>False
structure CompOz(X:Cx)(scope:Scope)(cl:List (Str×Addr))(T M:List Str):Prop where
 clos:closureFor scope X.env=pure cl
 kind:scope.kind=.function
 names:∀y∈scope.names,y.2=.local→scope.names.lookup y.1=some .local
 nocl:∀y∈scope.names,y.2=.cell→scope.names.lookup y.1=some .cell
 sub:∀x c,cl.lookup x=some c→X.env.cells.lookup x=some c∧scope.names.lookup x=some .free
 has:∀x,scope.names.lookup x=some .free→∃c,cl.lookup x=some c
 len:M.length=X.N.length
 vis:∀(i:Nat) (x:Str),M[i]? = some x→∀k,scope.names.lookup x=some k→k≠.local∧k≠.cell∧(k=.free→X.N[i]? = some x∧(X.env.kindOf x=some .cell∨X.env.kindOf x=some .free))
theorem B7{scope:Scope}{env:Env}{x:Str}:(relabel scope env).names.lookup x=(scope.names.lookup x).map fun k=>if (k == NameKind.free&&env.scope.kind == .function&&env.kindOf x == some .cell)=true then NameKind.cell else k:=by
 show(scope.names.map fun(n,k)=>if (k == NameKind.free&&env.scope.kind == .function&&env.kindOf n == some .cell) then (n,NameKind.cell) else (n,k)).lookup x=_;generalize scope.names=names
 induction names with
 |nil=>rfl
 |cons y r ih=>
  obtain⟨n,k⟩:=y;rw[List.map_cons]
  by_cases hx:x=n
  ·subst hx
   by_cases hc:(k == NameKind.free&&env.scope.kind == .function&&env.kindOf x == some .cell)=true
   ·simp only[hc,if_true,List.lookup_cons_self,Option.map_some]
   ·simp only[hc,Bool.false_eq_true,if_false,List.lookup_cons_self,Option.map_some]
  ·have e:∀k',List.lookup x ((n,k')::r)=List.lookup x r:=fun k'=>by rw[List.lookup_cons,beq_false_of_ne hx]
   rw[e,←ih]
   by_cases hc:(k == NameKind.free&&env.scope.kind == .function&&env.kindOf n == some .cell)=true
   ·simp only[hc,if_true];rw[List.lookup_cons,beq_false_of_ne hx]
   ·simp only[hc];rw[show(if false=true then (n,NameKind.cell) else (n,k))=(n,k) from rfl,List.lookup_cons,beq_false_of_ne hx]
theorem Bg:∀(names:List (Str×NameKind)) (n:Nat) (acc:List (Str×Addr)),∃own,cellsFrom n names acc=own++acc∧(∀p∈own,(p.1,NameKind.cell)∈names∧n≤p.2)∧∀x,(x,NameKind.cell)∈names→∃c,own.lookup x=some c
 |[],n,acc=>⟨[],rfl,by simp,by simp⟩
 |(y,k)::r,n,acc=>by
  unfold cellsFrom
  by_cases hk:(k == NameKind.cell)=true
  ·rw[if_pos hk];obtain⟨own,e,h1,h2⟩:=Bg r (n+1) ((y,n)::acc);have hk':k=.cell:=by simpa using hk
   subst hk';refine⟨own++[(y,n)],by rw[e];simp,fun p hp=>?_,fun x hx=>?_⟩
   ·rcases List.mem_append.mp hp with hp|hp
    ·exact⟨List.mem_cons_of_mem _ (h1 p hp).1,by have:=(h1 p hp).2;omega⟩
    ·have:p=(y,n):=by simpa using hp
     subst this;exact⟨by simp,Nat.le_refl _⟩
   ·rcases List.mem_cons.mp hx with z|z
    ·cases z;rw[List.lookup_append];cases q:own.lookup y with
     |some c=>exact⟨c,rfl⟩
     |none=>exact⟨n,by simp⟩
    ·obtain⟨c,hc⟩:=h2 x z;exact⟨c,by rw[List.lookup_append,hc];rfl⟩
  ·rw[if_neg hk];obtain⟨own,e,h1,h2⟩:=Bg r n acc;refine⟨own,e,fun p hp=>⟨List.mem_cons_of_mem _ (h1 p hp).1,(h1 p hp).2⟩,fun x hx=>?_⟩;rcases List.mem_cons.mp hx with z|z
   ·cases z;exact absurd rfl hk
   ·exact h2 x z
theorem Cf{X:Cx}{scope:Scope}{cl:List (Str×Addr)}{T M:List Str}(ok:CompOz X scope cl T M)(C:Addr):∀x c,(Az scope cl C).lookup x=some c→(scope.names.lookup x=some .cell∧C+1≤c)∨(cl.lookup x=some c∧scope.names.lookup x=some .free):=by
 intro x c h;obtain⟨own,e,h1,h2⟩:=Bg scope.names (C+1) cl;unfold Az at h;rw[e,List.lookup_append] at h;cases q:own.lookup x with
 |some c'=>
  rw[q] at h;have h:some c'=some c:=h;cases h
  have:=h1 _ (PySem.mem_of_lookup q)
  exact .inl ⟨ok.nocl _ this.1 rfl,this.2⟩
 |none=>
  rw[q] at h;have h:cl.lookup x=some c:=h;exact .inr ⟨h,(ok.sub x c h).2⟩
theorem En{X:Cx}{scope:Scope}{cl:List (Str×Addr)}{T M:List Str}(ok:CompOz X scope cl T M)(C:Addr){x:Str}(hx:scope.names.lookup x=some .free):(Az scope cl C).lookup x=cl.lookup x:=by
 obtain⟨own,e,h1,h2⟩:=Bg scope.names (C+1) cl;unfold Az;rw[e,List.lookup_append];cases q:own.lookup x with
 |some c'=>
  have:=ok.nocl _ (h1 _ (PySem.mem_of_lookup q)).1 rfl
  rw[hx] at this;cases this
 |none=>rfl
theorem Gk{X:Cx}{scope:Scope}{cl:List (Str×Addr)}{T M:List Str}{pins:List (Addr×Obj)}{σ:St}{H:Hp}{s s4:Shared}{fp:List Addr}{m:Str→Option Value}(ok:CompOz X scope cl T M)(I:Inv X pins σ H s)(hfp:∀b∈fp,Ej X pins H b∧b<s.heap.objs.size)(hn:s4.heap.Ns s.heap.objs.size m)(hk:∀b o,s.heap.get? b=some o→s4.heap.get? b=some o)(hos:s4.os=s.os)(hg:s4.gens=s.gens)(hc1:∀x c,(Az scope cl s.heap.objs.size).lookup x=some c→scope.names.lookup x=some .cell→∃v,s4.heap.IsCell c v)(hc2:∀x y c,(Az scope cl s.heap.objs.size).lookup x=some c→(Az scope cl s.heap.objs.size).lookup y=some c→scope.names.lookup x=some .cell→x=y) :
  Inv (Aj X scope cl T M s H fp) [] (O7 T σ) H s4:=by
 have fr:∀{b:Addr},s.heap.objs.size≤b→H b=none:=fun h=>I.hok.fresh h;have old:∀x c,cl.lookup x=some c→c<s.heap.objs.size:=fun x c e=>by
  obtain⟨v,o,ho,_⟩:=I.cell x c (ok.sub x c e).1;exact Heap.lt_size ho
 have lk:=Cf ok s.heap.objs.size;have inj:∀x y c,(Az scope cl s.heap.objs.size).lookup x=some c→(Az scope cl s.heap.objs.size).lookup y=some c→x=y:=fun x y c h1 h2=>by
  rcases lk x c h1 with ⟨a1,a2⟩|⟨a1,a2⟩
  ·exact hc2 x y c h1 h2 a1
  ·rcases lk y c h2 with ⟨b1,b2⟩|⟨b1,b2⟩
   ·exact absurd (Nat.lt_of_lt_of_le (old x c a1) (Nat.le_of_succ_le b2)) (Nat.lt_irrefl _)
   ·exact I.ok.inj x y c (ok.sub x c a1).1 (ok.sub y c b1).1
 have has:∀x,((relabel scope X.env).names.lookup x=some .cell∨(relabel scope X.env).names.lookup x=some .free)→∃c,(Az scope cl s.heap.objs.size).lookup x=some c:=fun x hx=>by
  rw[B7] at hx;cases q:scope.names.lookup x with
  |none=>rw[q] at hx;simp at hx
  |some k=>
   rw[q] at hx;simp only[Option.map_some] at hx
   by_cases hkf:k=.free
   ·subst hkf;obtain⟨c,hc⟩:=ok.has x q;exact⟨c,by rw[En ok _ q];exact hc⟩
   ·have:k=.cell:=by
     have hb:(k == NameKind.free)=false:=by simpa using hkf
     simp only[hb,Bool.false_and,Bool.false_eq_true,if_false,Option.some.injEq] at hx;exact hx.elim id fun z=>absurd z hkf
    subst this;obtain⟨own,e,h1,h2⟩:=Bg scope.names (s.heap.objs.size+1) cl;obtain⟨c,hc⟩:=h2 x (PySem.mem_of_lookup q);exact⟨c,by unfold Az;rw[e,List.lookup_append,hc];rfl⟩
 refine⟨⟨I.ok.mod,ok.kind,I.ok.glob,I.ok.blt,Nat.le_refl _,inj,has,fun x c h h1=>?_,I.ok.hd,I.ok.frames,.inl rfl,fun b hb=>⟨Nat.ne_of_lt (hfp b hb).2,fun x c e=>?_⟩,I.bs,Nat.le_trans I.ok.bsz I.sz,fun b o e hb=>?_,fun b hb z=>?_,I.stack,I.stkFree⟩,
  hos,by rw[hg];exact I.bare,Un.kept hk,⟨m,hn,fun i x v e1 e2 e3=>?_⟩,fun x c e=>?_,fr (Nat.le_refl _),fun x c e=>?_,fun p hp=>absurd (show p∈([]:List (Addr×Obj)) from hp) (by simp),I.hok.kept hk,?_⟩
 ·have h:(scope.names.lookup x == some .cell)=true:=h;have h:scope.names.lookup x=some .cell:=by simpa using h
  rcases lk x c h1 with ⟨_,a2⟩|⟨_,a2⟩
  ·exact Nat.le_of_succ_le a2
  ·rw[h] at a2;cases a2
 ·rcases lk x c e with ⟨_,a2⟩|⟨a1,a2⟩
  ·exact Nat.ne_of_gt (Nat.lt_of_lt_of_le (hfp b hb).2 (Nat.le_of_succ_le a2))
  ·exact(hfp b hb).1.2.2.2.2.1 x c (ok.sub x c a1).1
 ·rcases(hfp b hb).1.2.2.2.1 with z|z
  ·exact I.ok.noex b o e z
  ·exact absurd (Nat.lt_of_lt_of_le (Heap.lt_size e) (Nat.le_trans I.ok.bsz z)) (Nat.lt_irrefl _)
 ·rcases List.mem_cons.mp (I.stkSub b z) with e|e
  ·exact(hfp b hb).1.2.1 e
  ·exact(hfp b hb).1.2.2.1 e
 ·have e1:(T++M)[i]? = some x:=e1;have e2:(List.replicate T.length none++σ)[i]? = some (some v):=e2
  by_cases hi:i<T.length
  ·rw[List.getElem?_append_left (by simpa using hi),List.getElem?_replicate,if_pos hi] at e2
   cases e2
  ·rw[List.getElem?_append_right (by omega)] at e1
   rw[List.getElem?_append_right (by simpa using hi),List.length_replicate] at e2
   have e3:Vis (relabel scope X.env) x:=e3;have hq:∃k,scope.names.lookup x=some k∧k=.free:=by
    cases q:scope.names.lookup x with
    |none=>unfold Vis at e3;rw[B7,q] at e3;simp at e3
    |some k=>
     obtain⟨v1,v2,_⟩:=ok.vis _ x e1 k q;refine⟨k,rfl,?_⟩;unfold Vis at e3;rw[B7,q] at e3
     by_cases hkf:k=.free
     ·exact hkf
     ·have hb:(k == NameKind.free)=false:=by simpa using hkf
      simp only[Option.map_some,hb,Bool.false_and,Bool.false_eq_true,if_false,Option.some.injEq] at e3;rcases e3 with z|z|z
      ·exact absurd z v1
      ·exact absurd z v2
      ·exact z
   obtain⟨k,hq,rfl⟩:=hq;obtain⟨e1,k2⟩:=(ok.vis _ x e1 _ hq).2.2 rfl;obtain⟨m0,hn0,hl0⟩:=I.loc;have v0:Vis X.env.scope x:=k2.elim (fun z=>.inr (.inl z)) fun z=>.inr (.inr z);obtain⟨u,r,l⟩:=hl0 _ x v e1 e2 v0;have k1:(relabel scope X.env).names.lookup x=some .cell∨(relabel scope X.env).names.lookup x=some .free:=by
    rw[B7,hq];simp only[Option.map_some]
    split
    ·exact .inl rfl
    ·exact .inr rfl
   refine⟨u,r,.inr ⟨k1,?_⟩⟩;obtain⟨c,hc⟩:=ok.has x hq;refine⟨c,(En ok _ hq).trans hc,?_⟩;rcases l with ⟨l,_⟩|⟨_,c',hc',hv'⟩
   ·rcases k2 with z|z
    ·rw[l] at z;cases z
    ·rw[l] at z;cases z
   ·rw[(ok.sub x c hc).1] at hc';cases hc';obtain⟨o,ho,hd⟩:=hv';exact⟨o,hk _ _ ho,hd⟩
 ·rcases lk x c e with ⟨a1,a2⟩|⟨a1,a2⟩
  ·exact hc1 x c e a1
  ·obtain⟨v,o,ho,hd⟩:=I.cell x c (ok.sub x c a1).1;exact⟨v,o,hk _ _ ho,hd⟩
 ·rcases lk x c e with ⟨a1,a2⟩|⟨a1,a2⟩
  ·exact fr (Nat.le_of_succ_le a2)
  ·exact I.freeC x c (ok.sub x c a1).1
 ·show(List.replicate T.length none++σ).length=(T++M).length;rw[List.length_append,List.length_append,List.length_replicate,I.len,ok.len]

def M9(P:Program)(w:World)(A:Around)(env:Env)(tg elt:Expr)(ifs:List Expr)(it acc:Value)(X:Value→Shared→Prop)(nxt:Shared→Prop)(v:Value)(t:Shared):Prop:=
 wpAny (model P w) A (letOwnedTupleGo tg it v) (fun _ a=>wpAny (model P w) A (assign tg env v) (fun _ b=>wpAny (model P w) A (Iz ifs env) (fun y c=>
  if y=true then wpAny (model P w) A (eval elt env) (fun e d=>wpAny (model P w) A (call (.builtin "list.append") [acc,e]) (fun _ f=>nxt f) X d) X c else nxt c) X b) X a) X t
theorem Hj{P:Program}{w:World}{A:Around}{R:Result→Shared→Prop}{s:Shared}{elt tg src:Expr}{ifs:List Expr}{sc:Scope}{pl:Pos}{it acc:Value}{env:Env}(V:Nat→Shared→Prop)(go:∀k t,V k t→wpAny (model P w) A (pyNext it) (fun r u=>match r with
   |none=>R (.ok .next) u
   |some v=>M9 P w A env tg elt ifs it acc (notedBy (model P w) A env fun e z=>R (.error e) z) (fun z=>∃m,m<k∧V m z) v u) (notedBy (model P w) A env fun e z=>R (.error e) z) t)(k:Nat)(h0:V k s):codeAny (model P w) A (.compLoop (.ListComp elt [⟨tg,src,ifs,0⟩] sc pl) 0 it acc env) R s:=by
 refine codeAny_loop rfl V (fun k t hv=>(show wpAny _ A ((compTurn (.ListComp elt [⟨tg,src,ifs,0⟩] sc pl) 0 it acc env).onRaise (fun x=>do noteFrame x env;theTreesLotGoes x)) _ _ t from wpAny_noted ?_)) k h0
 rw[compTurn_list];refine wpAny_bind (wpAny_standAt (wpAny_bind (wpAny_mono (go k t hv) (fun r u hr=>?_) fun _ _ z=>z)));cases r with
 |none=>exact wpAny_pure hr
 |some v=>
  refine wpAny_bind (wpAny_mono hr (fun _ a ha=>wpAny_bind (wpAny_mono ha (fun _ b hb=>wpAny_bind (wpAny_mono hb (fun y c hc=>?_) fun _ _ z=>z)) fun _ _ z=>z)) fun _ _ z=>z);cases y with
  |true=>exact wpAny_bind (wpAny_bind (wpAny_mono hc (fun e d hd=>wpAny_bind (wpAny_mono hd (fun _ f hf=>wpAny_pure (wpAny_pure ⟨rfl,hf⟩)) fun _ _ z=>z)) fun _ _ z=>z))
  |false=>refine wpAny_pure ⟨rfl,?_⟩;exact hc
theorem Jh{M:Model}{A:Around}{E:Value→Shared→Prop}{s:Shared}{scope:Scope}{env:Env}{cl:List (Str×Addr)}{Q:Env→Shared→Prop}(hk:scope.kind=.function)(h:∀h':Heap,h'.Ns s.heap.objs.size (fun _=>none)→(∀b o,s.heap.get? b=some o→h'.get? b=some o)→CellsOk h' (s.heap.objs.size+1) (cellsFrom (s.heap.objs.size+1) scope.names [])→
   Q (newEnv scope s.heap.objs.size env.globals (Az scope cl s.heap.objs.size) env.qual none .none (some env) builtinsNs) { s with heap:=h' }) :
  wpAny M A (newFunctionEnv scope env.globals cl [] env.qual none .none (some env)) Q E s:=by
 simp only[newFunctionEnv,Option.isSome_some,if_true];refine wpAny_bind (wpAny_alloc ?_);refine wpAny_bind (wpAny_layCells _ (fun name kind cells=>by cases hkc:kind == NameKind.cell<;>simp) _ _ _ _ ?_)
 have okc:=cellsFrom_ok scope.names (s.heap.push { cls:=.type "dict",data:=.dict #[] }) (s.heap.objs.size+1) [] ⟨fun _ _ hm=>(nomatch hm),List.Pairwise.nil⟩ (by rw[Heap.size_push];exact Nat.le_refl _)
 rw[Heap.size_push] at okc;rw[show({ s with heap:=s.heap.push { cls:=.type "dict",data:=.dict #[] } }:Shared).heap.objs.size=s.heap.objs.size+1 from Heap.size_push ..];refine wpAny_bind ?_;rw[List.forIn_nil];refine wpAny_pure (wpAny_pure ?_);exact h _ ((Heap.Ns.new s.heap (.type "dict")).keeps (pushCells_keeps _ _)) (fun b o e=>pushCells_keeps _ _ b o (Heap.get?_push_of_some _ e)) okc

theorem Cg:∀(names:List (Str×NameKind)) (n:Nat) (acc:List (Str×Addr)),cellsFrom n names acc=cellsFrom n names []++acc
 |[],n,acc=>rfl
 |(y,k)::r,n,acc=>by
  unfold cellsFrom
  split
  ·rw[Cg r (n+1) ((y,n)::acc),Cg r (n+1) [(y,n)]];simp
  ·exact Cg r n acc
theorem Po{scope:Scope}{cl:List (Str×Addr)}{C:Addr}{x:Str}{c:Addr}(h:(Az scope cl C).lookup x=some c)(hn:cl.lookup x=none∨C+1≤c)(old:∀x c,cl.lookup x=some c→c<C):(x,c)∈cellsFrom (C+1) scope.names []:=by
 unfold Az at h;rw[Cg,List.lookup_append] at h;cases q:(cellsFrom (C+1) scope.names []).lookup x with
 |some c'=>
  rw[q] at h;have h:some c'=some c:=h;cases h;exact PySem.mem_of_lookup q
 |none=>
  rw[q] at h;have h:cl.lookup x=some c:=h;rcases hn with z|z
  ·rw[z] at h;cases h
  ·exact absurd (Nat.lt_of_lt_of_le (old x c h) (Nat.le_of_succ_le z)) (Nat.lt_irrefl _)
theorem Me{X:Cx}{scope:Scope}{cl:List (Str×Addr)}{T M:List Str}{C:Addr}{h':Heap}(ok:CompOz X scope cl T M)(okc:CellsOk h' (C+1) (cellsFrom (C+1) scope.names []))(old:∀x c,cl.lookup x=some c→c<C) :
  ∀x c,(Az scope cl C).lookup x=some c→scope.names.lookup x=some .cell→∃v,h'.IsCell c v:=fun x c h hx=>by
 rcases Cf ok C x c h with ⟨_,a2⟩|⟨_,a2⟩
 ·exact⟨_,(okc.empty x c (Po h (.inr a2) old)).1⟩
 ·rw[hx] at a2;cases a2
theorem Md{X:Cx}{scope:Scope}{cl:List (Str×Addr)}{T M:List Str}{C:Addr}{h':Heap}(ok:CompOz X scope cl T M)(okc:CellsOk h' (C+1) (cellsFrom (C+1) scope.names []))(old:∀x c,cl.lookup x=some c→c<C) :
  ∀x y c,(Az scope cl C).lookup x=some c→(Az scope cl C).lookup y=some c→scope.names.lookup x=some .cell→x=y:=fun x y c h1 h2 hx=>by
 rcases Cf ok C x c h1 with ⟨_,a2⟩|⟨_,a2⟩
 ·exact name_of_addr okc.apart (Po h1 (.inr a2) old) (Po h2 (.inr a2) old)
 ·rw[hx] at a2;cases a2
def Pd(n:Nat)(wi:TI)(g:TG)(tf:TT)(te:TE):TE:=fun σ H Q=>wi σ H fun J H1=>∀p,H1 p=none→∃W:Nat→Nat→St→Hp→Prop,(∃m,W 0 m (List.replicate n none++σ) (upd H1 p (.lst [])))∧∀i m σ1 H,W i m σ1 H→
 ((J.stop i H∧Q (.ref p) H)∨(J.go i H∧∃N:St→Hp→Prop,(∀σ' H',N σ' H'→∃m',m'<m∧W (i+1) m' σ' H')∧
  ∀x H',J.yld i H x H'→g x σ1 H' fun σ2 H2=>tf σ2 H2 fun b H3=>if b=true then te σ2 H3 fun y H4=>∃ys,H4 p=some (.lst ys)∧ys.length<sizeLine∧N σ2 (upd H4 p (.lst (ys++[y]))) else N σ2 H3))
theorem D0{X:Cx}{elt iter tg:Expr}{ifs:List Expr}{scope:Scope}{cl:List (Str×Addr)}{pos:Pos}{wi:TI}{g:TG}{tf:TT}{te:TE}{T M:List Str}(hc:X.calm=true)(ok:CompOz X scope cl T M)(hi:PI X tg iter wi)(hg:∀s H fp,PG (Aj X scope cl T M s H fp) tg g)(hf:∀s H fp,PF (Aj X scope cl T M s H fp) ifs tf)(he:∀s H fp,PE (Aj X scope cl T M s H fp) elt te)(hs:∀x,foldedSetIterable iter X.env x=pure x:=by intro _;rfl):PE X (.ListComp elt [⟨tg,iter,ifs,0⟩] scope pos) (Pd T.length wi g tf te):=by
 intro pins s σ H Q I h;rw[eval_ListComp];refine wpAny_comprehension_free (use:=none) (cl:=cl) rfl hs ok.clos ok.kind ok.names (thn (hi pins s σ H _ I h) fun v s1 h1=>thn h1 fun itv s2 h2=>?_);obtain⟨it,fp,tn,J,H2,e,I2,Tn,st2,f2,q⟩:=h2;subst e;have q:=q s2.heap.objs.size (I2.hok.fresh (Nat.le_refl _));refine wpAny_newObj_type ?_
 -- the new list,tracked
 have I3:Inv X pins σ (upd H2 s2.heap.objs.size (.lst [])) { s2 with heap:=s2.heap.push { cls:=.type "list",dict:=none,data:=.seq ([]:List Value).toArray } }:=
  I2.laid (t':=s2.toks) (fun b u e=>Heap.get?_push_of_some _ e) (Nat.le_refl _) ⟨Nat.zero_le _,[],0,.nil,Heap.get?_push_size _ rfl⟩
 generalize hH3:upd H2 s2.heap.objs.size (.lst [])=H3 at I3 q;generalize hs3:({ s2 with heap:=s2.heap.push { cls:=.type "list",dict:=none,data:=.seq ([]:List Value).toArray } }:Shared)=s3 at I3;have fpl:∀b∈fp,b<s2.heap.objs.size:=fun b hb=>let ⟨o,e,_⟩:=Tn.obj 0 _ st2 b hb;Heap.lt_size e;have sz3:s2.heap.objs.size≤s3.heap.objs.size:=by rw[←hs3];show _≤(s2.heap.push _).objs.size;rw[Heap.size_push];exact Nat.le_succ _
 have fok:∀b∈fp,Ej X pins H3 b:=fun b hb=>⟨by rw[←hH3,Ac (Nat.ne_of_lt (fpl b hb))];exact(f2 b hb).1,(f2 b hb).2⟩
 have k23:∀b o,s2.heap.get? b=some o→s3.heap.get? b=some o:=fun b o e=>by rw[←hs3];exact Heap.get?_push_of_some _ e
 have st3:tn 0 s3.heap:=Tn.keep _ _ _ st2 fun b _ o e=>k23 b o e;refine Jh ok.kind (fun h4 hns4 k34 okc=>?_);have oldc:∀x c,cl.lookup x=some c→c<s3.heap.objs.size:=fun x c e=>by
  obtain⟨v,o,ho,_⟩:=I3.cell x c (ok.sub x c e).1;exact Heap.lt_size ho
 have hc1:=Me (h':=h4) ok okc oldc;have hc2:=Md (h':=h4) ok okc oldc;have I4:Inv (Aj X scope cl T M s3 H3 fp) [] (O7 T σ) H3 { s3 with heap:=h4 }:=
  Gk ok I3 (fun b hb=>⟨fok b hb,Nat.lt_of_lt_of_le (fpl b hb) sz3⟩) hns4 k34 rfl rfl hc1 hc2
 have st4:tn 0 h4:=Tn.keep _ _ _ st3 fun b _ o e=>k34 b o e;obtain⟨W,⟨m0,w0⟩,turn⟩:=q;have cfpc:∀b∈fp,∀x c,(Az scope cl s3.heap.objs.size).lookup x=some c→c≠b:=fun b hb x c e=>by
  rcases Cf ok s3.heap.objs.size x c e with ⟨_,a2⟩|⟨a1,_⟩
  ·exact Nat.ne_of_gt (Nat.lt_of_lt_of_le (Nat.lt_of_lt_of_le (fpl b hb) sz3) (Nat.le_of_succ_le a2))
  ·exact(fok b hb).2.2.2.2.1 x c (ok.sub x c a1).1
 have cfp:∀{H':Hp},(∀b∈fp,H' b=none)→∀b∈fp,Ej (Aj X scope cl T M s3 H3 fp) [] H' b:=fun hn b hb=>by
  refine⟨hn b hb,Nat.ne_of_lt (Nat.lt_of_lt_of_le (fpl b hb) sz3),fun z=>?_,.inl hb,fun x c e=>cfpc b hb x c e,fun p hp=>absurd (show p∈([]:List (Addr×Obj)) from hp) (by simp)⟩
  rcases List.mem_cons.mp (I3.stkSub b z) with e|e
  ·exact(fok b hb).2.1 e
  ·exact(fok b hb).2.2.1 e
 have fin:∀(σ':St) (H':Hp) (s':Shared),Inv (Aj X scope cl T M s3 H3 fp) [] σ' H' s'→Q (.ref s2.heap.objs.size) H'→compPost (model X.prog X.w) X.A X.xe none (EP X pins σ Q) (.ref s2.heap.objs.size) s3.heap.objs.size (.ok .next) s':=fun σ' H' s' J q=>by
  obtain⟨m',hm',_⟩:=J.loc;refine⟨m',hm',fun h' hs'=>?_⟩;have J0:Inv X pins σ H' s':=I3.call' (ch:=fp) J.os J.base J.hok J.bare fun b hb=>⟨(fok b hb).2.2.2.1,(fok b hb).2.1,(fok b hb).2.2.2.2.1,(fok b hb).2.2.2.2.2⟩;have nC:=I3.fpOk (H':=H') (Nat.le_refl s3.heap.objs.size) J.free;exact⟨.ref s2.heap.objs.size,H',J0.turned (t':=s'.toks) (fun b o hb e=>(hs'.2 b hb).trans e) nC.1 nC.2.1 nC.2.2.2.1 nC.2.2.2.2.1 nC.2.2.2.2.2,rfl,q⟩
 have loop:∀s5:Shared,s5={ s3 with heap:=h4 }→
   codeAny (model X.prog X.w) X.A (.compLoop (.ListComp elt [⟨tg,iter,ifs,0⟩] scope pos) 0 (.ref it) (.ref s2.heap.objs.size) (compEnvC scope (Az scope cl s3.heap.objs.size) s3.heap.objs.size X.env))
    (compPost (model X.prog X.w) X.A X.xe none (EP X pins σ Q) (.ref s2.heap.objs.size) s3.heap.objs.size) s5:=by
  rintro s5 rfl;refine Hj (fun k s'=>∃i σ' H',Inv (Aj X scope cl T M s3 H3 fp) [] σ' H' s'∧tn i s'.heap∧(∀b∈fp,H' b=none)∧W i k σ' H') ?_ m0 ⟨0,O7 T σ,H3,I4,st4,fun b hb=>(fok b hb).1,w0⟩;rintro k s6 ⟨i,σ6,H6,I6,st6,fr6,w6⟩;rcases turn i k σ6 H6 w6 with ⟨stop,qn⟩|⟨go,N,hN,step⟩
  ·refine wpAny_mono (Tn.done (Aj X scope cl T M s3 H3 fp) rfl rfl rfl hc i [] s6 _ H6 (fun _ _=>False) I6 (cfp fr6) st6 stop) (fun r s7 ⟨hr,I7⟩=>?_) fun _ _ z=>z.elim;subst hr;exact fin _ H6 s7 I7 qn
  ·refine wpAny_mono (Tn.item (Aj X scope cl T M s3 H3 fp) rfl rfl rfl hc i [] s6 _ H6 (fun _ _=>False) I6 (cfp fr6) st6 go) (fun r s7 ⟨u,hr,h7⟩=>?_) fun _ _ z=>z.elim;subst hr;show M9 _ _ _ _ _ _ _ _ _ _ _ _ _;unfold M9;refine wpAny_mono h7 (fun _ s8 h8=>?_) fun _ _ z=>z.elim;obtain⟨x7,H7,I7,r7,y7,st7,fr7⟩:=h8;have I7':=I7.pinned (cfp fr7) (Tn.obj _ _ st7);have back:∀{σ8:St} {H8:Hp} {s9:Shared},Inv (Aj X scope cl T M s3 H3 fp) ([]++C3 fp s8.heap) σ8 H8 s9→tn (i+1) s9.heap∧∀b∈fp,H8 b=none:=fun {σ8 H8 s9} I8=>by
    refine⟨Tn.keep _ _ _ st7 fun b hb o e=>(I8.pin (b,o) (List.mem_append_right _ (List.mem_append_right _ (Bm hb e)))).1,fun b hb=>?_⟩;obtain⟨o,e,d⟩:=Tn.obj _ _ st7 b hb;exact(I8.pin (b,o) (List.mem_append_right _ (List.mem_append_right _ (Bm hb e)))).2.1
   have again:∀{σ9:St} {H9:Hp} {s9:Shared},Inv (Aj X scope cl T M s3 H3 fp) ([]++C3 fp s8.heap) σ9 H9 s9→N σ9 H9→
     ∃m,m<k∧∃i σ' H',Inv (Aj X scope cl T M s3 H3 fp) [] σ' H' s9∧tn i s9.heap∧(∀b∈fp,H' b=none)∧W i m σ' H':=fun {σ9 H9 s9} I9 n9=>by
    obtain⟨m',hm,w9⟩:=hN σ9 H9 n9;obtain⟨b1,b2⟩:=back I9;exact⟨m',hm,i+1,σ9,H9,I9.unpinned,b1,b2,w9⟩
   refine wpAny_mono (hg s3 H3 fp _ s8 σ6 H7 x7 u _ I7' r7 (step x7 H7 y7)) (fun _ s9 ⟨σ9,H9,I9,q9⟩=>?_) fun _ _ z=>z.elim;refine wpAny_mono (hf s3 H3 fp _ s9 σ9 H9 _ I9 q9) (fun okb s10 ⟨H10,I10,q10⟩=>?_) fun _ _ z=>z.elim;cases okb with
   |false=>
    rw[if_neg Bool.false_ne_true] at q10 ⊢;exact again I10 q10
   |true=>
    rw[if_pos rfl] at q10 ⊢;refine wpAny_mono (he s3 H3 fp _ s10 σ9 H10 _ I10 q10) (fun y s11 ⟨yv,H11,I11,ry,ys,e11,l11,n11⟩=>?_) fun _ _ z=>z.elim;refine wpAny_mono (Ge (X:=Aj X scope cl T M s3 H3 fp) _ s11 σ9 H11 (.ref s2.heap.objs.size) [yv] (.ref s2.heap.objs.size) [y] (fun _ H12=>N σ9 H12) I11 rfl (.cons ry .nil) ⟨_,ys,yv,rfl,rfl,e11,l11,n11⟩) (fun _ s12 ⟨_,H12,I12,_,n12⟩=>?_) fun _ _ z=>z.elim;exact again I12 n12
 exact codeAny_compStart_list (loop _ rfl) (Tn.self _ 0 _ _ _ st4 (loop _ rfl))


theorem Dx{X:Cx}{scope:Scope}{T M:List Str}(h1:(scope.names.all fun y=>!(y.2 == .free)||(X.env.cells.lookup y.1).isSome)=true:=by rfl)(h3:scope.kind=.function:=by rfl)(h4:(scope.names.all fun y=>scope.names.lookup y.1 == some y.2)=true:=by rfl)(h6:M.length=X.N.length:=by rfl)(h5:((M.zip X.N).all fun z=>match scope.names.lookup z.1 with|some .local=>false|some .cell=>false|some .free=>z.1 == z.2&&(X.env.kindOf z.1 == some .cell||X.env.kindOf z.1 == some .free)|_=>true)=true:=by rfl) :
  CompOz X scope (Bk X.env.cells scope.names []) T M:=by
 have hl:∀y∈scope.names,scope.names.lookup y.1=some y.2:=fun y hy=>by simpa using List.all_eq_true.mp h4 y hy
 have only:∀(names:List (Str×NameKind)) (cs:List (Str×Addr)) (x:Str) (c:Addr),(Bk X.env.cells names cs).lookup x=some c→(x,NameKind.free)∈names∨cs.lookup x=some c:=by
  intro names
  induction names with
  |nil=>intro cs x c h;exact .inr h
  |cons y r ih=>
   intro cs x c h;obtain⟨n,k⟩:=y;unfold Bk at h
   split at h
   ·rename_i hk
    split at h
    ·rename_i c' hc;rcases ih _ x c h with z|z
     ·exact .inl (List.mem_cons_of_mem _ z)
     ·by_cases hx:x=n
      ·subst hx
       have:k=.free:=by simpa using hk
       subst this;exact .inl (by simp)
      ·rw[List.lookup_cons,beq_false_of_ne hx] at z;exact .inr z
    ·rcases ih _ x c h with z|z
     ·exact .inl (List.mem_cons_of_mem _ z)
     ·exact .inr z
   ·rcases ih _ x c h with z|z
    ·exact .inl (List.mem_cons_of_mem _ z)
    ·exact .inr z
 refine⟨?_,h3,fun y hy z=>by rw[hl y hy,z],fun y hy z=>by rw[hl y hy,z],fun x c e=>⟨Ei _ _ (fun _ _ z=>by simp at z) x c e,?_⟩,fun x hx=>Gm _ _ x h1 (.inl (PySem.mem_of_lookup hx)),h6,fun i x hx k q=>?_⟩
 ·unfold closureFor
  have:=Z8 (env:=X.env) scope.names [] h1
  simp only[bind_pure];exact this
 ·rcases only _ _ x c e with z|z
  ·exact hl _ z
  ·simp at z
 ·have hi:i<X.N.length:=by rw[←h6];exact(List.getElem?_eq_some_iff.mp hx).1
  have hz:(M.zip X.N)[i]? = some (x,X.N[i]):=by rw[List.getElem?_zip_eq_some];exact⟨hx,List.getElem?_eq_getElem hi⟩
  have this:=List.all_eq_true.mp h5 _ (List.mem_of_getElem? hz);dsimp only at this;rw[q] at this;refine⟨fun z=>?_,fun z=>?_,fun z=>?_⟩
  ·subst z;exact absurd this (by simp)
  ·subst z;exact absurd this (by simp)
  ·subst z;simp only[Bool.and_eq_true,beq_iff_eq,Bool.or_eq_true] at this;exact⟨by rw[List.getElem?_eq_getElem hi,←this.1],this.2⟩
theorem Cm{K:W.Frag}{J:It}{n:Nat}{p:Addr}{ds:List D}{same:Gp→Prop}{g:DTG}{tf:DTT}{te:DTE}{Q:DK}{QV:VK}{σD:DSt}{σ:St}{G:Gp}{H:Hp}(rs:RelS K H σD σ)(rg:RelG K H G)(hp:H p=none)(cl:∀d G',Q d G'→Fwd K H G' fun H'=>∀v,DV K H' d v→QV v H')(hJ:∀H' G',Ext H H'→RelG K H' G'→same G'→ItemsX K J H' ds)(h:He n p ds same g tf te σD (Ab G p (.lst [])) Q) :
  ∃W:Nat→Nat→St→Hp→Prop,(∃m,W 0 m (List.replicate n none++σ) (upd H p (.lst [])))∧∀i m σ1 H,W i m σ1 H→
   ((J.stop i H∧QV (.ref p) H)∨(J.go i H∧∃N:St→Hp→Prop,(∀σ' H',N σ' H'→∃m',m'<m∧W (i+1) m' σ' H')∧
    ∀x H',J.yld i H x H'→C6 K g x σ1 H' fun σ2 H2=>Do K tf σ2 H2 fun b H3=>if b=true then Bi K te σ2 H3 fun y H4=>∃ys,H4 p=some (.lst ys)∧ys.length<sizeLine∧N σ2 (upd H4 p (.lst (ys++[y]))) else N σ2 H3)):=by
 obtain⟨P,p0,keep,step,fin⟩:=h;refine⟨fun i m σ' H'=>m=ds.length-i∧i≤ds.length∧RelS K H' (List.replicate n none++σD) σ'∧∃yd G',RelG K H' G'∧Ext H H'∧P i yd G',
  ⟨ds.length,rfl,Nat.zero_le _,(Ri n rs).ext (Ext.fresh hp),[],_,rg.lst hp .nil,Ext.fresh hp,p0⟩,?_⟩
 rintro i m σ1 H1 ⟨rfl,hi,rs1,yd,G1,rg1,x1,p1⟩;obtain⟨sm,gp⟩:=keep i yd G1 hi p1;have I:=hJ H1 G1 x1 rg1 sm
 by_cases hlt:i<ds.length
 ·refine .inr ⟨I.go i hlt,fun σ' H'=>RelS K H' (List.replicate n none++σD) σ'∧∃yd' G',RelG K H' G'∧Ext H H'∧P (i+1) yd' G',fun σ' H' ⟨a2,yd',G',a3,a4,a5⟩=>⟨ds.length-(i+1),by omega,rfl,hlt,a2,yd',G',a3,a4,a5⟩,fun x H' y=>?_⟩
  obtain⟨xe,rge,d,ed,dv⟩:=I.yl i x H' hlt y;refine⟨d,_,G1,_,dv,rs1.ext xe,rge _ rg1,step i d yd G1 ed p1,fun σ2 G2 zz H2 x2 rg2 σ' rs2=>?_⟩;obtain⟨⟨pre,hpre,e2⟩,st2⟩:=zz;have back:∀{H5:Hp} {σ5:St},RelS K H5 σ2 σ5→RelS K H5 (List.replicate n none++σD) σ5:=fun {H5 σ5} r=>by
   refine⟨by rw[←r.1,e2,List.length_append,List.length_append,List.length_replicate,hpre],fun j d e=>?_⟩
   refine r.2 j d ?_
   by_cases hj:j<n
   ·rw[List.getElem?_append_left (by simpa using hj),List.getElem?_replicate,if_pos hj] at e
    cases e
   ·rw[List.getElem?_append_right (by simpa using hj),List.length_replicate] at e
    rw[e2,List.getElem?_append_right (by omega),hpre];exact e
  refine⟨σ2,G2,_,rs2,rg2,st2,fun b G3 h3 H3 x3 rg3=>?_⟩;have x13:=x1.trans (xe.trans (x2.trans x3));dsimp only at h3 ⊢;cases b with
  |false=>
   rw[if_neg Bool.false_ne_true] at h3 ⊢;obtain⟨G4,sb,p4⟩:=h3;exact⟨back (rs2.ext x3),yd,G4,rg3.ext' sb,x13,p4⟩
  |true=>
   rw[if_pos rfl] at h3 ⊢;refine⟨_,G3,_,rs2.ext x3,rg3,h3,fun z G4 zz H4 x4 rg4 v4 d4=>?_⟩;obtain⟨e4,l4,G5,sb,p5⟩:=zz;obtain⟨xs,ex,r⟩:=rg4 p _ e4;exact⟨xs,ex,by rw[←r.length];exact l4,back ((rs2.ext (x3.trans x4)).ext (Ef ex)),_,G5,(rg4.lstw ex (r.append (.cons d4 .nil))).ext' sb,(x13.trans x4).trans (Ef ex),p5⟩
 ·have e:i=ds.length:=by omega
  subst e;exact .inl ⟨I.st,cl _ G1 (fin yd G1 p1) H1 x1 rg1 _ (.ref p)⟩
theorem Db{K:W.Frag}{J:It}{G:Gp}{H:Hp}{ds:List D}(h:Items K J G H ds):ItemsX K J H ds:=⟨h.go,fun i x H' hi y=>by
 obtain⟨e,d,ed,dv⟩:=h.yl i x H' hi y;subst e;exact⟨Ext.refl _,fun _ r=>r,d,ed,dv⟩,h.st⟩
section
variable{X:Cx}{elt iter tg:Expr}{ifs:List Expr}{scope:Scope}{pos:Pos}{ti te:DTE}{tf:DTT}{g:DTG}{T M:List Str}
abbrev QGz(X:Cx)(scope:Scope)(T M:List Str)(tg:Expr)(g:DTG):Prop:=∀s H fp,QG (Aj X scope (Bk X.env.cells scope.names []) T M s H fp) tg g
abbrev QFz(X:Cx)(scope:Scope)(T M:List Str)(ifs:List Expr)(t:DTT):Prop:=∀s H fp,QF (Aj X scope (Bk X.env.cells scope.names []) T M s H fp) ifs t
abbrev QEz(X:Cx)(scope:Scope)(T M:List Str)(e:Expr)(t:DTE):Prop:=∀s H fp,QE (Aj X scope (Bk X.env.cells scope.names []) T M s H fp) e t
def Pp(n:Nat)(ti:DTE)(g:DTG)(tf:DTT)(te:DTE):DTE:=fun σ G Q=>ti σ G fun d G1=>∃ds,Am G1 d=some ds∧∀p,G1 p=none→He n p ds (fun G'=>Am G' d=some ds) g tf te σ (Ab G1 p (.lst [])) Q
theorem Re(hc:X.calm=true)(ok:CompOz X scope (Bk X.env.cells scope.names []) T M)(hi:QE X iter ti)(hg:QGz X scope T M tg g)(hf:QFz X scope T M ifs tf)(he:QEz X scope T M elt te)(hs:∀x,foldedSetIterable iter X.env x=pure x:=by intro _;rfl):QE X (.ListComp elt [⟨tg,iter,ifs,0⟩] scope pos) (Pp T.length ti g tf te):=
 (D0 (g:=C6 X.K g) (tf:=Do X.K tf) (te:=Bi X.K te) hc ok (Lp hi) hg hf he hs).imp fun σ H Q zz=>by
 obtain⟨σD,G,Q',rs,rg,h,cl⟩:=zz;refine⟨σD,G,_,rs,rg,h,fun d G1 zz H1 x1 rg1 v dv=>?_⟩;obtain⟨ds,ei,L⟩:=zz;obtain⟨a,rfl⟩:=Ft ei dv;refine⟨a,rfl,?_⟩;have lp:=fun p hp=>Cm (J:=jOf X.K d a) (rs.ext x1) rg1 hp (fun d' G' q=>(cl d' G' q).go x1) (fun H' G' x' rg' s'=>Db (D1 rg' s' (dv.ext x'))) (L p (rg1.free hp));cases dv with
 |tup e r=>exact .inr ⟨⟨_,.inl (.inl e)⟩,lp⟩
 |lint e=>exact .inl ⟨⟨_,e.sq⟩,lp⟩
 |ref=>
  simp only[Am] at ei
  split at ei
  ·rename_i ds' q;obtain⟨xs,e,r⟩:=rg1 a _ q;exact .inl ⟨⟨_,.inl (.inl e)⟩,lp⟩
  ·cases ei
def Rj(n k:Nat)(tA:DTA)(g:DTG)(tf:DTT)(te:DTE):DTE:=fun σ G Q=>tA σ G fun ds G1=>ds.length=k∧∃ls,Bl G1 ds=some ls∧∀p,G1 p=none→He n p (A6 ls) (fun G'=>Bl G' ds=some ls) g tf te σ (Ab G1 p (.lst [])) Q
theorem Sk{a b:Expr}{tA:DTA}{p p2 tp:Pos}{elts:List Expr}{kk:Nat}(hc:X.calm=true)(ok:CompOz X scope (Bk X.env.cells scope.names []) T M)(hm:X.mg "zip" = none)(ha:QA X [a,b] tA)(hg:QGz X scope T M (.Tuple elts kk tp) g)(hf:QFz X scope T M ifs tf)(he:QEz X scope T M elt te)(hgl:Gl X "zip":=by rfl)(hst:starEach [a,b] X.env=(false,eval a X.env)::starEach [b] X.env:=by rfl)(hpl:(backTo p2 (starEach [b] X.env)).any (·.1)=false:=by rfl)(hs:∀x,foldedSetIterable (.Call (.Name "zip" p) [a,b] [] p2) X.env x=pure x:=by intro _;rfl) :
  QE X (.ListComp elt [⟨.Tuple elts kk tp,.Call (.Name "zip" p) [a,b] [] p2,ifs,0⟩] scope pos) (Rj T.length 2 tA g tf te):=
 (D0 (g:=C6 X.K g) (tf:=Do X.K tf) (te:=Bi X.K te) hc ok (Rg hgl hm ha hst hpl) hg hf he hs).imp fun σ H Q zz=>by
 obtain⟨σD,G,Q',rs,rg,h,cl⟩:=zz;refine⟨σD,G,_,rs,rg,h,fun ds G1 zz H1 x1 rg1 vs dv=>?_⟩;obtain⟨hn2,ls,ei,L⟩:=zz;obtain⟨e1,ok'⟩:=Fa rg1 ei dv;refine⟨List.zipWith Io ds vs,e1,by rw[List.length_zipWith,←dv.length,Nat.min_self];exact hn2,fun c hc=>?_,fun q hq=>?_⟩
 ·obtain⟨l,_,xs,h1,_⟩:=Dy ok' c hc;exact⟨xs,h1⟩
 ·refine Cm (rs.ext x1) rg1 hq (fun d' G' q=>(cl d' G' q).go x1) (fun H' G' x' rg' s'=>?_) (L q (rg1.free hq));obtain⟨_,ok2⟩:=Fa rg' s' (dv.ext x');refine K0 ok2 fun z=>?_
  have:=Mi ei
  rw[z] at this;simp at this;omega
def Rk(n:Nat)(tA:DTA)(g:DTG)(tf:DTT)(te:DTE):DTE:=fun σ G Q=>tA σ G fun ds G1=>∃j,ds=[.int j]∧(-(2 ^ 62)≤j∧j<2 ^ 62)∧∀p,G1 p=none→He n p (J3 j.toNat) (fun _=>True) g tf te σ (Ab G1 p (.lst [])) Q
theorem V6{a:Expr}{tA:DTA}{p p2:Pos}(hc:X.calm=true)(ok:CompOz X scope (Bk X.env.cells scope.names []) T M)(hm:X.mg "range" = none)(ha:QA X [a] tA)(hg:QGz X scope T M tg g)(hf:QFz X scope T M ifs tf)(he:QEz X scope T M elt te)(hgl:Gl X "range":=by rfl)(hst:starEach [a] X.env=[(false,eval a X.env)]:=by rfl)(hs:∀x,foldedSetIterable (.Call (.Name "range" p) [a] [] p2) X.env x=pure x:=by intro _;rfl):QE X (.ListComp elt [⟨tg,.Call (.Name "range" p) [a] [] p2,ifs,0⟩] scope pos) (Rk T.length tA g tf te):=
 (D0 (g:=C6 X.K g) (tf:=Do X.K tf) (te:=Bi X.K te) hc ok (Kw hgl hm ha hst) hg hf he hs).imp fun σ H Q zz=>by
 obtain⟨σD,G,Q',rs,rg,h,cl⟩:=zz;refine⟨σD,G,_,rs,rg,h,fun ds G1 zz H1 x1 rg1 vs dv=>?_⟩;obtain⟨j,ej,⟨j1,j2⟩,L⟩:=zz;subst ej;obtain⟨v,rfl,r⟩:=dv.one;cases r;refine⟨j,rfl,j1,j2,fun p hp=>Cm (J:=Itr 0 j.toNat) (rs.ext x1) rg1 hp (fun d' G' q=>(cl d' G' q).go x1) (fun H' G' x' rg' _=>Db (G:=G') ?_) (L p (rg1.free hp))⟩;refine⟨fun i hi=>by rw[B5] at hi;exact hi,fun i x H2 hi y=>?_,by show j.toNat≤_;rw[B5];exact Nat.le_refl _⟩
 rw[B5] at hi;obtain⟨e1,e2⟩:=y;refine⟨e1,_,Jd hi,?_⟩;rw[e2,Int.zero_add];exact .int _
end
section
variable{X:Cx}
def De(i j:Int):List D:=(List.range (j-i).toNat).map fun k=>D.int (i+(k:Nat))
theorem Bo(i j:Int):(De i j).length=(j-i).toNat:=by simp[De]
theorem Ew{i j:Int}{k:Nat}(h:k<(j-i).toNat):(De i j)[k]? = some (.int (i+(k:Nat))):=by simp[De,h]
def Vb(tA:DTA)(g:DTG)(tb:DTS):DTS:=fun D σ G=>tA σ G fun ds G1=>∃i j,ds=[.int i,.int j]∧(-(2 ^ 62)≤i∧i<2 ^ 62∧-(2 ^ 62)≤j∧j<2 ^ 62)∧J4 (De i j) (fun _=>True) g tb D σ G1
theorem Nj{a b tg:Expr}{body:List Stmt}{pos:Pos}{g:DTG}{tb:DTS}{tA:DTA}{p p2:Pos}(hp:PassesOwn (model X.prog X.w) X.A X.env X.xe)(hc:X.calm=true)(hm:X.mg "range" = none)(ha:QA X [a,b] tA)(hg:QG X tg g)(hb:QSs X body tb)(hgl:Gl X "range":=by rfl)(hst:starEach [a,b] X.env=[(false,eval a X.env),(false,eval b X.env)]:=by rfl)(hst2:starEach [b] X.env=[(false,eval b X.env)]:=by rfl)(hs:∀x,foldedSetIterable (.Call (.Name "range" p) [a,b] [] p2) X.env x=pure x:=by intro _;rfl) :
  QS X (.For tg (.Call (.Name "range" p) [a,b] [] p2) body [] pos) (Vb tA g tb):=(Lo hp hc (Kv hgl hm ha hst hst2) hg hb hs).imp fun E σ H zz=>by
 obtain⟨σD,G,D,rs,rg,h,cl⟩:=zz;refine⟨σD,G,_,rs,rg,h,fun ds G1 zz H1 x1 rg1 vs dv=>?_⟩;obtain⟨i,j,ej,hij,L⟩:=zz;subst ej;obtain⟨v,w,rfl,r,r'⟩:=dv.two;cases r;cases r';refine⟨i,j,rfl,hij,Gg (J:=Itr i (j-i).toNat) (rs.ext x1) rg1 (cl.go x1) (fun H' G' x' rg' _=>?_) L⟩;refine⟨fun k hk=>by rw[Bo] at hk;exact hk,fun k x H2 hk y=>?_,by show(j-i).toNat≤_;rw[Bo];exact Nat.le_refl _⟩
 rw[Bo] at hk;obtain⟨e1,e2⟩:=y;refine⟨e1,_,Ew hk,?_⟩;rw[e2];exact .int _
theorem D6{n:Nat}{p:Addr}{ds:List D}{same:Gp→Prop}{g:DTG}{tf:DTT}{te:DTE}{σ:DSt}{G:Gp}{Q:DK}(st:D→DSt)(f:D→D)(c:D→Bool)(hz:ds.length<sizeLine)(hsm:∀ys,same (Ab G p (.lst ys)))(hst:∀x∈ds,Us n σ (st x)∧∀(G':Gp) (R:DSt→Gp→Prop),R (st x) G'→g x (List.replicate n none++σ) G' R)(hs:∀x ys,x∈ds→ys.length<sizeLine→∀(R1:D→Gp→Prop) (R2:Gp→Prop),(c x=true→R1 (f x) (Ab G p (.lst (ys++[f x]))))→(c x=false→R2 (Ab G p (.lst ys)))→
   tf (st x) (Ab G p (.lst ys)) fun b G3=>if b=true then te (st x) G3 fun y G4=>G4 p=some (.lst ys)∧ys.length<sizeLine∧Fg (R1 y) (Ab G4 p (.lst (ys++[y]))) else Fg R2 G3)(hq:Q (.ref p) (Ab G p (.lst ((ds.filter c).map f)))):He n p ds same g tf te σ (Ab G p (.lst [])) Q:=by
 refine⟨fun i ys G'=>ys=((ds.take i).filter c).map f∧Ab G p (.lst ys)=G',⟨rfl,rfl⟩,?_,?_,?_⟩
 ·rintro i ys _ _ ⟨_,rfl⟩;exact⟨hsm ys,Aa⟩
 ·rintro i x ys _ hx ⟨e,rfl⟩;have hi:=(List.getElem?_eq_some_iff.mp hx).1;have hm:=List.mem_of_getElem? hx;have hl:ys.length<sizeLine:=by
   rw[e,List.length_map];refine Nat.lt_of_le_of_lt (List.length_filter_le _ _) ?_;rw[List.length_take];omega
  have tk:ds.take (i+1)=ds.take i++[x]:=by rw[List.take_add_one,hx];rfl
  refine(hst x hm).2 _ _ ⟨(hst x hm).1,?_⟩;refine hs x ys hm hl (fun y G'=>ys++[y]=((ds.take (i+1)).filter c).map f∧Ab G p (.lst (ys++[y]))=G') (fun G'=>ys=((ds.take (i+1)).filter c).map f∧Ab G p (.lst ys)=G') (fun hc=>⟨?_,rfl⟩) (fun hc=>⟨?_,rfl⟩)
  ·rw[tk,List.filter_append,List.map_append,←e];simp[hc]
  ·rw[tk,List.filter_append,List.map_append,←e];simp[hc]
 ·rintro ys _ ⟨e,rfl⟩;rw[List.take_length] at e;rw[e];exact hq
end
def Pn:Expr→Bool
 |.Starred ..=>false
 |_=>true
theorem Sb{e:Expr}{es:List Expr}{env:Env}(h:Pn e=true):starEach (e::es) env=(false,eval e env)::starEach es env:=by
 cases e<;>first|rfl|exact absurd h (by simp[Pn])
theorem qa_consP{X:Cx}{e:Expr}{es:List Expr}{te:DTE}{tA:DTA}(ha:QE X e te)(hr:QA X es tA)(h:Pn e=true:=by rfl):QA X (e::es) (E7 te tA):=Ic ha hr (Sb h)
def X6(ta:DTE):DTE:=fun σ G Q=>ta σ G fun x G1=>∃i,x=.int i∧Q (.int (-i)) G1
theorem Ue{X:Cx}{a:Expr}{ta:DTE}{pos:Pos}(ha:QE X a ta):QE X (.UnaryOp .USub a pos) (X6 ta):=(pe_un Abj ha).imp fun σ H Q zz=>by
 obtain⟨σD,G,Q',rs,rg,h,cl⟩:=zz;refine⟨σD,G,_,rs,rg,h,fun d G1 zz H1 x1 rg1 v dv=>?_⟩;obtain⟨i,e,h1⟩:=zz;subst e;cases dv;exact⟨i,rfl,cl _ G1 h1 H1 x1 rg1 _ (.int _)⟩
def tPar3(i j l:Nat)(ta:TA):TS:=fun D σ H=>ta σ H fun vs H1=>∃v w z,vs=[v,w,z]∧D.nx (((σ.set i (some v)).set j (some w)).set l (some z)) H1
theorem Yx{X:Cx}{pos:Pos}{i j l:Nat}{x y z:Str}{a b c:Expr}{ta:TA}{px py pz pt:Pos}{kt k2 pt2}(hc:X.calm=true)(hN:X.N.Nodup)(hi:X.N[i]? = some x)(hj:X.N[j]? = some y)(hl:X.N[l]? = some z)(hij:i≠j)(hil:i≠l)(hjl:j≠l)(hx:X.env.scope.names.lookup x=some .local)(hy:X.env.scope.names.lookup y=some .local)(hzz:X.env.scope.names.lookup z=some .local)(ha:PA X [a,b,c] ta)(hw:swappedStores [.Tuple [.Name x px,.Name y py,.Name z pz] kt pt] (.Tuple [a,b,c] k2 pt2) X.env=pure (some [x,y,z]))(hs:swapsWithSole [.Tuple [.Name x px,.Name y py,.Name z pz] kt pt] (.Tuple [a,b,c] k2 pt2) pos.line X.env=pure false:=by rfl) :
  PS X (.Assign [.Tuple [.Name x px,.Name y py,.Name z pz] kt pt] (.Tuple [a,b,c] k2 pt2) pos) (tPar3 i j l ta):=by
 intro pins s σ H D I h;rw[exec_Assign_arm];refine wpAny_bind (wpAny_standAt ?_);rw[hs];refine wpAny_bind (wpAny_pure ?_);rw[if_neg (by decide)]
 refine wpAny_bind (Tuple_ (thn (ha _ pins s σ H _ I h) fun us s1 zz=>?_));obtain⟨vs,H1,I1,r1,q1⟩:=zz;obtain⟨v,w,u,e1,q1⟩:=q1;subst e1;obtain⟨u1,u2,u3,rfl,rv,rw',rz⟩:=vals3 r1;refine wpAny_newObj_type ?_ (by show 3≤sizeLine;decide)
 have I2:Inv X pins σ H1 { s1 with heap:=s1.heap.push { cls:=.type "tuple",data:=.seq [u1,u2,u3].toArray } }:=I1.kept (t':=s1.toks) fun b o e=>Heap.get?_push_of_some _ e;rw[hw];refine wpAny_bind (wpAny_pure ?_);show wpAny (model X.prog X.w) X.A (do rule "assign.swapped-stores";let items ←unpackItems (.ref s1.heap.objs.size) 3 none;assignInOrder [fun v=>bindName X.env z v,fun v=>bindName X.env y v,fun v=>bindName X.env x v] items.reverse;pure Flow.next) _ _ _
 refine wpAny_bind (wpAny_rule (wpAny_bind (unpackItems_tuple (items:=#[u1,u2,u3]) (I.ok.hd hc) (IsTup.new s1.heap _) fun h' hx'=>?_)));have I3:=I2.kept (h':=h') (t':=s1.toks) fun b o e=>hx' b o (Nat.ne_of_lt (Heap.lt_size e)) e;show wpAny _ _ (assignInOrder [fun v=>bindName X.env z v,fun v=>bindName X.env y v,fun v=>bindName X.env x v] [u3,u2,u1] >>= fun _=>pure Flow.next) _ _ _;refine wpAny_bind (assignInOrder_cons (wpAny_bindName (B6 I3 hN hl (.inl hzz) rz (fun s2 I4=>?_) (.inr hzz))));refine assignInOrder_cons (wpAny_bindName (B6 I4 hN hj (.inl hy) rw' (fun s3 I5=>?_) (.inr hy)));refine assignInOrder_cons (wpAny_bindName (B6 I5 hN hi (.inl hx) rv (fun s4 I6=>assignInOrder_nil (wpAny_pure ?_)) (.inr hx)));have e:(((σ.set l (some u)).set j (some w)).set i (some v))=((σ.set i (some v)).set j (some w)).set l (some u):=by
  rw[List.set_comm _ _ (Ne.symm hij),List.set_comm (i:=l) (j:=i) _ _ (Ne.symm hil),List.set_comm (i:=l) (j:=j) _ _ (Ne.symm hjl)]
 rw[e] at I6;exact⟨_,H1,I6,q1⟩
def Aar(i j l:Nat)(ta:DTA):DTS:=fun D σ G=>ta σ G fun vs G1=>∃v w z,vs=[v,w,z]∧D.nx (((σ.set i (some v)).set j (some w)).set l (some z)) G1
theorem DVs.three{K:W.Frag}{H:Hp}{d e f:D}{vs:List V}(r:DVs K H [d,e,f] vs):∃v w u,vs=[v,w,u]∧DV K H d v∧DV K H e w∧DV K H f u:=by
 cases r with|cons h t=>cases t with|cons h' t'=>cases t' with|cons h2 t2=>cases t2;exact⟨_,_,_,rfl,h,h',h2⟩
theorem Yo{X:Cx}{pos:Pos}{i j l:Nat}{x y z:Str}{a b c:Expr}{tA:DTA}{px py pz pt:Pos}{kt k2 pt2}(hc:X.calm=true)(hN:X.N.Nodup)(ha:QA X [a,b,c] tA)(hi:X.N[i]? = some x:=by rfl)(hj:X.N[j]? = some y:=by rfl)(hl:X.N[l]? = some z:=by rfl)(hij:i≠j:=by decide)(hil:i≠l:=by decide)(hjl:j≠l:=by decide)(hx:X.env.scope.names.lookup x=some .local:=by rfl)(hy:X.env.scope.names.lookup y=some .local:=by rfl)(hz:X.env.scope.names.lookup z=some .local:=by rfl)(hw:swappedStores [.Tuple [.Name x px,.Name y py,.Name z pz] kt pt] (.Tuple [a,b,c] k2 pt2) X.env=pure (some [x,y,z]):=by rfl)(hs:swapsWithSole [.Tuple [.Name x px,.Name y py,.Name z pz] kt pt] (.Tuple [a,b,c] k2 pt2) pos.line X.env=pure false:=by rfl) :
  QS X (.Assign [.Tuple [.Name x px,.Name y py,.Name z pz] kt pt] (.Tuple [a,b,c] k2 pt2) pos) (Aar i j l tA):=(Yx hc hN hi hj hl hij hil hjl hx hy hz ha hw hs).imp fun E σ H zz=>by
 obtain⟨σD,G,D,rs,rg,h,cl⟩:=zz;refine⟨σD,G,_,rs,rg,h,fun ds G1 zz H1 x1 rg1 vs dv=>?_⟩;obtain⟨d1,d2,d3,e,h1⟩:=zz;subst e;obtain⟨v,w,u,rfl,r1,r2,r3⟩:=dv.three;exact⟨v,w,u,rfl,cl.nx _ G1 h1 H1 x1 rg1 _ ((((rs.ext x1).set r1 i).set r2 j).set r3 l)⟩
theorem ex3{p:D→D→D→Prop}{j k l:D}:(∃x y z,[j,k,l]=[x,y,z]∧p x y z)↔p j k l:=⟨fun⟨_,_,_,e,h⟩=>by cases e;exact h,fun h=>⟨j,k,l,rfl,h⟩⟩
def Ris(xs:Array Nat):Prop:=∀i j,i<j→j<xs.size→∀d,xs.getD i d<xs.getD j d
theorem ins_get{α:Type}{xs:Array α}{p:Nat}{x:α}(hp:p≤xs.size)(i:Nat):(SetTable.insertAt xs p x)[i]? = if i<p then xs[i]? else if i=p then some x else xs[i-1]?:=by
 unfold SetTable.insertAt;have e1:((xs.extract 0 p).push x).size=p+1:=by simp;omega
 rw[Array.getElem?_append,e1]
 by_cases h1:i<p
 ·rw[if_pos (by omega),if_pos h1,Array.getElem?_push,if_neg (by simp;omega),Array.getElem?_extract,if_pos (by omega),Nat.zero_add]
 ·rw[if_neg h1]
  by_cases h2:i=p
  ·subst h2;rw[if_pos (by omega),if_pos rfl,Array.getElem?_push,if_pos (by simp;omega)]
  ·rw[if_neg (by omega),if_neg h2,Array.getElem?_extract]
   by_cases h3:i-1<xs.size
   ·rw[if_pos (by omega)];congr 1;omega
   ·rw[if_neg (by omega),Array.getElem?_eq_none (by omega)]
structure TOk(w:World)(t:SetTable):Prop where
 ris:Ris t.place
 dum:t.dummies=#[]
 led:w.params.followText "set-order" = true∨t.led=true
def eI(e:Int×Value):Int:=match e.2 with|.int i _=>i|_=>0
structure SOk(P:Program)(w:World)(es:Array (Int×Value))(t:SetTable)(ks:List Int):Prop where
 tok:TOk w t
 fit:t.fits es.size=true
 el:∀e∈es.toList,∃i u,e=((intKind P w).hash i,Value.int i u)
 nd:(es.toList.map eI).Nodup
 mem:∀k,k∈es.toList.map eI↔k∈ks
 sz:es.size<scanBound
section
variable{P:Program}{w:World}{A:Around}{E:Value→Shared→Prop}{s:Shared}
end
section
variable{P:Program}{w:World}{A:Around}{R:Result→Shared→Prop}{E:Value→Shared→Prop}{s:Shared}
end
section
variable{P:Program}{w:World}{A:Around}{E:Value→Shared→Prop}{s:Shared}
end
structure SBase(w:World)(es:Array (Int×Value))(t:SetTable):Prop where
 tok:TOk w t
 fit:t.fits es.size=true
 sz:es.size<scanBound
theorem SOk.base{P:Program}{w:World}{es:Array (Int×Value)}{t:SetTable}{ks:List Int}(h:SOk P w es t ks):SBase w es t:=⟨h.tok,h.fit,h.sz⟩
section
variable{P:Program}{w:World}{A:Around}{E:Value→Shared→Prop}{s:Shared}
theorem Iw{α:Type}{c:Prop}[Decidable c]{a b:Sem α}{Q:α→Shared→Prop}{M:Model}(h:¬c)(k:wpAny M A b Q E s):wpAny M A (if c then a else b) Q E s:=by rw[if_neg h];exact k
theorem Ku{α:Type}:∀(xs:List α) (i:Nat) (h:i<xs.length),(xs[i]::xs.eraseIdx i).Perm xs
 |[],i,h=>absurd h (by simp)
 |x::r,0,h=>List.Perm.refl _
 |x::r,i+1,h=>by
  have:=Ku r i (by simpa using h)
  exact(List.Perm.swap x _ _).trans (List.Perm.cons x this)
theorem pick_go{α:Type}(next:Nat→Nat):∀(n k:Nat) (left:List α) (out:Array α),left.length=n→(pickOrder.go next n k left out).toList.Perm (out.toList++left)
 |0,k,left,out,e=>by
  cases left with
  |nil=>rw[pickOrder.go];simp
  |cons x r=>simp at e
 |n+1,k,left,out,e=>by
  rw[pickOrder.go];have hi:next k % left.length<left.length:=Nat.mod_lt _ (by omega)
  rw[List.getElem?_eq_getElem hi];dsimp only;refine(pick_go next n (k+1) _ _ (by rw[List.length_eraseIdx_of_lt hi];omega)).trans ?_
  rw[Array.toList_push,List.append_assoc];exact List.Perm.append_left _ (Ku _ _ hi)
end
section
variable{X:Cx}{e:Expr}{te:DTE}{pos:Pos}
theorem Gi:∀{ns:List Int} {its:List Value},Vals (ns.map V.int) its→IntsAre its ns
 |[],_,.nil=>.nil
 |n::r,_,.cons ⟨t,rfl⟩ h=>.cons n t (Gi h)
theorem vals_ints:∀{ns:List Int} {its:List Value},IntsAre its ns→Vals (ns.map V.int) its
 |_,_,.nil=>.nil
 |_,_,.cons n t h=>.cons ⟨t,rfl⟩ (vals_ints h)
theorem Jk{K:W.Frag}{H:Hp}:∀{ns:List Int} {xs:List V},DVs K H (ns.map D.int) xs→xs=ns.map V.int
 |[],_,.nil=>rfl
 |_::_,_,.cons (.int _) t=>by rw[Jk t];rfl
end
section
variable{P:Program}{w:World}{A:Around}{R:Result→Shared→Prop}
end
section
variable{X:Cx}
end
section
variable{X:Cx}{a:Expr}{ta:DTE}{pos:Pos}
end
structure FnIs(K:W.Frag)(x:Str)(st:Stmt):Prop where
 ex:∃f fd,Fun K x x st f fd∧W.nsIn K mainGlobals x=some (some (.ref f))∧W.keepIn K (.ref f)=true
theorem Af{K:W.Frag}{x:Str}{st:Stmt}{f:Addr}{od an:Option Addr}{sl:Array (Option Value)}{oc kV dc pm cd ct:Value}(a:W.nsIn K mainGlobals x=some (some (.ref f)))(l:K.lookup f=some ⟨oc,od,.func (W.fnOf x x (defArgs st) (defBody st) (defScope st) .none kV dc pm an cd ct),sl⟩)(c:W.codeIn K cd x=true)(k:W.keepIn K (.ref f)=true):FnIs K x st:=
 ⟨f,_,Pr l c k,a,k⟩
theorem An{P:Program}{w:World}{K:W.Frag}{h:Heap}{mg:Str→Option Value}{base:Heap}{x:Str}{st:Stmt}{k:Nat}{ps:List Str}{sp:DSp}(I:FnIs K x st)(X:K.In h)(G:h.Ns mainGlobals mg)(hb:∀f fd,Fun K x x st f fd→Binds K fd ps [])(ok:∀f fd,Fun K x x st f fd→FnOk P w K mg base CX0 k f fd ps (liftSp K sp)):Def P w K mg base CX0 k x ps sp:=by
 obtain⟨f,fd,F,a,kp⟩:=I.ex;exact⟨f,fd,ok f fd F,W.mg_of X G a,kp,hb f fd F⟩
def Dn(f:Str)(d:D):List (Str×D)→List (Str×D)
 |[]=>[(f,d)]
 |(g,e)::r=>if g=f then (g,d)::r else (g,e)::Dn f d r
section
variable{X:Cx}{o e:Expr}{to te:DTE}{pos pos':Pos}{f:Str}{C:Addr}
theorem Ky{K:W.Frag}{H:Hp}{f:Str}{d:D}:∀{fs:List (Str×D)} {ks:List (Str×V)},Paired (fun(p:Str×D) (q:Str×V)=>p.1=q.1∧DV K H p.2 q.2) fs ks→fs.lookup f=some d→∃v,ks.lookup f=some v∧DV K H d v
 |[],_,.nil,h=>by cases h
 |(g,x)::r,_,.cons (b:=(g',v)) hd tl,h=>by
  obtain⟨e,hv⟩:=hd;cases e;rw[List.lookup_cons] at h ⊢;cases hb:f == g with
  |true=>rw[hb] at h;cases h;exact⟨v,rfl,hv⟩
  |false=>rw[hb] at h;exact Ky tl h
theorem Nm{K:W.Frag}{H:Hp}{f:Str}{d:D}{v:V}(hd:DV K H d v):∀{fs:List (Str×D)} {ks:List (Str×V)},Paired (fun(p:Str×D) (q:Str×V)=>p.1=q.1∧DV K H p.2 q.2) fs ks→Paired (fun(p:Str×D) (q:Str×V)=>p.1=q.1∧DV K H p.2 q.2) (Dn f d fs) (Dp f v ks)
 |[],_,.nil=>.cons ⟨rfl,hd⟩ .nil
 |(g,x)::r,_,.cons (b:=(g',u)) h tl=>by
  obtain⟨e,hv⟩:=h;cases e;show Paired _ (if g=f then (g,d)::r else (g,x)::Dn f d r) (if g=f then _ else _)
  by_cases hg:g=f
  ·rw[if_pos hg,if_pos hg];exact .cons ⟨by first|rfl|exact hg,hd⟩ tl
  ·rw[if_neg hg,if_neg hg];exact .cons ⟨rfl,hv⟩ (Nm hd tl)
theorem Nn{α β:Type}{R:α→β→Prop}{xs:List α}{ys:List β}(h:Paired R xs ys):xs.length=ys.length:=by
 induction h with
 |nil=>rfl
 |cons _ _ ih=>exact congrArg (· + 1) ih
def nFld(C:Addr)(to:DTE)(f:Str):DTE:=fun σ G Q=>to σ G fun x G1=>∃p,x=.ref p∧∃fs,G1 p=some (.ins C fs)∧∃d,fs.lookup f=some d∧Q d G1
theorem q_fld(hc:Cls X.K C)(hn:NoAttr X.K C f)(ho:QE X o to)(hb:attributeBase o f X.env (eval o X.env)=eval o X.env:=by rfl):QE X (.Attribute o f pos) (nFld C to f):=(Ac2 ho hb).imp fun σ H Q zz=>by
 obtain⟨σD,G,Q',rs,rg,h,cl⟩:=zz;refine⟨σD,G,_,rs,rg,h,fun d G1 zz H1 x1 rg1 v dv=>?_⟩;obtain⟨p,ep,fs,eg,d',el,q⟩:=zz;subst ep;cases dv;obtain⟨dx,ks,eh,pr⟩:=rg1 p _ eg;obtain⟨v,ev,dv⟩:=Ky pr el;exact⟨p,C,dx,ks,v,rfl,eh,hc,hn,ev,cl _ _ q _ x1 rg1 _ dv⟩
def Aaq(C:Addr)(to te:DTE)(f:Str):DTS:=fun D σ G=>te σ G fun y G1=>to σ G1 fun x G2=>∃p,x=.ref p∧∃fs,G2 p=some (.ins C fs)∧fs.length<1000∧D.nx σ (Ab G2 p (.ins C (Dn f y fs)))
theorem RelG.insW{K:W.Frag}{H:Hp}{G:Gp}(r:RelG K H G){p dx:Addr}{C:Addr}{ks ks':List (Str×V)}{fs':List (Str×D)}(e:H p=some (.ins C dx ks))(pr:Paired (fun(p:Str×D) (q:Str×V)=>p.1=q.1∧DV K H p.2 q.2) fs' ks'):RelG K (upd H p (.ins C dx ks')) (Ab G p (.ins C fs')):=by
 have x:Ext H (upd H p (.ins C dx ks')):=Ext.write e (fun xs z=>by cases z) (fun ob w z=>by cases z)
 intro a o ea
 by_cases ha:a=p
 ·subst ha;rw[Aa] at ea;cases ea;exact⟨dx,ks',Ae,L2.Paired.mapP pr fun _ _ z=>⟨z.1,z.2.ext x⟩⟩
 ·rw[Ad ha] at ea;exact(r a o ea).upd x (.inr ha)
theorem U0(hc:Cls X.K C)(hn:NoAttr X.K C f)(ho:QE X o to)(he:QE X e te)(hs:swapsWith e (some (.Attribute o f pos')) pos.line X.env=pure false:=by rfl):QS X (.Assign [.Attribute o f pos'] e pos) (Aaq C to te f):=(Acp ho he hs).imp fun E σ H zz=>by
 obtain⟨σD,G,D,rs,rg,h,cl⟩:=zz;refine⟨σD,G,_,rs,rg,h,fun y G1 h1 H1 x1 rg1 yv dy=>?_⟩;refine⟨σD,G1,_,rs.ext x1,rg1,h1,fun x G2 zz H2 x2 rg2 v dv=>?_⟩;obtain⟨p,ep,fs,eg,hl,q⟩:=zz;subst ep;cases dv;obtain⟨dx,ks,eh,pr⟩:=rg2 p _ eg;have pr2:=Nm (f:=f) (dy.ext x2) pr;have x3:Ext H2 (upd H2 p (.ins C dx (Dp f yv ks))):=Ext.write eh (fun xs z=>by cases z) (fun ob w z=>by cases z)
 exact⟨p,C,dx,ks,rfl,eh,hc,hn,by rw[←Nn pr];exact hl,cl.nx _ _ q _ (x1.trans (x2.trans x3)) (rg2.insW eh pr2) _ (rs.ext (x1.trans (x2.trans x3)))⟩
def Aau(C:Addr)(sp:DSp)(t:DTA):DTE:=fun σ G Q=>t σ G fun ds G1=>∀p,G1 p=none→sp (.ref p::ds) (Ab G1 p (.ins C [])) (fun d G2=>d=.non∧Q (.ref p) G2) noX
theorem RelG.insN{K:W.Frag}{H:Hp}{G:Gp}(r:RelG K H G){p dx:Addr}{C:Addr}(hp:H p=none)(hd:H dx=none)(hne:dx≠p):RelG K (upd (upd H dx (.own p)) p (.ins C dx [])) (Ab G p (.ins C [])):=by
 have h1:(upd H dx (.own p)) p=none:=by rw[Ac hne.symm];exact hp
 have r1:RelG K (upd H dx (.own p)) G:=r.tup hd;intro a o ea
 by_cases ha:a=p
 ·subst ha;rw[Aa] at ea;cases ea;exact⟨dx,[],Ae,.nil⟩
 ·rw[Ad ha] at ea;exact(r1 a o ea).upd (Ext.fresh h1) (.inl h1)
theorem Acf{k:Nat}{fi:Addr}{fd:FuncData}{x:Str}{ps:List Str}{sp:DSp}{es:List Expr}{p:Pos}{tA:DTA}(M:Mk X.K C fi)(F:FnOk X.prog X.w X.K X.mg X.base CX0 k fi fd ps (liftSp X.K sp))(hr:Room (k+1) X.A)(hm:X.mg x=some (.ref C))(hb:Binds X.K fd ps [])(ha:QA X (e::es) tA)(hg:Gl X x:=by rfl)(hdb:(x == ("__debug__" : Str))=false:=by decide)(he:starEach (e::es) X.env=(false,eval e X.env)::starEach es X.env:=by rfl)(hpl:(backTo pos (starEach es X.env)).any (·.1)=false:=by rfl) :
  QE X (.Call (.Name x p) (e::es) [] pos) (Aau C sp tA):=by
 refine(Y2 (ds:=[]) (dvs:=[]) (E:=fun _ _ _=>False) M F hr hg hm hb .nil (fun _ _ _ _ _ _ _ z=>z.elim) ha hdb he hpl).imp fun σ H Q zz=>?_;obtain⟨σD,G,Q',rs,rg,h,cl⟩:=zz;refine⟨σD,G,_,rs,rg,h,fun ds G1 h1 H1 x1 rg1 vs dv=>fun a dx ha hdx hne=>?_⟩;rw[List.append_nil];have h1':(upd H1 dx (.own a)) a=none:=by rw[Ac hne.symm];exact ha
 have x2:Ext H1 (upd (upd H1 dx (.own a)) a (.ins C dx [])):=(Ext.fresh hdx).trans (Ext.fresh h1');refine⟨.ref a::ds,_,_,noX,.cons (.ref a) (dv.ext x2),rg1.insN ha hdx hne,h1 a (rg1.free ha),fun d G' ⟨ed,q⟩ H2 x3 rg2 v dv2=>?_,fun c G' z=>z.elim⟩;subst ed;cases dv2;exact⟨rfl,cl _ _ q _ (x1.trans (x2.trans x3)) rg2 _ (.ref a)⟩
end
section
variable{X:Cx}{pins:List (Addr×Obj)}{σ:St}{H:Hp}{s:Shared}{A:Around}{E:Value→Shared→Prop}
theorem Th{a:Addr}{kvs:List (Key×V)}{k:Key}{v:V}{u r:Value}{Q:Unit→Shared→Prop}(I:Inv X pins σ H s)(e:H a=some (.dK kvs))(l:kvs.length<sizeLine)(ry:RelV (kV k) u)(rv:RelV v r)(h:∀s',Inv X pins σ (upd H a (.dK (E4 kvs k v))) s'→Q () s'):wpAny (model X.prog X.w) A (dictSet a u r) Q E s:=by
 obtain⟨z,hd,vs,rel,dd⟩:=Km I.hok e;have hz:vs.length≤sizeLine:=by rw[←rel.length];exact z
 have hl:(E4 kvs k v).length≤sizeLine:=by have:=Oo kvs k v;omega
 unfold dictSet;refine wpAny_holding (wpAny_bind ((Ar X.prog X.w).pyHash (Kl ry) ?_));refine wpAny_dictSetHashed_pairs (hsz:=hz) (Kl ry) dd fun h' dd' hs=>h _ ?_;have he:∃q,h'.get? a=some q:=let ⟨q,_,_,hq,_⟩:=dd';⟨q,hq⟩;exact Z5 (I.tok _) (by rw[e];exact True.intro) hs he (Ad9 hl hd (rel.put k rv) dd')
end
def Uv(P:Program)(w:World)(A:Around)(env:Env)(tg kx vx:Expr)(ifs:List Expr)(it:Value)(acc:Addr)(X:Value→Shared→Prop)(nxt:Shared→Prop)(v:Value)(t:Shared):Prop:=
 wpAny (model P w) A (letOwnedTupleGo tg it v) (fun _ a=>wpAny (model P w) A (assign tg env v) (fun _ b=>wpAny (model P w) A (Iz ifs env) (fun y c=>
  if y=true then wpAny (model P w) A (eval kx env) (fun e d=>wpAny (model P w) A (eval vx env) (fun e2 d2=>wpAny (model P w) A (dictSet acc e e2) (fun _ f=>nxt f) X d2) X d) X c else nxt c) X b) X a) X t
theorem Op{P:Program}{w:World}{A:Around}{R:Result→Shared→Prop}{s:Shared}{kx vx tg src:Expr}{ifs:List Expr}{sc:Scope}{pl:Pos}{it:Value}{acc:Addr}{env:Env}(V:Nat→Shared→Prop)(go:∀k t,V k t→wpAny (model P w) A (pyNext it) (fun r u=>match r with
   |none=>R (.ok .next) u
   |some v=>Uv P w A env tg kx vx ifs it acc (notedBy (model P w) A env fun e z=>R (.error e) z) (fun z=>∃m,m<k∧V m z) v u) (notedBy (model P w) A env fun e z=>R (.error e) z) t)(k:Nat)(h0:V k s):codeAny (model P w) A (.compLoop (.DictComp kx vx [⟨tg,src,ifs,0⟩] sc pl) 0 it (.ref acc) env) R s:=by
 refine codeAny_loop rfl V (fun k t hv=>(show wpAny _ A ((compTurn (.DictComp kx vx [⟨tg,src,ifs,0⟩] sc pl) 0 it (.ref acc) env).onRaise (fun x=>do noteFrame x env;theTreesLotGoes x)) _ _ t from wpAny_noted ?_)) k h0
 rw[compTurn_dict];refine wpAny_bind (wpAny_standAt (wpAny_bind (wpAny_mono (go k t hv) (fun r u hr=>?_) fun _ _ z=>z)));cases r with
 |none=>exact wpAny_pure hr
 |some v=>
  refine wpAny_bind (wpAny_mono hr (fun _ a ha=>wpAny_bind (wpAny_mono ha (fun _ b hb=>wpAny_bind (wpAny_mono hb (fun y c hc=>?_) fun _ _ z=>z)) fun _ _ z=>z)) fun _ _ z=>z);cases y with
  |true=>exact wpAny_bind (wpAny_bind (wpAny_mono hc (fun e d hd=>wpAny_bind (wpAny_holding (wpAny_mono hd (fun e2 d2 hd2=>wpAny_bind (wpAny_standAt (wpAny_holding (wpAny_mono hd2 (fun _ f hf=>wpAny_pure ⟨rfl,hf⟩) fun _ _ z=>z)))) fun _ _ z=>z))) fun _ _ z=>z))
  |false=>refine wpAny_pure ⟨rfl,?_⟩;exact hc
def Q6(n:Nat)(wi:TI)(g:TG)(tf:TT)(tk tv:TE):TE:=fun σ H Q=>wi σ H fun J H1=>∀p,H1 p=none→∃W:Nat→Nat→St→Hp→Prop,(∃m,W 0 m (List.replicate n none++σ) (upd H1 p (.dK [])))∧∀i m σ1 H,W i m σ1 H→
 ((J.stop i H∧Q (.ref p) H)∨(J.go i H∧∃N:St→Hp→Prop,(∀σ' H',N σ' H'→∃m',m'<m∧W (i+1) m' σ' H')∧
  ∀x H',J.yld i H x H'→g x σ1 H' fun σ2 H2=>tf σ2 H2 fun b H3=>if b=true then tk σ2 H3 fun y H4=>tv σ2 H4 fun z H5=>∃kvs k,y=kV k∧H5 p=some (.dK kvs)∧kvs.length<sizeLine∧N σ2 (upd H5 p (.dK (E4 kvs k z))) else N σ2 H3))
section
variable{κ:Type}[DecidableEq κ]
def F3(kvs:List (κ×D))(k:κ):Option D:=(kvs.find? fun kv=>decide (kv.1=k)).map (·.2)
def X5(kvs:List (κ×D))(k:κ)(d:D):List (κ×D):=if (kvs.any fun kv=>decide (kv.1=k))=true then kvs.map (fun kv=>if kv.1=k then (kv.1,d) else kv) else kvs++[(k,d)]
abbrev Ent(κ:Type)(K:W.Frag)(H:Hp):κ×D→κ×V→Prop:=fun p q=>p.1=q.1∧DV K H p.2 q.2
variable{K:W.Frag}{H:Hp}
theorem Mc{k:κ}:∀{kvs:List (κ×D)} {ks:List (κ×V)},Paired (Ent κ K H) kvs ks→(F3 kvs k=none∧C2 ks k=none)∨∃d v,F3 kvs k=some d∧C2 ks k=some v∧DV K H d v
 |_,_,.nil=>.inl ⟨rfl,rfl⟩
 |(a,x)::r,_,.cons (b:=(b,y)) h t=>by
  obtain⟨e,hv⟩:=h;cases(show a=b from e)
  by_cases ha:a=k
  ·exact .inr ⟨x,y,by simp[F3,ha],by simp[C2,ha],hv⟩
  ·have e1:F3 ((a,x)::r) k=F3 r k:=by simp[F3,List.find?_cons,ha]
   have e2:∀z,C2 ((a,y)::z) k=C2 z k:=fun z=>by simp[C2,List.find?_cons,ha]
   rw[e1,e2];exact Mc t
theorem Rt{k:κ}:∀{kvs:List (κ×D)} {ks:List (κ×V)},Paired (Ent κ K H) kvs ks→(kvs.any fun kv=>decide (kv.1=k))=(ks.any fun kv=>decide (kv.1=k))
 |_,_,.nil=>rfl
 |(a,x)::r,_,.cons (b:=(b,y)) h t=>by
  cases(show a=b from h.1);rw[List.any_cons,List.any_cons,Rt t]
theorem Rs{k:κ}{d:D}{v:V}(hd:DV K H d v):∀{kvs:List (κ×D)} {ks:List (κ×V)},Paired (Ent κ K H) kvs ks→Paired (Ent κ K H) (kvs.map (fun kv=>if kv.1=k then (kv.1,d) else kv)) (ks.map (fun kv=>if kv.1=k then (kv.1,v) else kv))
 |_,_,.nil=>.nil
 |(a,x)::r,_,.cons (b:=(b,y)) h t=>by
  obtain⟨e,hv⟩:=h;cases(show a=b from e);rw[List.map_cons,List.map_cons];refine .cons ?_ (Rs hd t);show Ent κ K H (if a=k then (a,d) else (a,x)) (if a=k then (a,v) else (a,y))
  by_cases ha:a=k
  ·rw[if_pos ha,if_pos ha];exact⟨rfl,hd⟩
  ·rw[if_neg ha,if_neg ha];exact⟨rfl,hv⟩
theorem N3{p:κ×D}{q:κ×V}(h:Ent κ K H p q):∀{kvs:List (κ×D)} {ks:List (κ×V)},Paired (Ent κ K H) kvs ks→Paired (Ent κ K H) (kvs++[p]) (ks++[q])
 |_,_,.nil=>.cons h .nil
 |_::_,_,.cons h' t=>.cons h' (N3 h t)
theorem Z3{k:κ}{d:D}{v:V}(hd:DV K H d v){kvs:List (κ×D)}{ks:List (κ×V)}(r:Paired (Ent κ K H) kvs ks):Paired (Ent κ K H) (X5 kvs k d) (E4 ks k v):=by
 unfold X5 E4;rw[Rt r]
 split
 ·exact Rs hd r
 ·exact N3 ⟨rfl,hd⟩ r
theorem Z4{kvs:List (κ×D)}{ks:List (κ×V)}(r:Paired (Ent κ K H) kvs ks):kvs.length=ks.length:=Nn r
end
theorem RelG.dkN{K:W.Frag}{H:Hp}{G:Gp}(r:RelG K H G){p:Addr}(hp:H p=none):RelG K (upd H p (.dK [])) (Ab G p (.dkk [])):=by
 intro a o ea
 by_cases ha:a=p
 ·subst ha;rw[Aa] at ea;cases ea;exact⟨[],Ae,.nil⟩
 ·rw[Ad ha] at ea;exact(r a o ea).upd (Ext.fresh hp) (.inl hp)
theorem Lv{H:Hp}{p:Addr}{ks:List (Key×V)}{u:HO}(e:H p=some (.dK ks)):Ext H (upd H p u):=Ext.write e (fun xs z=>by cases z) (fun ob w z=>by cases z)
theorem RelG.dkW{K:W.Frag}{H:Hp}{G:Gp}(r:RelG K H G){p:Addr}{ks ks':List (Key×V)}{kvs':List (Key×D)}(e:H p=some (.dK ks))(pr:Paired (Ent Key K H) kvs' ks'):RelG K (upd H p (.dK ks')) (Ab G p (.dkk kvs')):=by
 have x:Ext H (upd H p (.dK ks')):=Lv e;intro a o ea
 by_cases ha:a=p
 ·subst ha;rw[Aa] at ea;cases ea;exact⟨ks',Ae,L2.Paired.mapP pr fun _ _ z=>⟨z.1,z.2.ext x⟩⟩
 ·rw[Ad ha] at ea;exact(r a o ea).upd x (.inr ha)
def R6:D→Option Key
 |.int i=>some (.inl i)
 |.str x=>some (.inr x)
 |_=>none
theorem Mb{K:W.Frag}{H:Hp}{d:D}{v:V}{k:Key}(e:R6 d=some k)(dv:DV K H d v):v=kV k:=by
 cases d<;>simp only[R6,Option.some.injEq,reduceCtorEq] at e
 ·subst e;cases dv;rfl
 ·subst e;cases dv;rfl

def Uu(n:Nat)(p:Addr)(ds:List D)(same:Gp→Prop)(g:DTG)(tf:DTT)(tk tv:DTE)(σ:DSt)(G:Gp)(Q:DK):Prop:=∃P:Nat→List (Key×D)→Gp→Prop,P 0 [] G∧(∀i kvs G,i≤ds.length→P i kvs G→same G∧G p=some (.dkk kvs))∧
 (∀i x kvs G,ds[i]? = some x→P i kvs G→g x (List.replicate n none++σ) G fun σ2 G2=>Us n σ σ2∧tf σ2 G2 fun b G3=>if b=true then tk σ2 G3 fun y G4=>tv σ2 G4 fun z G5=>∃k,R6 y=some k∧G5 p=some (.dkk kvs)∧kvs.length<sizeLine∧Fg (P (i+1) (X5 kvs k z)) (Ab G5 p (.dkk (X5 kvs k z))) else Fg (P (i+1) kvs) G3)∧
 ∀kvs G,P ds.length kvs G→Q (.ref p) G
theorem Qj{K:W.Frag}{J:It}{n:Nat}{p:Addr}{ds:List D}{same:Gp→Prop}{g:DTG}{tf:DTT}{tk tv:DTE}{Q:DK}{QV:VK}{σD:DSt}{σ:St}{G:Gp}{H:Hp}(rs:RelS K H σD σ)(rg:RelG K H G)(hp:H p=none)(cl:∀d G',Q d G'→Fwd K H G' fun H'=>∀v,DV K H' d v→QV v H')(hJ:∀H' G',Ext H H'→RelG K H' G'→same G'→ItemsX K J H' ds)(h:Uu n p ds same g tf tk tv σD (Ab G p (.dkk [])) Q) :
  ∃W:Nat→Nat→St→Hp→Prop,(∃m,W 0 m (List.replicate n none++σ) (upd H p (.dK [])))∧∀i m σ1 H,W i m σ1 H→
   ((J.stop i H∧QV (.ref p) H)∨(J.go i H∧∃N:St→Hp→Prop,(∀σ' H',N σ' H'→∃m',m'<m∧W (i+1) m' σ' H')∧
    ∀x H',J.yld i H x H'→C6 K g x σ1 H' fun σ2 H2=>Do K tf σ2 H2 fun b H3=>if b=true then Bi K tk σ2 H3 fun y H4=>Bi K tv σ2 H4 fun z H5=>∃kvs k,y=kV k∧H5 p=some (.dK kvs)∧kvs.length<sizeLine∧N σ2 (upd H5 p (.dK (E4 kvs k z))) else N σ2 H3)):=by
 obtain⟨P,p0,keep,step,fin⟩:=h;refine⟨fun i m σ' H'=>m=ds.length-i∧i≤ds.length∧RelS K H' (List.replicate n none++σD) σ'∧∃yd G',RelG K H' G'∧Ext H H'∧P i yd G',
  ⟨ds.length,rfl,Nat.zero_le _,(Ri n rs).ext (Ext.fresh hp),[],_,rg.dkN hp,Ext.fresh hp,p0⟩,?_⟩
 rintro i m σ1 H1 ⟨rfl,hi,rs1,yd,G1,rg1,x1,p1⟩;obtain⟨sm,gp⟩:=keep i yd G1 hi p1;have I:=hJ H1 G1 x1 rg1 sm
 by_cases hlt:i<ds.length
 ·refine .inr ⟨I.go i hlt,fun σ' H'=>RelS K H' (List.replicate n none++σD) σ'∧∃yd' G',RelG K H' G'∧Ext H H'∧P (i+1) yd' G',fun σ' H' ⟨a2,yd',G',a3,a4,a5⟩=>⟨ds.length-(i+1),by omega,rfl,hlt,a2,yd',G',a3,a4,a5⟩,fun x H' y=>?_⟩
  obtain⟨xe,rge,d,ed,dv⟩:=I.yl i x H' hlt y;refine⟨d,_,G1,_,dv,rs1.ext xe,rge _ rg1,step i d yd G1 ed p1,fun σ2 G2 zz H2 x2 rg2 σ' rs2=>?_⟩;obtain⟨⟨pre,hpre,e2⟩,st2⟩:=zz;have back:∀{H5:Hp} {σ5:St},RelS K H5 σ2 σ5→RelS K H5 (List.replicate n none++σD) σ5:=fun {H5 σ5} r=>by
   refine⟨by rw[←r.1,e2,List.length_append,List.length_append,List.length_replicate,hpre],fun j d e=>?_⟩
   refine r.2 j d ?_
   by_cases hj:j<n
   ·rw[List.getElem?_append_left (by simpa using hj),List.getElem?_replicate,if_pos hj] at e
    cases e
   ·rw[List.getElem?_append_right (by simpa using hj),List.length_replicate] at e
    rw[e2,List.getElem?_append_right (by omega),hpre];exact e
  refine⟨σ2,G2,_,rs2,rg2,st2,fun b G3 h3 H3 x3 rg3=>?_⟩;have x13:=x1.trans (xe.trans (x2.trans x3));dsimp only at h3 ⊢;cases b with
  |false=>
   rw[if_neg Bool.false_ne_true] at h3 ⊢;obtain⟨G4,sb,p4⟩:=h3;exact⟨back (rs2.ext x3),yd,G4,rg3.ext' sb,x13,p4⟩
  |true=>
   rw[if_pos rfl] at h3 ⊢;refine⟨_,G3,_,rs2.ext x3,rg3,h3,fun y4 G4 h4 H4 x4 rg4 v4 d4=>?_⟩;refine⟨_,G4,_,rs2.ext (x3.trans x4),rg4,h4,fun z G5 zz H5 x5 rg5 v5 d5=>?_⟩;obtain⟨k,ek,e5,l5,G6,sb,p6⟩:=zz;obtain⟨xs,ex,r⟩:=rg5 p _ e5;exact⟨xs,k,Mb ek d4,ex,by rw[←Z4 r];exact l5,back ((rs2.ext (x3.trans (x4.trans x5))).ext (Lv ex)),_,G6,(rg5.dkW ex (Z3 d5 r)).ext' sb,(x13.trans (x4.trans x5)).trans (Lv ex),p6⟩
 ·have e:i=ds.length:=by omega
  subst e;exact .inl ⟨I.st,cl _ G1 (fin yd G1 p1) H1 x1 rg1 _ (.ref p)⟩
section
variable{X:Cx}{kx vx iter tg:Expr}{ifs:List Expr}{scope:Scope}{pos:Pos}{ti tk tv:DTE}{tf:DTT}{g:DTG}{T M:List Str}
def Vc(n:Nat)(ti:DTE)(g:DTG)(tf:DTT)(tk tv:DTE):DTE:=fun σ G Q=>ti σ G fun d G1=>∃ds,Am G1 d=some ds∧∀p,G1 p=none→Uu n p ds (fun G'=>Am G' d=some ds) g tf tk tv σ (Ab G1 p (.dkk [])) Q
end
def Aa5(P:Program)(w:World)(K:W.Frag)(a:Addr)(kvs:List (Key×V)):Prop:=(a == sysModules)=false∧∃o vs,K.lookup a=some o∧KV kvs vs∧o.IsDictOf (Ar P w) vs
def DRd(P:Program)(w:World)(h:Heap)(a:Addr)(kvs:List (Key×V)):Prop:=(a == sysModules)=false∧∃vs,KV kvs vs∧h.DictOf (Ar P w) a vs
def RdK(P:Program)(w:World)(K:W.Frag)(H:Hp)(a:Addr)(kvs:List (Key×V)):Prop:=H a=some (.dK kvs)∨Aa5 P w K a kvs
section
variable{X:Cx}{pins:List (Addr×Obj)}{σ:St}{H:Hp}{s:Shared}{a:Addr}{k:Key}{v:V}{kvs:List (Key×V)}{u:Value}{A:Around}{E:Value→Shared→Prop}
theorem RdK.rd(h:RdK X.prog X.w X.K H a kvs)(I:Inv X pins σ H s):DRd X.prog X.w s.heap a kvs:=by
 rcases h with h|⟨h1,o,vs,h2,h3,h4⟩
 ·obtain⟨_,hd,vs,rel,dd⟩:=Km I.hok h;exact⟨hd,vs,rel,dd⟩
 ·exact⟨h1,vs,h3,Heap.dictOf_iff.mpr ⟨o,I.kIn _ _ h2,h4⟩⟩
theorem Adz{Q:Value→Shared→Prop}(g:DRd X.prog X.w s.heap a kvs)(I:Inv X pins σ H s)(l:C2 kvs k=some v)(ry:RelV (kV k) u)(h:∀w' s',Inv X pins σ H s'→RelV v w'→Q w' s'):wpAny (model X.prog X.w) A (getItem (.ref a) u) Q E s:=by
 obtain⟨hd,vs,rel,dd⟩:=g;obtain⟨w',hw,rw'⟩:=RelO.some_of (v:=v) (o:=valueAt vs k) (by rw[←l];exact rel.val k)
 exact wpAny_getItem_of (Kl ry) dd.mapOf hw (h w' _ (I.tok _) rw')
theorem Xb{Q:Value→Shared→Prop}(g:DRd X.prog X.w s.heap a kvs)(I:Inv X pins σ H s)(ry:RelV (kV k) u)(h:∀s',Inv X pins σ H s'→Q (.bool (!(C2 kvs k).isSome)) s'):wpAny (model X.prog X.w) A (compareOp .NotIn u (.ref a)) Q E s:=by
 obtain⟨hd,vs,rel,dd⟩:=g;refine wpAny_notIn_of (Kl ry) hd dd.mapOf ?_;rw[←(rel.val k).isSome_eq];exact h _ (I.tok _)
end
section
variable{X:Cx}
def tKGet(P:Program)(w:World)(K:W.Frag)(td ty:TE):TE:=fun σ H Q=>td σ H fun x H1=>ty σ H1 fun y H2=>∃a kvs k v,x=.ref a∧RdK P w K H2 a kvs∧y=kV k∧C2 kvs k=some v∧Q v H2
theorem Y3{o i:Expr}{td ty:TE}{pos:Pos}(ho:PE X o td)(hi:PE X i ty)(hs:NoSl i):PE X (.Subscript o i pos) (tKGet X.prog X.w X.K td ty):=by
 intro pins s σ H Q I h;refine Yf PySem.F.slot_dict_getitem.lookup hs (thn (ho pins s σ H _ I h) fun u s1 ⟨x,H1,I1,rx,q1⟩=>thn (hi pins s1 σ H1 _ I1 q1) fun iv s2 ⟨y,H2,I2,ry,a,kvs,k,v,ex,g,ek,ev,q2⟩=>?_);subst ex ek;obtain rfl:u=Value.ref a:=rx;have g:=g.rd I2;exact⟨let ⟨_,_,_,dd⟩:=g;dd.typeIs,Adz g I2 ev ry fun w' s3 I3 rw'=>⟨v,H2,I3,rw',q2⟩⟩
theorem Su:OpR X (compareOp .NotIn) (fun x y H Q=>∃a kvs k,y=.ref a∧RdK X.prog X.w X.K H a kvs∧x=kV k∧Q (.bl (!(C2 kvs k).isSome)) H):=by
 intro pins s σ H x y v u Q I rx ry h;obtain⟨a,kvs,k,rfl,g,rfl,q⟩:=h;obtain rfl:u=Value.ref a:=ry;exact Xb (g.rd I) I rx fun s' I'=>⟨.bl _,H,I',rfl,q⟩
end
def KD(P:Program)(w:World)(K:W.Frag)(a:Addr)(kvs:List (Key×D)):Prop:=∃ks,Aa5 P w K a ks∧∀H,Paired (Ent Key K H) kvs ks
section
variable{X:Cx}{e i o:Expr}{te ti td:DTE}{pos pos':Pos}{a:Addr}{kvs:List (Key×D)}
def dMIn(a:Addr)(kvs:List (Key×D))(neg:Bool):DR2:=fun x y G Q=>y=.ref a∧∃k,R6 x=some k∧Q (.bl (if neg=true then !(F3 kvs k).isSome else (F3 kvs k).isSome)) G
theorem isSome_eq{κ:Type}[DecidableEq κ]{K:W.Frag}{H:Hp}{k:κ}{kvs:List (κ×D)}{ks:List (κ×V)}(r:Paired (Ent κ K H) kvs ks):(C2 ks k).isSome=(F3 kvs k).isSome:=by
 rcases Mc (k:=k) r with ⟨e1,e2⟩|⟨d,v,e1,e2,_⟩
 ·rw[e1,e2];rfl
 ·rw[e1,e2];rfl
theorem o_mnotin(m:KD X.prog X.w X.K a kvs):QOp X (compareOp .NotIn) (dMIn a kvs true):=L2.OpR.imp Su fun x y H Q zz=>by
 obtain⟨dx,dy,G,Q',hx,hy,rg,⟨ep,k,ek,q⟩,cl⟩:=zz;subst ep;cases hy;obtain⟨ks,kd,r⟩:=m;exact⟨a,ks,k,rfl,.inr kd,Mb ek hx,by rw[isSome_eq (r H)];exact cl _ _ q H (Ext.refl H) rg _ (.bl _)⟩
def Aav(a:Addr)(kvs:List (Key×D))(td ty:DTE):DTE:=fun σ G Q=>td σ G fun x G1=>ty σ G1 fun y G2=>x=.ref a∧∃k,R6 y=some k∧∃d,F3 kvs k=some d∧Q d G2
theorem Acd(m:KD X.prog X.w X.K a kvs)(ho:QE X o td)(hi:QE X i ti)(hs:NoSl i:=by intro _ _;rfl):QE X (.Subscript o i pos) (Aav a kvs td ti):=(Y3 ho hi hs).imp fun σ H Q zz=>by
 obtain⟨σD,G,Q',rs,rg,h,cl⟩:=zz;refine⟨σD,G,_,rs,rg,h,fun x G1 h1 H1 x1 rg1 v dv=>?_⟩;refine⟨σD,G1,_,rs.ext x1,rg1,h1,fun y G2 zz H2 x2 rg2 v2 dv2=>?_⟩;obtain⟨ep,k,ek,d,ed,q⟩:=zz;subst ep;cases dv;obtain⟨ks,kd,r⟩:=m;rcases Mc (k:=k) (r H2) with ⟨e1,e2⟩|⟨d',w,e1,e2,dw⟩
 ·rw[ed] at e1;cases e1
 ·rw[ed] at e1;cases e1;exact⟨a,ks,k,w,rfl,.inr kd,Mb ek dv2,e2,cl _ _ q H2 (x1.trans x2) rg2 _ dw⟩
end
abbrev topO:HO:=.ext fun _=>True
theorem Kh{P:Program}{w:World}{H:Hp}{h:Heap}{a:Addr}{o:Obj}(e:h.get? a=some o):ObjOk P w H h a (.frz o topO):=⟨e,True.intro,⟨o,e⟩,fun _ _ _ _=>True.intro⟩
section
variable{X:Cx}{pins:List (Addr×Obj)}{σ:List (Option V)}{H:Hp}{s:Shared}{h':Heap}
theorem Inv.grown{T:Addr}{t':Nat}{ps more:Array Value}(I:Inv X pins σ H s)(e:H T=some (.tbl ps))(k:∀b u,b≠T→s.heap.get? b=some u→h'.get? b=some u)(hT:h'.get? T=some (W.tabObj (ps++more))) :
  Inv X pins σ (upd H T (.tbl (ps++more))) { s with heap:=h',toks:=t' }:=by
 have nT:∀b,H b=none→b≠T:=fun b n z=>by rw[z,e] at n;cases n
 refine I.un ⟨fun b o q n _ _=>k b o (nT b n) q,fun b o q n _ _=>⟨o.slots,k b o (nT b n) q⟩,fun b o q n _=>by rw[Ac (nT b n)];exact n,fun b o q _=>?_,fun b xs q=>?_,fun b o u q=>?_,fun b qs q=>?_⟩ fun b u q=>?_
 ·by_cases hb:b=T
  ·subst hb;exact⟨_,hT⟩
  ·exact⟨o,k b o hb q⟩
 ·rw[Ac (Ds q e (fun z=>by cases z))];exact q
 ·rw[Ac (Ds q e (fun z=>by cases z))];exact q
 ·by_cases hb:b=T
  ·subst hb;rw[e] at q;cases q;exact⟨more,Ae⟩
  ·exact⟨#[],by rw[Ac hb,q];simp⟩
 ·by_cases hb:b=T
  ·subst hb;rw[Ae] at q;cases q;exact hT
  ·rw[Ac hb] at q;refine(I.hok b u q).stay (fun c v hc r=>k c v (fun z=>?_) r) (fun c r=>?_) fun c xs r=>?_
   ·subst z;rcases hc with z|z
    ·exact hb z.symm
    ·rw[e] at z;cases z
   ·rw[Ac (Ds r e (fun z=>by cases z))];exact r
   ·rw[Ac (Ds r e (fun z=>by cases z))];exact r
theorem Inv.seen{a:Addr}{o:Obj}(I:Inv X pins σ H s)(ha:X.s₀.heap.objs.size≤a)(hL:a≠X.env.locals)(hc:∀x c,X.env.cells.lookup x=some c→c≠a)(hp:∀p∈X.pn++pins,p.1≠a)(hn:H a=none)(e:s.heap.get? a=some o) :
  Inv X pins σ (upd H a (.frz o topO)) s:=by
 have nb:∀b o',X.s₀.heap.get? b=some o'→b≠a:=fun b o' q=>Nat.ne_of_lt (Nat.lt_of_lt_of_le (Heap.lt_size q) ha);refine⟨I.ok,I.os,I.bare,⟨I.base.keep,I.base.slot,fun b o' q n hx=>by rw[Ac (nb b o' q)];exact I.base.free b o' q n hx,I.base.there,fun b xs q=>?_,fun b o' u q=>?_,fun b ps q=>?_⟩,I.loc,I.cell,by rw[Ac hL.symm];exact I.free,fun x c q=>by rw[Ac (hc x c q)];exact I.freeC x c q,fun p hq=>?_,fun b u q=>?_,I.len⟩
 ·have q:=I.base.tups b xs q;rw[Ac (Ak q hn)];exact q
 ·have q:=I.base.frzs b o' u q;rw[Ac (Ak q hn)];exact q
 ·obtain⟨m,q⟩:=I.base.tbls b ps q;exact⟨m,by rw[Ac (Ak q hn)];exact q⟩
 ·obtain⟨p1,p2,p3⟩:=I.pin p hq;exact⟨p1,by rw[Ac (hp p hq)];exact p2,p3⟩
 ·by_cases hb:b=a
  ·subst hb;rw[Ae] at q;cases q;exact Kh e
  ·rw[Ac hb] at q;exact(I.hok b u q).stay (fun c v _ r=>r) (fun c r=>by rw[Ac (Ak r hn)];exact r) fun c xs r=>by rw[Ac (Ak r hn)];exact r
end
abbrev lamO(q:Str)(params:Arguments)(body:Expr)(scope:Scope)(clos:List (Str×Addr))(pm cv ctv:Value):Obj:={ cls:=.type "function",data:=.func (W.kla_fn "<lambda>" q params body scope clos pm cv ctv) }
def tLam(T:Addr)(q:Str)(params:Arguments)(body:Expr)(scope:Scope)(clos:List (Str×Addr))(pm:Value)(pos:Pos):TE:=fun σ H Q=>∃ps,H T=some (.tbl ps)∧TriplesOk ps.toList∧
 (∀cv ctv f,codeAmong pos ps.toList=some cv→H f=none→Q (.ref f) (upd H f (.frz (lamO q params body scope clos pm cv ctv) topO)))∧
 ∀c o ctv f,codeAmong pos ps.toList=none→H c=none→H f=none→c≠f→CodeIs o q→
  Q (.ref f) (upd (upd (upd H T (.tbl (ps ++ #[rawInt pos.line,rawInt pos.col,.ref c]))) c (.frz o topO)) f (.frz (lamO q params body scope clos pm (.ref c) ctv) topO))
theorem U6{X:Cx}{T c0:Addr}{params:Arguments}{body:Expr}{scope:Scope}{clos:List (Str×Addr)}{pos:Pos}(hdef:defaultsOf params X.env=([],[]))(hcl:closureFor scope X.env=pure clos)(hcode:X.env.code=.ref c0)(hC:W.codeHdIn X.K c0 T=true) :
  PE X (.Lambda params body scope pos) (tLam T (X.env.qual ++ "<lambda>") params body scope clos ((X.mg "__name__").getD .none) pos):=by
 intro pins s σ H Q I h;obtain⟨ps,eT,ht,hit,mis⟩:=h;have hP:s.heap.get? T=some (W.tabObj ps):=I.hok T _ eT;have hC:=W.codeHd_of_K I.kIn hC;have hg:s.heap.Ns mainGlobals X.mg:=I.mod.glob.keeps I.bk;obtain⟨bm,ob,b1,b2,b3,b4,b5,b6⟩:=I.mod.bm;have b3':=I.bk _ _ b3;have hgT:mainGlobals≠T:=fun z=>by
  obtain⟨o,es,ep,e,hd,_⟩:=hg;rw[z,hP] at e;cases e;cases hd
 have hbT:bm≠T:=fun z=>by rw[z,hP] at b3';cases b3';cases b4
 have hbG:bm≠mainGlobals:=fun z=>by
  obtain⟨o,es,ep,e,hd,_⟩:=hg;rw[z,e] at b3';cases b3';rw[hd] at b6;cases b6
 have hB:s.heap.BuiltinsAt X.mg T:=⟨bm,ob,b1,b2,hbG,hbT,b3',b4,b5,b6⟩;refine W.kla_eval hdef ?_;cases hf:codeAmong pos ps.toList with
 |some cv=>
  refine W.kla_makeFunctionHit (mg:=X.mg) hcl I.ok.glob hg hcode hC hP ht hf hB fun ctv h' tk hk hsz=>?_;have I1:Inv X pins σ H { s with heap:=h',toks:=tk }:=I.kept hk;have I2:=I1.laid (t':=tk) (h':=h'.push (lamO (X.env.qual ++ "<lambda>") params body scope clos ((X.mg "__name__").getD .none) cv ctv)) (o:=.frz (lamO (X.env.qual ++ "<lambda>") params body scope clos ((X.mg "__name__").getD .none) cv ctv) topO)
   (fun b u e=>Heap.get?_push_of_some _ e) (Nat.le_refl _) (Kh (Heap.get?_push_size _ rfl))
  exact⟨.ref h'.objs.size,_,I2,rfl,hit cv ctv _ hf (I1.hok.fresh (Nat.le_refl _))⟩
 |none=>
  refine W.kla_makeFunction (mg:=X.mg) hcl I.ok.glob hg hcode hC hP ht hf hgT hB fun c' ctv h' tk hx hge hlt hrec htb=>?_;obtain⟨c₂,oc,vs,t,e2,hoc,hd,hv⟩:=hrec;cases e2;have nc:H c'=none:=I.hok.fresh hge;have neT:c'≠T:=fun z=>by rw[z,eT] at nc;cases nc
  have I1:=Inv.grown (t':=tk) I eT (fun b u hb e=>hx b u hb e) htb;have fo:=I.fpOk (H':=H) hge nc;have I2:=Inv.seen I1 (Nat.le_trans I.sz hge) fo.2.1 fo.2.2.2.2.1 (fun p hp=>fo.2.2.2.2.2 p hp) (by rw[Ac neT];exact nc) hoc
  have I3:=I2.laid (t':=tk) (h':=h'.push (lamO (X.env.qual ++ "<lambda>") params body scope clos ((X.mg "__name__").getD .none) (.ref c') ctv)) (o:=.frz (lamO (X.env.qual ++ "<lambda>") params body scope clos ((X.mg "__name__").getD .none) (.ref c') ctv) topO)
   (fun b u e=>Heap.get?_push_of_some _ e) (Nat.le_refl _) (Kh (Heap.get?_push_size _ rfl))
  have ff:H h'.objs.size=none:=by
   cases q:H h'.objs.size with
   |none=>rfl
   |some u=>exact absurd (Nat.lt_of_lt_of_le (I.hok.lt q) (Nat.le_trans hge (Nat.le_of_lt hlt))) (Nat.lt_irrefl _)
  exact⟨.ref h'.objs.size,_,I3,rfl,mis c' oc ctv _ hf nc ff (Nat.ne_of_lt hlt) ⟨vs,t,hd,hv⟩⟩
theorem K8{p:Pos}{a b:Int}{c cv:Value}(l:List Value)(h:TriplesOk l)(e:codeAmong p (l++[rawInt a,rawInt b,c])=some cv):codeAmong p l=some cv∨cv=c:=by
 fun_induction TriplesOk l with
 |case1=>
  simp only[List.nil_append,rawInt,codeAmong] at e
  split at e
  ·cases e;exact .inr rfl
  ·cases e
 |case2 a' t b' u x rest ih=>
  simp only[List.cons_append,codeAmong] at e ⊢
  split at e
  ·rename_i hc;rw[if_pos hc];exact .inl e
  ·rename_i hc;rw[if_neg hc];exact ih h e
 |case3 l h1 h2=>exact h.elim
section
variable{X:Cx}
def nLam(T:Addr)(q:Str):DTE:=fun σ G Q=>G T=some (.tbl q)∧∀f,G f=none→Q (.ref f) G
theorem Ext.tbl{H:Hp}{p:Addr}{ps:Array Value}{u:HO}(e:H p=some (.tbl ps)):Ext H (upd H p u):=Ext.write e (fun xs z=>by cases z) (fun ob w z=>by cases z)
theorem q_lam{T c0:Addr}{params:Arguments}{body:Expr}{scope:Scope}{clos:List (Str×Addr)}{pos:Pos}(hdef:defaultsOf params X.env=([],[]))(hcl:closureFor scope X.env=pure clos)(hcode:X.env.code=.ref c0)(hC:W.codeHdIn X.K c0 T=true) :
  QE X (.Lambda params body scope pos) (nLam T (X.env.qual ++ "<lambda>")):=(U6 hdef hcl hcode hC).imp fun σ H Q zz=>by
 obtain⟨σD,G,Q',rs,rg,⟨eT,h⟩,cl⟩:=zz;obtain⟨ps,e,ht,ok⟩:=rg T _ eT;refine⟨ps,e,ht,fun cv ctv f hf hn=>?_,fun c o ctv f hf hc hn hne hci=>?_⟩
 ·exact cl _ _ (h f (rg.free hn)) _ (Ext.fresh hn) (rg.tup hn) _ (.ref f)
 ·have nT:∀{b:Addr},H b=none→b≠T:=fun {b} n z=>by rw[z,e] at n;cases n
  have x1:Ext H (upd H T (.tbl (ps ++ #[rawInt pos.line,rawInt pos.col,.ref c]))):=Ext.tbl e;have c1:(upd H T (.tbl (ps ++ #[rawInt pos.line,rawInt pos.col,.ref c]))) c=none:=by rw[Ac (nT hc)];exact hc
  have x2:Ext _ (upd (upd H T (.tbl (ps ++ #[rawInt pos.line,rawInt pos.col,.ref c]))) c (.frz o topO)):=Ext.fresh c1;have f2:(upd (upd H T (.tbl (ps ++ #[rawInt pos.line,rawInt pos.col,.ref c]))) c (.frz o topO)) f=none:=by rw[Ac hne.symm,Ac (nT hn)];exact hn
  have x12:=x1.trans x2;have rg2:RelG X.K (upd (upd H T (.tbl (ps ++ #[rawInt pos.line,rawInt pos.col,.ref c]))) c (.frz o topO)) G:=fun b u eb=>by
   by_cases hb:b=T
   ·subst hb;rw[eT] at eb;cases eb;refine⟨ps ++ #[rawInt pos.line,rawInt pos.col,.ref c],by rw[Ac (nT hc).symm,Ae],by simpa using TriplesOk_snoc _ _ _ _ ht,fun p cv q=>?_⟩
    rcases K8 _ ht (by simpa using q) with q|q
    ·obtain⟨c',o',u',a1,a2,a3⟩:=ok p cv q;exact⟨c',o',u',a1,x12.frz _ _ _ a2,a3⟩
    ·exact⟨c,o,topO,q,Ae,hci⟩
   ·exact((rg b u eb).upd x1 (.inr hb)).upd x2 (.inl c1)
  exact cl _ _ (h f (rg.free hn)) _ (x12.trans (Ext.fresh f2)) (rg2.tup f2) _ (.ref f)
end
def Cr(H:Hp)(ts:List Addr):Hp:=fun b=>if b∈ts then some (.tbl #[]) else H b
theorem Jc{H:Hp}{ts:List Addr}{b:Addr}(h:b∈ts):Cr H ts b=some (.tbl #[]):=if_pos h
theorem Co{H:Hp}{ts:List Addr}{b:Addr}(h:b ∉ ts):Cr H ts b=H b:=if_neg h
structure Given(K:W.Frag)(ts:List Addr)(a:Addr)(ns:List Int)(H:Hp):Prop where
 tab:∀T∈ts,H T=some (.tbl #[])
 rest:∀b,b ∉ ts→H b=none∨∃o xs,H b=some (.frz o (.lst xs))
 arg:SqL K H a (ns.map V.int)
theorem S8{P:Program}{w:World}{K:W.Frag}{mg:Str→Option Value}{CX:CXT}{k:Nat}{fa a:Addr}{fd:FuncData}{x:Str}{sp:Sp}{s₁:Shared}{vs:List Value}{ns:List Int}{ts:List Addr}(KX:K.In s₁.heap)(hT:∀T∈ts,isCodeTable s₁.heap T∧s₁.heap.get? T=some (W.tabObj #[])∧K.lookup T=none)(hM:Mod K mg s₁.heap)(hg:s₁.gens=#[])(ha:s₁.heap.get? a=some { cls:=.type "list",data:=.seq vs.toArray })(hi:IntsAre vs ns)(hl:ns.length≤sizeLine)(hr:Room k callerA)(F:∀base:Heap,K.In base→base.Ns mainGlobals mg→FnOk P w K mg base CX k fa fd [x] sp)(hbind:∀(s:Shared) (u:Value),BindsTo s fd ⟨[u],[]⟩ [(x,u)])(hsp:∀H:Hp,Given K ts a ns H→sp [.ref a] H (fun v _=>v=.bl true) fun _ _ _=>False)(hCX:∀H e s',CX [] H s₁ (fun _ _ _=>False) e s'→False) :
  codeAny (model P w) callerA (.call (.ref fa) ⟨[.ref a],[]⟩) (fun r s'=>r=.ok (.ret (.bool true))∧OldK s₁.heap s'.heap∧s'.os=s₁.os∧AllBare s'.gens) s₁:=by
 have hat:a ∉ ts:=fun z=>by
  have e:=(hT a z).2.1;rw[ha] at e;cases e
 have main:∀H0:Hp,(∀b,b≠a→H0 b=none)→(H0 a=none∨∃o xs,H0 a=some (.frz o (.lst xs)))→(H0 a≠none→K.lookup a=none)→SqL K H0 a (ns.map V.int)→HOk P w H0 s₁.heap→
   codeAny (model P w) callerA (.call (.ref fa) ⟨[.ref a],[]⟩) (fun r s'=>r=.ok (.ret (.bool true))∧OldK s₁.heap s'.heap∧s'.os=s₁.os∧AllBare s'.gens) s₁:=by
  intro H0 off at0 hK0 hS hok0;have eA:Cr H0 ts a=H0 a:=Co hat;have gv:Given K ts a ns (Cr H0 ts):=⟨fun T h=>Jc h,fun b hb=>by
   rw[Co hb]
   by_cases z:b=a
   ·rw[z];exact at0
   ·exact .inl (off b z),hS.elim (fun h=>.inl (h.elim (fun h=>.inl (by rw[eA];exact h)) fun⟨o,h⟩=>.inr ⟨o,by rw[eA];exact h⟩)) .inr⟩
  have hok:HOk P w (Cr H0 ts) s₁.heap:=fun b u q=>by
   by_cases hb:b∈ts
   ·rw[Jc hb] at q;cases q;exact(hT b hb).2.1
   ·rw[Co hb] at q;have z:b=a:=Classical.byContradiction fun z=>by rw[off b z] at q;cases q
    subst z;refine(hok0 b u q).stay (fun _ _ _ r=>r) (fun c r=>?_) fun c xs r=>?_
    ·have hc:c=b:=Classical.byContradiction fun z=>by rw[off c z] at r;cases r
     subst hc;rw[eA];exact r
    ·have hc:c=b:=Classical.byContradiction fun z=>by rw[off c z] at r;cases r
     subst hc;rw[eA];exact r
  have un:∀b o,s₁.heap.get? b=some o→(o.cls≠.none)→(o.cls≠.type "list")→Cr H0 ts b=none:=fun b o e n1 n2=>by
   by_cases hb:b∈ts
   ·rw[(hT b hb).2.1] at e;cases e;exact absurd rfl n1
   ·rw[Co hb];refine off b fun z=>?_;rw[z,ha] at e;cases e;exact absurd rfl n2
  have unD:∀b o es ep,s₁.heap.get? b=some o→o.data=.dict es ep→Cr H0 ts b=none:=fun b o es ep e d=>by
   by_cases hb:b∈ts
   ·rw[(hT b hb).2.1] at e;cases e;cases d
   ·rw[Co hb];refine off b fun z=>?_;rw[z,ha] at e;cases e;cases d
  have bo:∀{b:Addr} {o:Obj},s₁.heap.get? b=some o→Cr H0 ts b=none→(Lc s₁.heap (Cr H0 ts)).get? b=some o:=fun e n=>Xf e n;have nsB:∀{b:Addr} {m:Str→Option Value},s₁.heap.Ns b m→(Lc s₁.heap (Cr H0 ts)).Ns b m:=fun {b m} ⟨o,es,ep,e,d,r⟩=>⟨o,es,ep,bo e (unD b o es ep e d),d,r⟩;have kB:K.In (Lc s₁.heap (Cr H0 ts)):=fun b o e=>bo (KX b o e) (by
   by_cases hb:b∈ts
   ·rw[(hT b hb).2.2] at e;cases e
   ·rw[Co hb]
    by_cases z:b=a
    ·subst z;cases q:H0 b with
     |none=>rfl
     |some u=>rw[hK0 (by rw[q];simp)] at e;cases e
    ·exact off b z)
  have mB:Mod K mg (Lc s₁.heap (Cr H0 ts)):=⟨kB,nsB hM.glob,let ⟨mm,h1⟩:=hM.sm;⟨mm,nsB h1⟩,
   let ⟨bm,ob,b1,b2,b3,b4,b5⟩:=hM.bm;⟨bm,ob,b1,b2,bo b3 (un bm ob b3 (by rw[b4];exact fun z=>by cases z) (by rw[b4];exact fun z=>absurd (Value.type.inj z) (by decide))),b4,b5⟩,
   let ⟨mb,h1,h2⟩:=hM.blt;⟨mb,nsB h1,h2⟩,let ⟨mc,h1,h2⟩:=hM.nolimit;⟨mc,nsB h1,h2⟩⟩
  have e0:Env0 P w K mg (Lc s₁.heap (Cr H0 ts)) callerA [] s₁ (Cr H0 ts):=⟨rfl,mB,fun b o e=>Zm e,Nat.le_of_eq (Te _ _),trivial,fun b hb=>absurd (show b∈([]:List Addr) from hb) (by simp),hok,.of_eq hg⟩
  refine codeAny_mono ((F _ kB mB.glob).run callerA [] s₁ (Cr H0 ts) ⟨[.ref a],[]⟩ [.ref a] [.ref a] _ _ hr e0 (hbind s₁ (.ref a)) (.cons rfl .nil) (hsp _ gv)) fun r s' h=>?_;cases r with
  |error e=>exact(hCX _ e s' h).elim
  |ok fl=>
   cases fl with
   |next=>exact False.elim h
   |brk=>exact False.elim h
   |cont=>exact False.elim h
   |ret u=>
    obtain⟨v,H',os,bare,ud,hok',r',q⟩:=h;have q:v=.bl true:=q;subst q;obtain rfl:u=Value.bool true:=r';have keep:∀b o,b ∉ ts→s₁.heap.get? b=some o→s'.heap.get? b=some o:=fun b o hb e=>by
     rcases gv.rest b hb with z|⟨ob,xs,z⟩
     ·exact ud.keep b o e z (by intro z;exact absurd (show b∈([]:List Addr) from z) (by simp)) (by simp)
     ·obtain⟨e1,_⟩:=hok b _ z;obtain⟨e2,_⟩:=hok' b _ (ud.frzs b ob _ z);rw[e] at e1;cases e1;exact e2
    have grown:∀T∈ts,∃more,s'.heap.get? T=some (W.tabObj (#[]++more)):=fun T hb=>by
     obtain⟨more,z⟩:=ud.tbls T _ (Jc hb);exact⟨more,hok' T _ z⟩
    refine⟨rfl,⟨fun b o e=>?_,fun b o e=>?_⟩,os,bare⟩
    ·by_cases hb:b∈ts
     ·obtain⟨t1,t2,_⟩:=hT b hb;rw[t2] at e;cases e;obtain⟨more,z⟩:=grown b hb;exact .inr (.inl ⟨t1,rfl,#[],more,rfl,z⟩)
     ·exact .inl (keep b o hb e)
    ·by_cases hb:b∈ts
     ·obtain⟨more,z⟩:=grown b hb;exact⟨_,z⟩
     ·exact⟨o,keep b o hb e⟩
 have rv:=L2.vals_ints hi;have lenV:=hi.length;cases hk:K.lookup a with
 |some o=>
  have e:=KX a o hk;rw[ha] at e;cases e;exact main (fun _=>none) (fun _ _=>rfl) (.inl rfl) (fun z=>absurd rfl z) (.inr ⟨_,vs.toArray,_,hk,rfl,rfl,rfl,by rw[List.size_toArray,lenV];exact hl,by simpa using rv⟩) fun b u z=>by cases(show(none:Option HO)=some u from z)
 |none=>
  refine main (upd (fun _=>none) a (.frz { cls:=.type "list",data:=.seq vs.toArray } (.lst (ns.map V.int)))) (fun b z=>Ac z) (.inr ⟨_,_,Ae⟩) (fun _=>hk) (.inl (.inr ⟨_,Ae⟩)) fun b u z=>?_
  by_cases hb:b=a
  ·subst hb;rw[Ae] at z;cases z;exact⟨ha,by rw[List.length_map];exact hl,vs,_,rv,ha⟩
  ·rw[Ac hb] at z;cases z
theorem Vp{l:W.OpenLaw}{n k:Nat}{q:Program}{loose:List Str}{XP:(Str→Option Value)→Heap→Prop}{YP:World→Heap→Prop}{d:DefRec}{K:Params→W.Frag}{CX:CXT}{sp:W.Frag→Sp}{x:Str}{ts:List Addr}(hi:importsNone q=true)(hn:l.most=some n)(hn2:n≤sizeLine)(hdf:d.params.defaults=[])(hr:Room k callerA)(hY:∀(w:World) (h:Heap),YP w h→(K w.params).In h∧∀T∈ts,h.get? T=some (W.tabObj #[]))(hC:∀(w:World) (h:Heap),(K w.params).In h→∀T∈ts,(∃c,W.codeHdIn (K w.params) c T=true)∧(K w.params).lookup T=none)(F:∀(w:World) (mg:Str→Option Value) (fa:Addr) (h:Heap),(K w.params).In h→h.Ns mainGlobals mg→mg d.name=some (.ref fa)→
   ∃fd:FuncData,(∀(s:Shared) (u:Value),BindsTo s fd ⟨[u],[]⟩ [(x,u)])∧∀base:Heap,(K w.params).In base→base.Ns mainGlobals mg→FnOk l.prog w (K w.params) mg base CX k fa fd [x] (sp (K w.params)))(hsp:∀(K:W.Frag) (H:Hp) (a:Addr) (ns:List Int),ns.length≤n→Given K ts a ns H→sp K [.ref a] H (fun v _=>v=.bl true) fun _ _ _=>False)(hCX:∀(H:Hp) (s:Shared) (e:Value) (s':Shared),CX [] H s (fun _ _ _=>False) e s'→False):W.WalkO q loose XP YP l.row.toRowW d [] (fun f vs=>PySem.call f vs):=by
 refine Att.attach_call hn hdf fun w s₀ s₁ mg mb fa o pm cd doc a vs ns G Y ho hd hcd hmg hobj hints hlen hg=>?_;obtain⟨KX,tb⟩:=hY w _ Y;obtain⟨fd,hb,hF⟩:=F w mg fa _ KX G.T.g hmg;refine S8 (ts:=ts) KX (fun T h=>?_) ⟨KX,G.T.g,let ⟨mm,h1,_⟩:=(G.T.seer hi).mods;⟨mm,h1⟩,G.T.bmain,⟨mb,G.T.b,G.T.builtins⟩,G.T.nolimit⟩ hg hobj hints (Nat.le_trans hlen hn2) hr hF hb (fun H g=>hsp _ H a ns hlen g) fun H e s'=>hCX H s₁ e s';obtain⟨⟨c,h1⟩,h2⟩:=hC w _ KX T h;exact⟨((W.codeHd_of_K KX h1).tab (tb T h)).isCodeTable,tb T h,h2⟩
def Li(ts:List (Addr×Str)):DSp:=fun ds G Q _=>∃ns:List Int,ds=[.lint ns]∧ns.length≤63∧(∀p∈ts,G p.1=some (.tbl p.2))∧∀G',Q (.bl true) G'
theorem Zu(ts:List (Addr×Str))(nd:(ts.map (·.1)).Nodup)(K:W.Frag)(H:Hp)(a:Addr)(ns:List Int)(hl:ns.length≤63)(g:Given K (ts.map (·.1)) a ns H):liftSp K (Li ts) [.ref a] H (fun v _=>v=.bl true) fun _ _ _=>False:=by
 have rd:RdI K H a (ns.map V.int):=by
  rcases g.arg with (h|h)|h
  ·by_cases ht:a∈ts.map (·.1)
   ·rw[g.tab a ht] at h;cases h
   ·rcases g.rest a ht with z|⟨o,xs,z⟩
    ·rw[h] at z;cases z
    ·rw[h] at z;cases z
  ·exact .inl h
  ·exact .inr h
 have look:∀(l:List (Addr×Str)) p,(l.map (·.1)).Nodup→p∈l→l.lookup p.1=some p.2:=fun l=>by
  induction l with
  |nil=>intro p _ h;cases h
  |cons y r ih=>
   intro p nd h;rw[List.map_cons,List.nodup_cons] at nd;rw[List.lookup_cons];rcases List.mem_cons.mp h with rfl|h
   ·rw[beq_self_eq_true]
   ·have ne:(p.1 == y.1)=false:=beq_eq_false_iff_ne.mpr fun z=>nd.1 (z ▸ List.mem_map_of_mem h);rw[ne];exact ih p nd.2 h
 have back:∀(l:List (Addr×Str)) b q,l.lookup b=some q→b∈l.map (·.1):=fun l=>by
  induction l with
  |nil=>intro b q h;cases h
  |cons y r ih=>
   intro b q h;rw[List.lookup_cons] at h;cases e:b == y.1 with
   |true=>rw[beq_iff_eq.mp e];simp
   |false=>rw[e] at h;exact List.mem_cons_of_mem _ (ih b q h)
 refine⟨[.lint ns],fun b=>(ts.lookup b).map GO.tbl,fun d _=>d=.bl true,fun _ _=>False,.cons (.lint rd) .nil,(fun b o e=>?_),⟨ns,rfl,hl,fun p hp=>by show(ts.lookup p.1).map GO.tbl=_;rw[look ts p nd hp];rfl,fun _=>rfl⟩,fun d G' e H' _ _ v dv=>?_,fun c G' (e:False)=>e.elim⟩
 ·obtain⟨q,eq,e⟩:=Option.map_eq_some_iff.mp e;subst e;exact⟨#[],g.tab b (back ts b q eq),True.intro,fun p cv z=>by cases z⟩
 ·have e:d=.bl true:=e;subst e;cases dv;rfl
inductive AtomD:D→Value→Prop where
 |int (i:Int) (t:Tok):AtomD (.int i) (.int i t)
 |ref (a:Addr):AtomD (.ref a) (.ref a)
inductive EntsAre (w:World):List DictEntry→List (Key×D)→Prop where
 |nil:EntsAre w [] []
 |cons {x:Str} {t:Tok} {v:Value} {d:D} {r:List DictEntry} {rs:List (Key×D)} (dv:AtomD d v) (h:EntsAre w r rs):EntsAre w ({ hash:=PyData.keyHash w.params x,key:=.str x t,val:=v }::r) ((.inr x,d)::rs)
theorem kd_mk{P:Program}{w:World}{K:W.Frag}{a:Addr}{es:Array DictEntry}{ep:Nat}{kvs:List (Key×D)}(l:K.lookup a=some { cls:=.type "dict",data:=.dict es ep })(ha:(a == sysModules)=false)(hk:EntsAre w es.toList kvs)(nd:(kvs.map (·.1)).Nodup):KD P w K a kvs:=by
 have main:∀{l:List DictEntry} {kvs:List (Key×D)},EntsAre w l kvs→∃(ks:List (Key×V)) (vs:List (Key×Value)),KV ks vs∧(∀H,Paired (Ent Key K H) kvs ks)∧(∀e∈l,∃k,(Ar P w).is k e.key=true∧e.hash=(Ar P w).hash k)∧Pairs (Ar P w) l vs∧vs.map (·.1)=kvs.map (·.1):=by
  intro l kvs h
  induction h with
  |nil=>exact⟨[],[],.nil,fun H=>.nil,fun e h=>(by cases h),.nil,rfl⟩
  |@cons x t v d r rs dv h ih=>
   obtain⟨ks,vs,h1,h2,h3,h4,h5⟩:=ih;have isx:(Ar P w).is (.inr x) (.str x t)=true:=Kl (k:=.inr x) ⟨t,rfl⟩;obtain⟨u,ru,du⟩:∃u:V,RelV u v∧∀H,DV K H d u:=by
    cases dv with
    |int i t=>exact⟨.int i,⟨t,rfl⟩,fun H=>.int i⟩
    |ref a=>exact⟨.ref a,rfl,fun H=>.ref a⟩
   refine⟨(.inr x,u)::ks,(.inr x,v)::vs,.cons ⟨rfl,ru⟩ h1,fun H=>.cons ⟨rfl,du H⟩ (h2 H),fun e he=>?_,.cons isx rfl h4,by rw[List.map_cons,List.map_cons,h5]⟩
   rcases List.mem_cons.mp he with rfl|he
   ·exact⟨.inr x,isx,rfl⟩
   ·exact h3 e he
 obtain⟨ks,vs,h1,h2,h3,h4,h5⟩:=main hk;exact⟨ks,⟨ha,_,vs,l,h1,es,ep,⟨rfl,rfl,rfl⟩,rfl,fun e he=>h3 e (by simpa using he),h4,by rw[h5];exact nd⟩,h2⟩
section
variable{P:Program}{w:World}{A:Around}{E:Value→Shared→Prop}{s:Shared}
theorem Xa{a:Addr}{f:Value}{n:Nat}{Q:Fin→Shared→Prop}(ho:s.heap.get? a=some (seqObj "list" #[] n))(h:∀h' n',(∀b o,b≠a→s.heap.get? b=some o→h'.get? b=some o)→h'.get? a=some (seqObj "list" #[] n')→Q (.done (.ret .none)) { s with heap:=h' }):wpAny (model P w) A (ksk_tree a f false) Q E s:=by
 have ha:a<s.heap.objs.size:=Heap.lt_size ho;have s1:=Heap.SameBut.update s.heap a (Obj.mapSeq fun _=>(#[]:Array Value));obtain⟨e1,ho1⟩:∃e1,(s.heap.update a (Obj.mapSeq fun _=>(#[]:Array Value))).get? a=some (seqObj "list" #[] e1):=⟨_,get?_update_seq ho fun _=>#[]⟩;have hz1:(s.heap.update a (Obj.mapSeq fun _=>(#[]:Array Value))).objs.size=s.heap.objs.size:=by rw[Heap.size_update]
 unfold ksk_tree;refine wpAny_bind (listItems_at ho rfl (wpAny_bind (listUpdate_at ho rfl ?_ (Nat.zero_le _) (Nat.zero_le _))));have k1:∀b o,b≠a→s.heap.get? b=some o→(s.heap.update a (Obj.mapSeq fun _=>(#[]:Array Value))).get? b=some o:=fun b o hb e=>(s1.2 b hb).trans e;generalize s.heap.update a (Obj.mapSeq fun _=>(#[]:Array Value))=g1 at *;refine wpAny_bind (seqEpoch_at ho1 rfl (wpAny_bind (wpAny_newTuple ?_ (Nat.zero_le _))));refine wpAny_bind (wpAny_newList ?_ (Nat.zero_le _));refine wpAny_holding ?_;have ho2:((g1.push (seqObj "tuple" (#[]:Array Value).toList.toArray 0)).push (seqObj "list" ([]:List Value).toArray 0)).get? a=some (seqObj "list" #[] e1):=Heap.get?_push_of_some _ (Heap.get?_push_of_some _ ho1);have hk2:((g1.push (seqObj "tuple" (#[]:Array Value).toList.toArray 0)).push (seqObj "list" ([]:List Value).toArray 0)).get? (g1.push (seqObj "tuple" (#[]:Array Value).toList.toArray 0)).objs.size=some (seqObj "list" #[] 0):=Heap.get?_push_size _ rfl;have k2:∀b o,b≠a→s.heap.get? b=some o→((g1.push (seqObj "tuple" (#[]:Array Value).toList.toArray 0)).push (seqObj "list" ([]:List Value).toArray 0)).get? b=some o:=fun b o hb e=>Heap.get?_push_of_some _ (Heap.get?_push_of_some _ (k1 b o hb e));have hlt:s.heap.objs.size<(g1.push (seqObj "tuple" (#[]:Array Value).toList.toArray 0)).objs.size:=by rw[Heap.size_push,hz1];exact Nat.lt_succ_self _
 generalize (g1.push (seqObj "tuple" (#[]:Array Value).toList.toArray 0)).objs.size=kS at *;show wpAny _ _ _ _ _ { s with heap:=(g1.push (seqObj "tuple" (#[]:Array Value).toList.toArray 0)).push (seqObj "list" ([]:List Value).toArray 0) };generalize (g1.push (seqObj "tuple" (#[]:Array Value).toList.toArray 0)).push (seqObj "list" ([]:List Value).toArray 0)=g2 at *;unfold ksk_rest;refine wpAny_bind (wpAny_rule ?_);rw[←Array.forIn_toList];refine wpAny_bind (wpAny_pure ?_);refine wpAny_bind (listItems_at hk2 rfl ?_);unfold ksk_end;simp only[Bool.false_eq_true,if_false];refine wpAny_bind (wpAny_pure ?_);refine wpAny_bind (wpAny_pure ?_);unfold ksk_tail;have s3:=Heap.SameBut.update g2 kS (Obj.mapSeq fun _=>(#[]:Array Value));have hka:kS≠a:=Nat.ne_of_gt (Nat.lt_trans ha hlt);have ho3:(g2.update kS (Obj.mapSeq fun _=>(#[]:Array Value))).get? a=some (seqObj "list" #[] e1):=(s3.2 a hka.symm).trans ho2;refine wpAny_bind (listUpdate_at hk2 rfl ?_ (Nat.zero_le _) (Nat.zero_le _));refine wpAny_bind (wpAny_letGo ?_);refine wpAny_bind (seqEpoch_at ho3 rfl ?_);have s4:=Heap.SameBut.update (g2.update kS (Obj.mapSeq fun _=>(#[]:Array Value))) a (Obj.mapSeq fun _=>(#[]:Array Value));obtain⟨e2,ho4⟩:∃e2,((g2.update kS (Obj.mapSeq fun _=>(#[]:Array Value))).update a (Obj.mapSeq fun _=>(#[]:Array Value))).get? a=some (seqObj "list" #[] e2):=⟨_,get?_update_seq ho3 fun _=>#[]⟩;have ea:Array.map (fun(x:Keyed)=>x.2) (arrOf ((),SortSt.mk' general' ((#[]:Array Value).zip (#[]:Array Value)) #[] 7 none).2)=#[]:=by first|rfl|simp[arrOf,SortSt.mk']
 simp only[Bool.false_eq_true,if_false,ea];refine wpAny_bind (listUpdate_at ho3 rfl ?_ (Nat.zero_le _) (Nat.zero_le _));simp only[bne_self_eq_false,Bool.false_eq_true,if_false];refine wpAny_pure (h _ e2 (fun b o hb e=>(s4.2 b hb).trans ((s3.2 b (Nat.ne_of_lt (Nat.lt_trans (Heap.lt_size e) hlt))).trans (k2 b o hb e))) ?_);exact ho4
end
end D3
namespace D3
open PySem PySem.Spec
open PyProof.Rows hiding St
open L2 hiding St
open PySem.W (KdlSrc kdl_extend kdl_values)
section
variable{P:Program}{w:World}{A:Around}{E:Value→Shared→Prop}{s:Shared}
theorem Oq{T:String}{r d:Addr}{n:Nat}{F:Nat→Value→Prop}{OK:Heap→Prop}{Q:List Value→Shared→Prop}(K:KdlSrc P w T r d n F OK)(hh:A.handled=none)(hok:OK s.heap)(hn:n≤sizeLine)(h:∀h' tk acc,(∀b o,s.heap.get? b=some o→h'.get? b=some o)→ItemsOf F acc n→Q acc.toList { s with heap:=h',toks:=tk }):wpAny (model P w) A (collect (.ref r)) Q E s:=by
 obtain⟨hr,hd⟩:=K.there _ hok;unfold collect;refine wpAny_bind (wpAny_runValue (codeAny_builtin PySem.F.entry_proto_collect ?_));rw[Around.under_plainId PySem.F.plain_proto_collect _];show wpAny _ A.in1 (newList [] >>= fun l=>again (.builtin "list.__iadd__" ⟨[l,.ref r],[]⟩)) _ _ s;refine wpAny_bind (wpAny_newObj_type ?_);refine wpAny_pure ⟨plainId_quiet PySem.F.plain_list_iadd _,codeAny_builtin PySem.F.entry_list_iadd ?_⟩;rw[Around.under_plainId PySem.F.plain_list_iadd _];have hL1:(s.heap.push { cls:=.type "list",data:=.seq ([]:List Value).toArray }).get? s.heap.objs.size=some { cls:=.type "list",data:=.seq ([]:List Value).toArray }:=Heap.get?_push_size _ rfl;have keep1:∀b o,s.heap.get? b=some o→(s.heap.push { cls:=.type "list",data:=.seq ([]:List Value).toArray }).get? b=some o:=fun b o e=>Heap.get?_push_of_some _ e;generalize s.heap.push { cls:=.type "list",data:=.seq ([]:List Value).toArray }=g1 at *;show wpAny _ A.in1 (Builtin.List.listExtendWith (.ref s.heap.objs.size) (.ref r) (.ref s.heap.objs.size)) _ _ { s with heap:=g1 };have key:=kdl_extend (A:=A) (s:={ s with heap:=g1 }) (R:=fun(q:Result) (s':Shared)=>∃h' tk acc c,q=.ok (.ret (.ref s.heap.objs.size))∧s'={ s with heap:=h',toks:=tk }∧(∀b o,s.heap.get? b=some o→h'.get? b=some o)∧h'.get? s.heap.objs.size=some { cls:=.type "list",dict:=none,data:=.seq acc c,slots:=#[] }∧ItemsOf F acc n)
  K hh (K.keep _ _ hok fun b _ o e=>keep1 b o e) s.heap.objs.size (Nat.ne_of_gt hr) (Nat.ne_of_gt hd) (.ref s.heap.objs.size) 0 hL1 (fun h' tk acc c hk hS hI=>⟨h',tk,acc,c,rfl,rfl,fun b o e=>hk b o (Nat.ne_of_lt (Heap.lt_size e)) (keep1 b o e),hS,hI⟩) hn
 refine wpAny_mono key (fun fin s' x=>?_) fun e s' x=>?_
 ·cases fin with
  |done f=>
   obtain⟨h',tk,acc,c,e,rfl,hk,hS,hI⟩:=x;cases e;show wpAny _ A (load s.heap.objs.size >>= _) _ _ _;exact wpAny_bind (wpAny_load hS (wpAny_pure (h h' tk acc hk hI)))
  |again c₁=>
   refine⟨x.1,codeAny_mono x.2 fun q s₂ y=>?_⟩;obtain⟨h',tk,acc,c,rfl,rfl,hk,hS,hI⟩:=y;show wpAny _ A (load s.heap.objs.size >>= _) _ _ _;exact wpAny_bind (wpAny_load hS (wpAny_pure (h h' tk acc hk hI)))
 ·obtain⟨_,_,_,_,e',_⟩:=x;cases e'
theorem Pz{T:String}{r d f:Addr}{F:Nat→Value→Prop}{OK:Heap→Prop}{Q:Value→Shared→Prop}(K:KdlSrc P w T r d 0 F OK)(hh:A.handled=none)(hok:OK s.heap)(h:∀(g h':Heap) (tk:Tok) (n:Nat),(∀b o,s.heap.get? b=some o→g.get? b=some o)→(∀b o,g.get? b=some o→h'.get? b=some o)→h'.get? g.objs.size=some (seqObj "list" #[] n)→Q (.ref g.objs.size) { s with heap:=h',toks:=tk }) :
  wpAny (model P w) A (call (.builtin "sorted") [.ref r] [(Str.ofString "key",.ref f)]) Q E s:=by
 refine call_function_entry_kw kind_sorted plain_sorted entry_sorted (ksk_s1 _ _) ?_;unfold Builtin.«sorted»;refine wpAny_bind (m:=checkCount "sorted" 1 1 _) (wpAny_pure ?_);refine wpAny_bind (Oq (A:=A.in1) K hh hok (Nat.zero_le _) fun g tk acc keep hI=>?_);have ea:acc=#[]:=by
  have:=hI.1
  exact Array.eq_empty_of_size_eq_zero this
 subst ea;refine wpAny_bind (wpAny_newList ?_ (Nat.zero_le _));have hoL:(g.push (seqObj "list" ([]:List Value).toArray 0)).get? g.objs.size=some (seqObj "list" #[] 0):=Heap.get?_push_size _ rfl;show wpAny _ _ _ _ _ { s with heap:=g.push (seqObj "list" ([]:List Value).toArray 0),toks:=tk };refine wpAny_bind (wpAny_holding (wpAny_call_entry_kw slot_list_sort ⟨_,hoL,rfl⟩ entry_list_sort ?_ (ksk_l1 _ _)));show wpAny (model P w) _ (Builtin.«list.sort» ⟨[.ref g.objs.size],[(Str.ofString "key",.ref f)]⟩) _ _ _;rw[ksk_t1];refine Xa (s:={ s with heap:=g.push (seqObj "list" ([]:List Value).toArray 0),toks:=tk }) hoL fun h' n' k1 ho=>⟨_,rfl,?_⟩;exact wpAny_pure ⟨_,rfl,h g h' tk n' keep (fun b o e=>k1 b o (Nat.ne_of_lt (Heap.lt_size e)) (Heap.get?_push_of_some _ e)) ho⟩
end
abbrev Il(d:Addr):Obj:={ cls:=.type "dict_values",data:=.fields #[.ref d] }
abbrev Ca(d:Addr):Obj:={ cls:=.type "dict_items",data:=.fields #[.ref d] }
section
variable{X:Cx}{o e:Expr}{to:TE}{apos cpos pos p:Pos}
def T8(mk:Addr→Obj)(to:TE):TE:=fun σ H Q=>to σ H fun x H1=>∃a kvs,x=.ref a∧H1 a=some (.dK kvs)∧∀v,H1 v=none→Q (.ref v) (upd H1 v (.frz (mk a) topO))
theorem So(ho:PE X o to)(hbase:attributeBase o "values" X.env (eval o X.env)=eval o X.env)(hline:(apos.endLine == cpos.line)=true):PE X (.Call (.Attribute o "values" apos) [] [] cpos) (T8 Il to):=by
 intro pins s σ H Q I h;refine wpAny_Call_method0_late hbase hline (thn (ho pins s σ H _ I h) fun u s1 zz=>?_);obtain⟨x,H1,I1,rx,a,kvs,ex,eh,q⟩:=zz;subst ex;obtain rfl:u=Value.ref a:=rx;obtain⟨t1,t2,t3⟩:=Vf I1 (.inl ⟨kvs,.inl eh⟩);obtain⟨_,_,vs,_,dd⟩:=Km I1.hok eh;refine⟨"dict", "dict.values",PySem.F.plainAttrs_dict,PySem.F.slot_dict_values,PySem.F.type_dict_values,t1,t2,Calls.callWith_builtin rfl (PySem.evalArgs_none ?_)⟩;refine call_meetsIn PySem.F.slot_dict_values t1 PySem.F.entry_dict_values (PySem.F.args_dict_values_1 _) (meets_dict_values (Ar X.prog X.w) a t3) ⟨⟨vs,dd⟩,?_⟩;exact⟨.ref s1.heap.objs.size,_,I1.laid (t':=s1.toks) (o:=.frz (Il a) topO) (fun b u e=>Heap.get?_push_of_some _ e) (Nat.le_refl _) (Kh (Heap.get?_push_size _ rfl)),rfl,q _ (I1.hok.fresh (Nat.le_refl _))⟩
theorem Wh(ho:PE X o to)(hbase:attributeBase o "items" X.env (eval o X.env)=eval o X.env)(hline:(apos.endLine == cpos.line)=true):PE X (.Call (.Attribute o "items" apos) [] [] cpos) (T8 Ca to):=by
 intro pins s σ H Q I h;refine wpAny_Call_method0_late hbase hline (thn (ho pins s σ H _ I h) fun u s1 zz=>?_);obtain⟨x,H1,I1,rx,a,kvs,ex,eh,q⟩:=zz;subst ex;obtain rfl:u=Value.ref a:=rx;obtain⟨t1,t2,t3⟩:=Vf I1 (.inl ⟨kvs,.inl eh⟩);obtain⟨_,_,vs,_,dd⟩:=Km I1.hok eh;refine⟨"dict", "dict.items",PySem.F.plainAttrs_dict,PySem.F.slot_dict_items,PySem.F.type_dict_items,t1,t2,Calls.callWith_builtin rfl (PySem.evalArgs_none ?_)⟩;refine call_meetsIn PySem.F.slot_dict_items t1 PySem.F.entry_dict_items (PySem.F.args_dict_items_1 _) (meets_dict_items (Ar X.prog X.w) a t3) ⟨⟨vs,dd⟩,?_⟩;exact⟨.ref s1.heap.objs.size,_,I1.laid (t':=s1.toks) (o:=.frz (Ca a) topO) (fun b u e=>Heap.get?_push_of_some _ e) (Nat.le_refl _) (Kh (Heap.get?_push_size _ rfl)),rfl,q _ (I1.hok.fresh (Nat.le_refl _))⟩
def Yd(te tk:TE):TE:=fun σ H Q=>te σ H fun x H1=>tk σ H1 fun y H2=>∃v a f,x=.ref v∧y=.ref f∧H2 v=some (.frz (Il a) topO)∧H2 a=some (.dK [])∧∀q,H2 q=none→Q (.ref q) (upd H2 q (.lst []))
theorem Sr{lam:Expr}{te tk:TE}{kp:Pos}(hc:X.calm=true)(hg:Gl X "sorted")(hm:X.mg "sorted" = none)(he:PE X e te)(hk:PE X lam tk)(hs:starEach [e] X.env=[(false,eval e X.env)]:=by rfl):PE X (.Call (.Name "sorted" p) [e] [⟨some "key",lam,kp⟩] pos) (Yd te tk):=by
 intro pins s σ H Q I h;refine wpAny_Call_Name_kw (Dw I hg hm boot_sorted ?_ (by decide) (by decide))
 have ha:PA X [e] (Ki te R4):=Ec he pa_nil hs;have hkw:PK X [⟨some "key",lam,kp⟩] (Ki tk R4):=Rf hk U3;refine PyProof.Rows.callWith_kw (thn (ha pos pins s σ H (fun vs H1=>match vs with
   |[x]=>tk σ H1 fun y H2=>∃v a f,x=.ref v∧y=.ref f∧H2 v=some (.frz (Il a) topO)∧H2 a=some (.dK [])∧∀q,H2 q=none→Q (.ref q) (upd H2 q (.lst []))
   |_=>False) I h) fun us s1 ⟨vs,H1,I1,r1,q1⟩=>?_) (by rw[hs];rfl) (by rw[hs];rfl) rfl rfl
 match vs,r1,q1 with
 |[x],.cons (b:=u) rx .nil,q1=>
  refine thn (hkw pos pins s1 σ H1 (fun zs H2=>match zs with
   |[y]=>∃v a f,x=.ref v∧y=.ref f∧H2 v=some (.frz (Il a) topO)∧H2 a=some (.dK [])∧∀q,H2 q=none→Q (.ref q) (upd H2 q (.lst []))
   |_=>False) I1 q1) fun ws s2 ⟨zs,H2,I2,r2,q2⟩=>?_
  match zs,r2,q2 with
  |[y],.cons (b:=z) ry .nil,⟨v,a,f,ex,ey,ev,ea,q⟩=>
   subst ex ey;obtain rfl:u=Value.ref v:=rx;obtain rfl:z=Value.ref f:=ry;obtain⟨_,hd,ks,rel,dd⟩:=Km I2.hok ea;cases rel;obtain⟨ob,es,ep,h1,h2⟩:=dd;have hv:s2.heap.get? v=some (Il a):=(show ObjOk X.prog X.w H2 s2.heap v (.frz (Il a) topO) from I2.hok v _ ev).1;refine Pz (kdl_values (knd:=Ar X.prog X.w) (kvs:=[]) (r:=v) (d:=a) (ep:=ep)) (I2.ok.hd hc) ⟨⟨_,hv,rfl,rfl⟩,⟨ob,es,h1,h2⟩⟩ fun g h' tk n k1 k2 hL=>?_;have I3:Inv X pins σ H2 { s2 with heap:=g,toks:=tk }:=I2.kept k1;have I4:=I3.laid (h':=h') (t':=tk) (o:=.lst []) k2 (Nat.le_refl _) (show ObjOk X.prog X.w _ h' _ (.lst []) from⟨Nat.zero_le _,[],n,.nil,hL⟩);exact⟨.ref g.objs.size,_,I4,rfl,q _ (I3.hok.fresh (Nat.le_refl _))⟩
end
end D3
namespace D3
open PySem PySem.Spec
open PyProof.Rows hiding St
open L2 hiding St
section
variable{X:Cx}{o:Expr}{to:DTE}{apos cpos pos p:Pos}
def nSortV0(T:Addr)(q:Str)(to:DTE):DTE:=fun σ G Q=>to σ G fun x G1=>∃a,x=.ref a∧G1 a=some (.dkk [])∧G1 T=some (.tbl q)∧∀l,G1 l=none→Q (.ref l) (Ab G1 l (.lst []))
theorem V4{T c0:Addr}{params:Arguments}{body:Expr}{scope:Scope}{clos:List (Str×Addr)}{lpos kp:Pos}(hc:X.calm=true)(hm:X.mg "sorted" = none)(ho:QE X o to)(hcode:X.env.code=.ref c0)(hC:W.codeHdIn X.K c0 T=true)(hcl:closureFor scope X.env=pure clos)(hg:Gl X "sorted":=by rfl)(hdef:defaultsOf params X.env=([],[]):=by rfl)(hbase:attributeBase o "values" X.env (eval o X.env)=eval o X.env:=by rfl)(hline:(apos.endLine == cpos.line)=true:=by rfl)(hs:starEach [.Call (.Attribute o "values" apos) [] [] cpos] X.env=[(false,eval (.Call (.Attribute o "values" apos) [] [] cpos) X.env)]:=by rfl) :
  QE X (.Call (.Name "sorted" p) [.Call (.Attribute o "values" apos) [] [] cpos] [⟨some "key",.Lambda params body scope lpos,kp⟩] pos) (nSortV0 T (X.env.qual ++ "<lambda>") to):=
 (Sr (kp:=kp) hc hg hm (So ho hbase hline) (q_lam (pos:=lpos) hdef hcl hcode hC) hs).imp fun σ H Q zz=>by
  obtain⟨σD,G,Q',rs,rg,h,cl⟩:=zz;refine⟨σD,G,_,rs,rg,h,fun x G1 zz H1 x1 rg1 v dv=>?_⟩;obtain⟨a,ex,ea,eT,q⟩:=zz;subst ex;cases dv;obtain⟨ks,eh,r⟩:=rg1 a _ ea;cases r;refine⟨a,[],rfl,eh,fun w hw=>?_⟩;refine⟨σD,G1,fun y G2=>G2=G1∧∃f,y=.ref f,rs.ext (x1.trans (Ext.fresh hw)),rg1.tup hw,⟨eT,fun f _=>⟨rfl,f,rfl⟩⟩,fun y G2 zz H2 x2 rg2 z dz=>?_⟩;obtain⟨e2,f,ey⟩:=zz;subst e2 ey;cases dz;obtain⟨ks2,eh2,r2⟩:=rg2 a _ ea;cases r2;refine⟨w,a,f,rfl,rfl,x2.frz _ _ _ Ae,eh2,fun l hl=>?_⟩;exact cl _ _ (q l (rg2.free hl)) _ (x1.trans ((Ext.fresh hw).trans (x2.trans (Ext.fresh hl)))) (rg2.lst hl .nil) _ (.ref l)
end
section
variable{X:Cx}{pins:List (Addr×Obj)}{σ:List (Option V)}{H:Hp}{s:Shared}
theorem Inv.freeze{a:Addr}{ks:List (Key×V)}{o:Obj}(I:Inv X pins σ H s)(e:H a=some (.dK ks))(ho:s.heap.get? a=some o):Inv X pins σ (upd H a (.frz o (.dK ks))) s:=by
 have na:∀b,H b=none→b≠a:=fun b n z=>by rw[z,e] at n;cases n
 have z:({ s with heap:=s.heap,toks:=s.toks }:Shared)=s:=rfl;rw[←z];refine I.un (t':=s.toks) ⟨fun b o' q n _ _=>q,fun b o' q n _ _=>⟨o'.slots,q⟩,fun b o' q n _=>by rw[Ac (na b n)];exact n,fun b o' q _=>⟨o',q⟩,fun b xs q=>?_,fun b o' u q=>?_,fun b ps q=>⟨#[],?_⟩⟩ fun b u q=>?_
 ·rw[Ac (Ds q e (fun z=>by cases z))];exact q
 ·rw[Ac (Ds q e (fun z=>by cases z))];exact q
 ·rw[Ac (Ds q e (fun z=>by cases z)),q];simp
 ·have tp:∀c xs,H c=some (.tup xs)→(upd H a (.frz o (.dK ks))) c=some (.tup xs):=fun c xs r=>by rw[Ac (Ds r e (fun z=>by cases z))];exact r
  have ow:∀c x,H c=some (.own x)→(upd H a (.frz o (.dK ks))) c=some (.own x):=fun c x r=>by rw[Ac (Ds r e (fun z=>by cases z))];exact r
  by_cases hb:b=a
  ·subst hb;rw[Ae] at q;cases q;exact⟨ho,(I.hok b _ e).stay (fun _ _ _ r=>r) (fun c r=>ow c b r) tp⟩
  ·rw[Ac hb] at q;exact(I.hok b u q).stay (fun _ _ _ r=>r) (fun c r=>ow c b r) tp
end
theorem Ka:entryFor table "dict_itemiterator.__iter__" = some Builtin.«dict_keyiterator.__iter__»:=entryFor_alias (id':="dict_keyiterator.__iter__") (by kernel_rfl) rfl (by decide +kernel) (by kernel_rfl)
theorem Zy{P:Program}{w:World}{A:Around}{E:Value→Shared→Prop}{s:Shared}{it d:Addr}{i n ep:Nat}{ok ov:Value}{Q:Value→Shared→Prop}(hit:IsItemIter s.heap it d i n ep ok ov)(h:Q (.ref it) s):wpAny (model P w) A (pyIter (.ref it)) Q E s:=by
 have ty:s.TypeIs (.ref it) "dict_itemiterator":=⟨_,hit,rfl⟩;refine wpAny_pyIter_slot ty PySem.F.slot_dict_itemiterator_iter (wpAny_call_entry PySem.F.slot_dict_itemiterator_iter ty Ka ?_ (PySem.F.args_dict_itemiterator_iter_1 _));exact wpAny_pure ⟨_,rfl, "dict_itemiterator",_,ty,PySem.F.slot_dict_itemiterator_next.lookup,h⟩
def It0(a:Addr)(o:Obj):It:=⟨fun _ _=>False,fun _ _ _ _=>False,fun i H=>H a=some (.frz o (.dK []))⟩
theorem Ob{P:Program}{w:World}{K:W.Frag}{tg:Expr}{a it:Addr}{o:Obj}{es:Array DictEntry}{ep:Nat}(hd:o.data=.dict es ep):Turn P w K tg (It0 a o) [it] it (fun i h=>IsItemIter h it a 0 0 ep .none .none) where
 mem:=by simp
 obj:=fun i h st b hb=>by
  have e:b=it:=by simpa using hb
  subst e;exact⟨_,st,fun v z=>by cases z⟩
 keep:=fun i h h' st k=>k it (by simp) _ st
 item:=by
  intro X hP hw hK hc i pins s σ H E I hf st hg;exact hg.elim
 done:=by
  intro X hP hw hK hc i pins s σ H E I hf st hg;subst hP hw hK;have hg:H a=some (.frz o (.dK [])):=hg;obtain⟨h1,h2⟩:=(show ObjOk X.prog X.w H s.heap a (.frz o (.dK [])) from I.hok a _ hg);obtain⟨_,_,vs,rel,ob,es',ep',q1,q2,q3,q4⟩:=h2;cases rel;rw[h1] at q1;cases q1;rw[hd] at q3;cases q3;obtain⟨f0,f1,f2,f3,f4,f5⟩:=hf it (by simp)
  exact wpAny_pyNext_items_end (knd:=Ar X.prog X.w) (kvs:=[]) (I.ok.hd hc) st ⟨o,es,h1,q2,hd,q4⟩ rfl fun h' eb=>⟨rfl,I.turned (t':=s.toks) (fun b u hb e=>eb b u hb e) f0 f1 f3 f4 f5⟩
 self:=fun _ _ _ _ _ st h=>Zy st h
def Zz(to:TE):TI:=fun σ H R=>T8 Ca to σ H fun y H2=>∃v a,y=.ref v∧H2 v=some (.frz (Ca a) topO)∧H2 a=some (.dK [])∧∀ob,R (It0 a ob) (upd H2 a (.frz ob (.dK [])))
theorem Sn{X:Cx}{o tg:Expr}{to:TE}{apos cpos:Pos}(hc:X.calm=true)(ho:PE X o to)(hbase:attributeBase o "items" X.env (eval o X.env)=eval o X.env)(hline:(apos.endLine == cpos.line)=true):PI X tg (.Call (.Attribute o "items" apos) [] [] cpos) (Zz to):=by
 intro pins s σ H R I h;refine thn (Wh (to:=to) ho hbase hline pins s σ H _ I h) fun u s1 ⟨y,H2,I2,ry,v,a,ey,ev,ea,q⟩=>?_
 ·subst ey;obtain rfl:u=Value.ref v:=ry;have hv:s1.heap.get? v=some (Ca a):=(show ObjOk X.prog X.w H2 s1.heap v (.frz (Ca a) topO) from I2.hok v _ ev).1;obtain⟨_,hd,vs,rel,ob,es,ep,q1,q2,q3,q4⟩:=Km I2.hok ea;cases rel;refine wpAny_pyIter_items (knd:=Ar X.prog X.w) (kvs:=[]) ⟨_,hv,rfl,rfl⟩ ⟨ob,es,q1,q2,q3,q4⟩ ?_;have I3:Inv X pins σ H2 { s1 with heap:=s1.heap.push { cls:=.type "dict_itemiterator",data:=.fields #[.none,.bool false,.ref a,.int 0 0,.int ([]:List (Key×Value)).length 0,.int ep 0,.none,.none] } }:=I2.kept (t':=s1.toks) fun b u e=>Heap.get?_push_of_some _ e;have I4:=Inv.freeze I3 ea (Heap.get?_push_of_some _ q1);have na:s1.heap.objs.size≠a:=Nat.ne_of_gt (Heap.lt_size q1);refine⟨s1.heap.objs.size,[s1.heap.objs.size],_,It0 a ob,_,rfl,I4,Ob q3,Heap.get?_push_size _ rfl,fun b hb=>?_,q ob⟩;have e:b=s1.heap.objs.size:=by simpa using hb
  subst e;have f:=I2.fpOk (H':=H2) (Nat.le_refl s1.heap.objs.size) (I2.hok.fresh (Nat.le_refl _));exact⟨by rw[Ac na];exact f.1,f.2⟩
section
variable{X:Cx}{elt o tg:Expr}{ifs:List Expr}{scope:Scope}{pos apos cpos:Pos}{to:DTE}{T M:List Str}
def Dd(G:Gp)(a:Addr):Gp:=fun b=>if b=a then none else G b
def Rl(to:DTE):DTE:=fun σ G Q=>to σ G fun x G1=>∃a,x=.ref a∧G1 a=some (.dkk [])∧∀p,G1 p=none→Q (.ref p) (Ab (Dd G1 a) p (.lst []))
def gNo:TG:=fun _ _ _ _=>False
def tNoT:TT:=fun _ _ _=>False
def tNoE:TE:=fun _ _ _=>False
theorem V7(hc:X.calm=true)(ok:CompOz X scope (Bk X.env.cells scope.names []) T M)(ho:QE X o to)(hbase:attributeBase o "items" X.env (eval o X.env)=eval o X.env:=by rfl)(hline:(apos.endLine == cpos.line)=true:=by rfl)(hs:∀x,foldedSetIterable (.Call (.Attribute o "items" apos) [] [] cpos) X.env x=pure x:=by intro _;rfl) :
  QE X (.ListComp elt [⟨tg,.Call (.Attribute o "items" apos) [] [] cpos,ifs,0⟩] scope pos) (Rl to):=
 (D0 (g:=gNo) (tf:=tNoT) (te:=tNoE) hc ok (Sn hc ho hbase hline) (fun s H fp pins s' σ H' x u Q I r z=>z.elim) (fun s H fp pins s' σ H' Q I z=>z.elim) (fun s H fp pins s' σ H' Q I z=>z.elim) hs).imp fun σ H Q zz=>by
  obtain⟨σD,G,Q',rs,rg,h,cl⟩:=zz;refine⟨σD,G,_,rs,rg,h,fun x G1 zz H1 x1 rg1 v dv=>?_⟩;obtain⟨a,ex,ea,q⟩:=zz;subst ex;cases dv;obtain⟨ks,eh,r⟩:=rg1 a _ ea;cases r;refine⟨a,[],rfl,eh,fun w hw=>⟨w,a,rfl,Ae,by rw[Ac (Ak eh hw)];exact eh,fun ob p hp=>?_⟩⟩
  have e2:(upd H1 w (.frz (Ca a) topO)) a=some (.dK []):=by rw[Ac (Ak eh hw)];exact eh
  have x2:Ext H1 (upd H1 w (.frz (Ca a) topO)):=Ext.fresh hw;have x3:Ext (upd H1 w (.frz (Ca a) topO)) (upd (upd H1 w (.frz (Ca a) topO)) a (.frz ob (.dK []))):=Lv e2;have rg3:RelG X.K (upd (upd H1 w (.frz (Ca a) topO)) a (.frz ob (.dK []))) (Dd G1 a):=fun b u eb=>by
   by_cases hb:b=a
   ·subst hb;rw[Dd,if_pos rfl] at eb;cases eb
   ·rw[Dd,if_neg hb] at eb;exact((rg1 b u eb).upd x2 (.inl hw)).upd x3 (.inr hb)
  have pG:G1 p=none:=by
   cases z:G1 p with
   |none=>rfl
   |some u=>
    by_cases hb:p=a
    ·subst hb;rw[Ae] at hp;cases hp
    ·have:=rg3.free hp
     rw[Dd,if_neg hb,z] at this;cases this
  have fin:Q (.ref p) (upd (upd (upd H1 w (.frz (Ca a) topO)) a (.frz ob (.dK []))) p (.lst [])):=cl _ _ (q p pG) _ (x1.trans (x2.trans (x3.trans (Ext.fresh hp)))) (rg3.lst hp .nil) _ (.ref p);refine⟨fun i m σ' H'=>H'=upd (upd (upd H1 w (.frz (Ca a) topO)) a (.frz ob (.dK []))) p (.lst []),⟨0,rfl⟩,fun i m σ1 H' e=>.inl ⟨?_,by rw[e];exact fin⟩⟩
  show H' a=some (.frz ob (.dK []));rw[e,Ac (Ak Ae hp),Ae]
end
section
variable{X:Cx}
theorem call_sortedL:CallR X (.builtin "sorted") (fun xs H Q=>∃(l:Addr) (ns:List Int),xs=[.ref l]∧SqL X.K H l (ns.map V.int)∧ns.length<64∧∀p (ms:List Int),H p=none→ms.Perm ns→ms.Pairwise (·≤·)→Q (.ref p) (upd H p (.lst (ms.map V.int)))):=by
 intro pins s σ H xs us Q I r h;obtain⟨l,ns,rfl,hl,hn,q⟩:=h;obtain⟨u,rfl,rx⟩:=Hc r;cases rx;obtain⟨its,rv,pl,_⟩:=I.list hl;have hl2:=rv.length;rw[List.length_map] at hl2;refine sorted_ints pl.isList (D3.Gi rv) (by omega) fun out ms hI hp hs=>?_
 obtain⟨e,he⟩:=sortedAll_at s.heap its out;have I2:=I.laid (h':=sortedAll s.heap its out) (t':=s.toks) (o:=.lst (ms.map V.int)) (fun b o z=>sortedAll_old z) (Nat.le_succ _) (show ObjOk X.prog X.w _ _ _ (.lst _) from⟨by rw[List.length_map,hp.length_eq,sizeLine_eq];omega,out.toList,e,D3.vals_ints hI,by rw[he]⟩)
 exact⟨.ref (s.heap.objs.size+1),_,I2,rfl,q _ ms (I.hok.fresh (Nat.le_succ _)) hp hs⟩
theorem Xl:QC X (.builtin "sorted") (fun ds G Q=>∃d,ds=[d]∧∃p,d=.ref p∧∃ns:List Int,G p=some (.lst (ns.map D.int))∧ns.length<64∧∀l (ms:List Int),G l=none→ms.Perm ns→ms.Pairwise (·≤·)→Q (.ref l) (Ab G l (.lst (ms.map D.int)))):=call_sortedL.imp fun xs H Q zz=>by
 obtain⟨ds,G,Q',dv,rg,⟨d,e,p,ep,ns,eg,hn,q⟩,cl⟩:=zz;subst e ep;obtain⟨v,rfl,h⟩:=dv.one;cases h;obtain⟨ys,eh,r⟩:=rg p _ eg;rw[Jk r] at eh;exact⟨p,ns,rfl,.inl (.inl eh),hn,fun l ms hl h1 h2=>cl _ _ (q l ms (rg.free hl) h1 h2) _ (Ext.fresh hl) (rg.lst hl DVs.ints) _ (.ref l)⟩
end
section
variable{P:Program}{w:World}{A:Around}{E:Value→Shared→Prop}{s:Shared}
end
section
variable{X:Cx}
end
def mNo:DTG:=fun _ _ _ _=>False
theorem Aan{X:Cx}{tg:Expr}:QG X tg mNo:=fun pins s σ H x u Q I r ⟨d,σD,G,Q',h1,h2,h3,z,_⟩=>z.elim
theorem Ul{same:Gp→Prop}{g:DTG}{tb:DTS}{D:DEnds}{σ:DSt}{G:Gp}(s:same G)(h:D.nx σ G):J4 [] same g tb D σ G:=by
 exact⟨fun i σ' G'=>σ'=σ∧G'=G,⟨rfl,rfl⟩,fun i σ' G' _ e=>by rw[e.2];exact s,fun i x σ' G' e=>by simp at e,fun σ' G' e=>by rw[e.1,e.2];exact h⟩
section
variable{X:Cx}{a b:Expr}{ta:TA}{tA:DTA}{p p0 pos pos0:Pos}
end
section
variable{X:Cx}{e b:Expr}{te tb:DTE}{p2 pos:Pos}
end
theorem Yt{X:Cx}{x:Str}{a:Addr}{pos:Pos}(hm:X.mg x=some (.ref a))(hg:Gl X x:=by rfl)(hd:(x == ("__debug__" : Str))=false:=by decide):QE X (.Name x pos) (nC (.ref a)):=
 Iq (v:=.ref a) (Rh hg hm rfl hd) fun _=>.ref a
theorem Pj{X:Cx}{ss:List Stmt}:QSs X ss Va:=fun _ _ _ _ _ _ ⟨_,_,_,_,_,z,_⟩=>z.elim
section
variable{P:Program}{w:World}{K:W.Frag}{mg:Str→Option Value}{base:Heap}
theorem okDc{x qual:Str}{st:Stmt}{f c0:Addr}{fd:FuncData}{N ps:List Str}{k:Nat}{sp:DSp}(F:Fun K x qual st f fd)(hc:fd.code=.ref c0)(S:FnScope N ps (defScope st))(len:∀ds G Q E,sp ds G Q E→ds.length=ps.length)(hbody:∀(A:Around) (outer:List Env) (s:Shared) (H:Hp) (XE:XK) (ds:List D) (G:Gp) (Q:DK) (E:DX),Room k (A.deeper (envOfC qual (defScope st) s.heap.objs.size f (.ref c0)))→sp ds G Q E→
   ∃t,QSs (Cw CX0 P w K mg base N qual (defScope st) f (.ref c0) A outer s H XE).nox (defBody st) t∧t { nx:=fun _ G'=>Fq Q .non G',rt:=Fq Q } (B9 N ds) G):FnOk P w K mg base CX0 (k+1) f fd ps (liftSp K sp):=by
 obtain⟨oc,od,kV,doc,pm,an,cdv,ct,osl,rfl,lk,hcd⟩:=F.ex;have hc:cdv=.ref c0:=hc;subst hc;refine Uq lk hcd S (fun vs H Q E ⟨ds,G,Q',E',dv,rg,h,_⟩=>by rw[←dv.length];exact len ds G Q' E' h) fun A outer s H vs Q E hr ⟨ds,G,Q',E',dv,rg,h,cl,_⟩=>?_
 obtain⟨t,ht,hq⟩:=hbody A outer s H E ds G Q' E' hr h;refine⟨_,ht.nox,B9 N ds,G,_,Eg dv,rg,hq,⟨fun σD G1 ⟨G2,sb,q⟩ H1 x1 rg1 σ rs=>cl _ G2 q H1 x1 (rg1.ext' sb) _ .non,fun d G1 ⟨G2,sb,q⟩ H1 x1 rg1 v dv=>cl _ G2 q H1 x1 (rg1.ext' sb) _ dv,fun _ _ z=>z.elim,fun _ _ z=>z.elim⟩⟩
def inCls(st:Stmt)(j:Nat):Stmt:=match st with
 |.ClassDef _ _ _ body _ _ _ _ _ _ _=>body.getD j (.Pass ⟨0,0,0,0⟩)
 |_=>.Pass ⟨0,0,0,0⟩
end
theorem Yw{X:Cx}{i0:Nat}{y0:Str}{py spos:Pos}{elt iter tg:Expr}{ifs:List Expr}{scope:Scope}{cl:List (Str×Addr)}{pos:Pos}{wi:TI}{g:TG}{tf:TT}{te:TE}{T M:List Str}(hc:X.calm=true)(ok:CompOz X scope cl T M)(hi:PI X tg iter wi)(hg:∀s H fp,PG (Aj X scope cl T M s H fp) tg g)(hf:∀s H fp,PF (Aj X scope cl T M s H fp) ifs tf)(he:∀s H fp,PE (Aj X scope cl T M s H fp) elt te)(hN:X.N.Nodup)(hi0:X.N[i0]? = some y0)(hy:Loc X.env.scope y0)(hfn:X.fn y0=true∨X.env.scope.names.lookup y0=some .local)(hsw:swapsWith (.ListComp elt [⟨tg,iter,ifs,0⟩] scope pos) (some (.Name y0 py)) spos.line X.env=pure true)(hs:∀x,foldedSetIterable iter X.env x=pure x:=by intro _;rfl):PS X (.Assign [.Name y0 py] (.ListComp elt [⟨tg,iter,ifs,0⟩] scope pos) spos) (T5 (Pd T.length wi g tf te) (Q2 i0)):=by
 intro pins s σ H D I h;have h:(Pd T.length wi g tf te) σ H (fun v H1=>D.nx (σ.set i0 (some v)) H1):=h;rw[exec_Assign_Name_used _ _ _ _ hsw];refine wpAny_bind (wpAny_standAt (wpAny_bind ?_));show wpAny _ X.A (do let _ ←comprehension (.ListComp elt [⟨tg,iter,ifs,0⟩] scope pos) scope X.env _ (newList []) false (eval iter X.env) (some (assign (.Name y0 py) X.env))) _ _ s
 refine wpAny_bind (wpAny_mono (wpAny_comprehension_free (use:=some (assign (.Name y0 py) X.env)) (Q:=fun _ s'=>SP X pins D .next s') (cl:=cl) rfl hs ok.clos ok.kind ok.names (thn (hi pins s σ H _ I h) fun v s1 h1=>thn h1 fun itv s2 h2=>?_)) (fun _ s' hq=>wpAny_pure (wpAny_pure hq)) fun _ _ e=>e);obtain⟨it,fp,tn,J,H2,e,I2,Tn,st2,f2,q⟩:=h2;subst e;have q:=q s2.heap.objs.size (I2.hok.fresh (Nat.le_refl _));refine wpAny_newObj_type ?_
 -- the new list,tracked
 have I3:Inv X pins σ (upd H2 s2.heap.objs.size (.lst [])) { s2 with heap:=s2.heap.push { cls:=.type "list",dict:=none,data:=.seq ([]:List Value).toArray } }:=
  I2.laid (t':=s2.toks) (fun b u e=>Heap.get?_push_of_some _ e) (Nat.le_refl _) ⟨Nat.zero_le _,[],0,.nil,Heap.get?_push_size _ rfl⟩
 generalize hH3:upd H2 s2.heap.objs.size (.lst [])=H3 at I3 q;generalize hs3:({ s2 with heap:=s2.heap.push { cls:=.type "list",dict:=none,data:=.seq ([]:List Value).toArray } }:Shared)=s3 at I3;have fpl:∀b∈fp,b<s2.heap.objs.size:=fun b hb=>let ⟨o,e,_⟩:=Tn.obj 0 _ st2 b hb;Heap.lt_size e;have sz3:s2.heap.objs.size≤s3.heap.objs.size:=by rw[←hs3];show _≤(s2.heap.push _).objs.size;rw[Heap.size_push];exact Nat.le_succ _
 have fok:∀b∈fp,Ej X pins H3 b:=fun b hb=>⟨by rw[←hH3,Ac (Nat.ne_of_lt (fpl b hb))];exact(f2 b hb).1,(f2 b hb).2⟩
 have k23:∀b o,s2.heap.get? b=some o→s3.heap.get? b=some o:=fun b o e=>by rw[←hs3];exact Heap.get?_push_of_some _ e
 have st3:tn 0 s3.heap:=Tn.keep _ _ _ st2 fun b _ o e=>k23 b o e;refine Jh ok.kind (fun h4 hns4 k34 okc=>?_);have oldc:∀x c,cl.lookup x=some c→c<s3.heap.objs.size:=fun x c e=>by
  obtain⟨v,o,ho,_⟩:=I3.cell x c (ok.sub x c e).1;exact Heap.lt_size ho
 have hc1:=Me (h':=h4) ok okc oldc;have hc2:=Md (h':=h4) ok okc oldc;have I4:Inv (Aj X scope cl T M s3 H3 fp) [] (O7 T σ) H3 { s3 with heap:=h4 }:=
  Gk ok I3 (fun b hb=>⟨fok b hb,Nat.lt_of_lt_of_le (fpl b hb) sz3⟩) hns4 k34 rfl rfl hc1 hc2
 have st4:tn 0 h4:=Tn.keep _ _ _ st3 fun b _ o e=>k34 b o e;obtain⟨W,⟨m0,w0⟩,turn⟩:=q;have cfpc:∀b∈fp,∀x c,(Az scope cl s3.heap.objs.size).lookup x=some c→c≠b:=fun b hb x c e=>by
  rcases Cf ok s3.heap.objs.size x c e with ⟨_,a2⟩|⟨a1,_⟩
  ·exact Nat.ne_of_gt (Nat.lt_of_lt_of_le (Nat.lt_of_lt_of_le (fpl b hb) sz3) (Nat.le_of_succ_le a2))
  ·exact(fok b hb).2.2.2.2.1 x c (ok.sub x c a1).1
 have cfp:∀{H':Hp},(∀b∈fp,H' b=none)→∀b∈fp,Ej (Aj X scope cl T M s3 H3 fp) [] H' b:=fun hn b hb=>by
  refine⟨hn b hb,Nat.ne_of_lt (Nat.lt_of_lt_of_le (fpl b hb) sz3),fun z=>?_,.inl hb,fun x c e=>cfpc b hb x c e,fun p hp=>absurd (show p∈([]:List (Addr×Obj)) from hp) (by simp)⟩
  rcases List.mem_cons.mp (I3.stkSub b z) with e|e
  ·exact(fok b hb).2.1 e
  ·exact(fok b hb).2.2.1 e
 have fin:∀(σ':St) (H':Hp) (s':Shared),Inv (Aj X scope cl T M s3 H3 fp) [] σ' H' s'→D.nx (σ.set i0 (some (.ref s2.heap.objs.size))) H'→compPost (model X.prog X.w) X.A X.xe (some (assign (.Name y0 py) X.env)) (fun _ s'=>SP X pins D .next s') (.ref s2.heap.objs.size) s3.heap.objs.size (.ok .next) s':=fun σ' H' s' J q=>by
  obtain⟨m',hm',_⟩:=J.loc;have J0:Inv X pins σ H' s':=I3.call' (ch:=fp) J.os J.base J.hok J.bare fun b hb=>⟨(fok b hb).2.2.2.1,(fok b hb).2.1,(fok b hb).2.2.2.2.1,(fok b hb).2.2.2.2.2⟩;have nC:=I3.fpOk (H':=H') (Nat.le_refl s3.heap.objs.size) J.free;show wpAny _ X.A (assign (.Name y0 py) X.env (.ref s2.heap.objs.size)) _ _ s';refine wpAny_assign_Name (Ga J0 hN hi0 hy (v:=.ref s2.heap.objs.size) rfl (fun s'' J1 ⟨a,sb,ha⟩=>?_) hfn);have na:s3.heap.objs.size≠a:=by
   rcases ha with z|z
   ·rw[z];exact nC.2.1
   ·exact fun e=>nC.2.2.2.2.1 _ _ z e.symm
  obtain⟨oC,es,ep,hoC,rC⟩:=hm';exact⟨m',⟨oC,es,ep,(sb.2 _ na).trans hoC,rC⟩,fun h' hs'=>⟨_,H',J1.turned (t':=s''.toks) (fun b o hb e=>(hs'.2 b hb).trans e) nC.1 nC.2.1 nC.2.2.2.1 nC.2.2.2.2.1 nC.2.2.2.2.2,q⟩⟩
 have loop:∀s5:Shared,s5={ s3 with heap:=h4 }→
   codeAny (model X.prog X.w) X.A (.compLoop (.ListComp elt [⟨tg,iter,ifs,0⟩] scope pos) 0 (.ref it) (.ref s2.heap.objs.size) (compEnvC scope (Az scope cl s3.heap.objs.size) s3.heap.objs.size X.env))
    (compPost (model X.prog X.w) X.A X.xe (some (assign (.Name y0 py) X.env)) (fun _ s'=>SP X pins D .next s') (.ref s2.heap.objs.size) s3.heap.objs.size) s5:=by
  rintro s5 rfl;refine Hj (fun k s'=>∃i σ' H',Inv (Aj X scope cl T M s3 H3 fp) [] σ' H' s'∧tn i s'.heap∧(∀b∈fp,H' b=none)∧W i k σ' H') ?_ m0 ⟨0,O7 T σ,H3,I4,st4,fun b hb=>(fok b hb).1,w0⟩;rintro k s6 ⟨i,σ6,H6,I6,st6,fr6,w6⟩;rcases turn i k σ6 H6 w6 with ⟨stop,qn⟩|⟨go,N,hN,step⟩
  ·refine wpAny_mono (Tn.done (Aj X scope cl T M s3 H3 fp) rfl rfl rfl hc i [] s6 _ H6 (fun _ _=>False) I6 (cfp fr6) st6 stop) (fun r s7 ⟨hr,I7⟩=>?_) fun _ _ z=>z.elim;subst hr;exact fin _ H6 s7 I7 qn
  ·refine wpAny_mono (Tn.item (Aj X scope cl T M s3 H3 fp) rfl rfl rfl hc i [] s6 _ H6 (fun _ _=>False) I6 (cfp fr6) st6 go) (fun r s7 ⟨u,hr,h7⟩=>?_) fun _ _ z=>z.elim;subst hr;show M9 _ _ _ _ _ _ _ _ _ _ _ _ _;unfold M9;refine wpAny_mono h7 (fun _ s8 h8=>?_) fun _ _ z=>z.elim;obtain⟨x7,H7,I7,r7,y7,st7,fr7⟩:=h8;have I7':=I7.pinned (cfp fr7) (Tn.obj _ _ st7);have back:∀{σ8:St} {H8:Hp} {s9:Shared},Inv (Aj X scope cl T M s3 H3 fp) ([]++C3 fp s8.heap) σ8 H8 s9→tn (i+1) s9.heap∧∀b∈fp,H8 b=none:=fun {σ8 H8 s9} I8=>by
    refine⟨Tn.keep _ _ _ st7 fun b hb o e=>(I8.pin (b,o) (List.mem_append_right _ (List.mem_append_right _ (Bm hb e)))).1,fun b hb=>?_⟩;obtain⟨o,e,d⟩:=Tn.obj _ _ st7 b hb;exact(I8.pin (b,o) (List.mem_append_right _ (List.mem_append_right _ (Bm hb e)))).2.1
   have again:∀{σ9:St} {H9:Hp} {s9:Shared},Inv (Aj X scope cl T M s3 H3 fp) ([]++C3 fp s8.heap) σ9 H9 s9→N σ9 H9→
     ∃m,m<k∧∃i σ' H',Inv (Aj X scope cl T M s3 H3 fp) [] σ' H' s9∧tn i s9.heap∧(∀b∈fp,H' b=none)∧W i m σ' H':=fun {σ9 H9 s9} I9 n9=>by
    obtain⟨m',hm,w9⟩:=hN σ9 H9 n9;obtain⟨b1,b2⟩:=back I9;exact⟨m',hm,i+1,σ9,H9,I9.unpinned,b1,b2,w9⟩
   refine wpAny_mono (hg s3 H3 fp _ s8 σ6 H7 x7 u _ I7' r7 (step x7 H7 y7)) (fun _ s9 ⟨σ9,H9,I9,q9⟩=>?_) fun _ _ z=>z.elim;refine wpAny_mono (hf s3 H3 fp _ s9 σ9 H9 _ I9 q9) (fun okb s10 ⟨H10,I10,q10⟩=>?_) fun _ _ z=>z.elim;cases okb with
   |false=>
    rw[if_neg Bool.false_ne_true] at q10 ⊢;exact again I10 q10
   |true=>
    rw[if_pos rfl] at q10 ⊢;refine wpAny_mono (he s3 H3 fp _ s10 σ9 H10 _ I10 q10) (fun y s11 ⟨yv,H11,I11,ry,ys,e11,l11,n11⟩=>?_) fun _ _ z=>z.elim;refine wpAny_mono (Ge (X:=Aj X scope cl T M s3 H3 fp) _ s11 σ9 H11 (.ref s2.heap.objs.size) [yv] (.ref s2.heap.objs.size) [y] (fun _ H12=>N σ9 H12) I11 rfl (.cons ry .nil) ⟨_,ys,yv,rfl,rfl,e11,l11,n11⟩) (fun _ s12 ⟨_,H12,I12,_,n12⟩=>?_) fun _ _ z=>z.elim;exact again I12 n12
 exact codeAny_compStart_list (loop _ rfl) (Tn.self _ 0 _ _ _ st4 (loop _ rfl))


theorem Wc{X:Cx}{i0:Nat}{y0:Str}{py spos:Pos}{kx vx iter tg:Expr}{ifs:List Expr}{scope:Scope}{cl:List (Str×Addr)}{pos:Pos}{wi:TI}{g:TG}{tf:TT}{tk tv:TE}{T M:List Str}(hc:X.calm=true)(ok:CompOz X scope cl T M)(hi:PI X tg iter wi)(hg:∀s H fp,PG (Aj X scope cl T M s H fp) tg g)(hf:∀s H fp,PF (Aj X scope cl T M s H fp) ifs tf)(hk:∀s H fp,PE (Aj X scope cl T M s H fp) kx tk)(hv:∀s H fp,PE (Aj X scope cl T M s H fp) vx tv)(hN:X.N.Nodup)(hi0:X.N[i0]? = some y0)(hy:Loc X.env.scope y0)(hfn:X.fn y0=true∨X.env.scope.names.lookup y0=some .local)(hsw:swapsWith (.DictComp kx vx [⟨tg,iter,ifs,0⟩] scope pos) (some (.Name y0 py)) spos.line X.env=pure true)(hs:∀x,foldedSetIterable iter X.env x=pure x:=by intro _;rfl):PS X (.Assign [.Name y0 py] (.DictComp kx vx [⟨tg,iter,ifs,0⟩] scope pos) spos) (T5 (Q6 T.length wi g tf tk tv) (Q2 i0)):=by
 intro pins s σ H D I h;have h:(Q6 T.length wi g tf tk tv) σ H (fun v H1=>D.nx (σ.set i0 (some v)) H1):=h;rw[exec_Assign_Name_used _ _ _ _ hsw];refine wpAny_bind (wpAny_standAt (wpAny_bind ?_));show wpAny _ X.A (do let _ ←comprehension (.DictComp kx vx [⟨tg,iter,ifs,0⟩] scope pos) scope X.env _ newDict false (eval iter X.env) (some (assign (.Name y0 py) X.env))) _ _ s
 refine wpAny_bind (wpAny_mono (wpAny_comprehension_free (use:=some (assign (.Name y0 py) X.env)) (Q:=fun _ s'=>SP X pins D .next s') (cl:=cl) rfl hs ok.clos ok.kind ok.names (thn (hi pins s σ H _ I h) fun v s1 h1=>thn h1 fun itv s2 h2=>?_)) (fun _ s' hq=>wpAny_pure (wpAny_pure hq)) fun _ _ e=>e);obtain⟨it,fp,tn,J,H2,e,I2,Tn,st2,f2,q⟩:=h2;subst e;have q:=q s2.heap.objs.size (I2.hok.fresh (Nat.le_refl _));refine wpAny_newObj_type ?_
 -- the new list,tracked
 have I3:Inv X pins σ (upd H2 s2.heap.objs.size (.dK [])) { s2 with heap:=s2.heap.push { cls:=.type "dict",data:=.dict #[] } }:=
  I2.laid (t':=s2.toks) (fun b u e=>Heap.get?_push_of_some _ e) (Nat.le_refl _) (N4 _ I2.big)
 generalize hH3:upd H2 s2.heap.objs.size (.dK [])=H3 at I3 q;generalize hs3:({ s2 with heap:=s2.heap.push { cls:=.type "dict",data:=.dict #[] } }:Shared)=s3 at I3;have fpl:∀b∈fp,b<s2.heap.objs.size:=fun b hb=>let ⟨o,e,_⟩:=Tn.obj 0 _ st2 b hb;Heap.lt_size e;have sz3:s2.heap.objs.size≤s3.heap.objs.size:=by rw[←hs3];show _≤(s2.heap.push _).objs.size;rw[Heap.size_push];exact Nat.le_succ _
 have fok:∀b∈fp,Ej X pins H3 b:=fun b hb=>⟨by rw[←hH3,Ac (Nat.ne_of_lt (fpl b hb))];exact(f2 b hb).1,(f2 b hb).2⟩
 have k23:∀b o,s2.heap.get? b=some o→s3.heap.get? b=some o:=fun b o e=>by rw[←hs3];exact Heap.get?_push_of_some _ e
 have st3:tn 0 s3.heap:=Tn.keep _ _ _ st2 fun b _ o e=>k23 b o e;refine Jh ok.kind (fun h4 hns4 k34 okc=>?_);have oldc:∀x c,cl.lookup x=some c→c<s3.heap.objs.size:=fun x c e=>by
  obtain⟨v,o,ho,_⟩:=I3.cell x c (ok.sub x c e).1;exact Heap.lt_size ho
 have hc1:=Me (h':=h4) ok okc oldc;have hc2:=Md (h':=h4) ok okc oldc;have I4:Inv (Aj X scope cl T M s3 H3 fp) [] (O7 T σ) H3 { s3 with heap:=h4 }:=
  Gk ok I3 (fun b hb=>⟨fok b hb,Nat.lt_of_lt_of_le (fpl b hb) sz3⟩) hns4 k34 rfl rfl hc1 hc2
 have st4:tn 0 h4:=Tn.keep _ _ _ st3 fun b _ o e=>k34 b o e;obtain⟨W,⟨m0,w0⟩,turn⟩:=q;have cfpc:∀b∈fp,∀x c,(Az scope cl s3.heap.objs.size).lookup x=some c→c≠b:=fun b hb x c e=>by
  rcases Cf ok s3.heap.objs.size x c e with ⟨_,a2⟩|⟨a1,_⟩
  ·exact Nat.ne_of_gt (Nat.lt_of_lt_of_le (Nat.lt_of_lt_of_le (fpl b hb) sz3) (Nat.le_of_succ_le a2))
  ·exact(fok b hb).2.2.2.2.1 x c (ok.sub x c a1).1
 have cfp:∀{H':Hp},(∀b∈fp,H' b=none)→∀b∈fp,Ej (Aj X scope cl T M s3 H3 fp) [] H' b:=fun hn b hb=>by
  refine⟨hn b hb,Nat.ne_of_lt (Nat.lt_of_lt_of_le (fpl b hb) sz3),fun z=>?_,.inl hb,fun x c e=>cfpc b hb x c e,fun p hp=>absurd (show p∈([]:List (Addr×Obj)) from hp) (by simp)⟩
  rcases List.mem_cons.mp (I3.stkSub b z) with e|e
  ·exact(fok b hb).2.1 e
  ·exact(fok b hb).2.2.1 e
 have fin:∀(σ':St) (H':Hp) (s':Shared),Inv (Aj X scope cl T M s3 H3 fp) [] σ' H' s'→D.nx (σ.set i0 (some (.ref s2.heap.objs.size))) H'→compPost (model X.prog X.w) X.A X.xe (some (assign (.Name y0 py) X.env)) (fun _ s'=>SP X pins D .next s') (.ref s2.heap.objs.size) s3.heap.objs.size (.ok .next) s':=fun σ' H' s' J q=>by
  obtain⟨m',hm',_⟩:=J.loc;have J0:Inv X pins σ H' s':=I3.call' (ch:=fp) J.os J.base J.hok J.bare fun b hb=>⟨(fok b hb).2.2.2.1,(fok b hb).2.1,(fok b hb).2.2.2.2.1,(fok b hb).2.2.2.2.2⟩;have nC:=I3.fpOk (H':=H') (Nat.le_refl s3.heap.objs.size) J.free;show wpAny _ X.A (assign (.Name y0 py) X.env (.ref s2.heap.objs.size)) _ _ s';refine wpAny_assign_Name (Ga J0 hN hi0 hy (v:=.ref s2.heap.objs.size) rfl (fun s'' J1 ⟨a,sb,ha⟩=>?_) hfn);have na:s3.heap.objs.size≠a:=by
   rcases ha with z|z
   ·rw[z];exact nC.2.1
   ·exact fun e=>nC.2.2.2.2.1 _ _ z e.symm
  obtain⟨oC,es,ep,hoC,rC⟩:=hm';exact⟨m',⟨oC,es,ep,(sb.2 _ na).trans hoC,rC⟩,fun h' hs'=>⟨_,H',J1.turned (t':=s''.toks) (fun b o hb e=>(hs'.2 b hb).trans e) nC.1 nC.2.1 nC.2.2.2.1 nC.2.2.2.2.1 nC.2.2.2.2.2,q⟩⟩
 have loop:∀s5:Shared,s5={ s3 with heap:=h4 }→
   codeAny (model X.prog X.w) X.A (.compLoop (.DictComp kx vx [⟨tg,iter,ifs,0⟩] scope pos) 0 (.ref it) (.ref s2.heap.objs.size) (compEnvC scope (Az scope cl s3.heap.objs.size) s3.heap.objs.size X.env))
    (compPost (model X.prog X.w) X.A X.xe (some (assign (.Name y0 py) X.env)) (fun _ s'=>SP X pins D .next s') (.ref s2.heap.objs.size) s3.heap.objs.size) s5:=by
  rintro s5 rfl;refine Op (fun k s'=>∃i σ' H',Inv (Aj X scope cl T M s3 H3 fp) [] σ' H' s'∧tn i s'.heap∧(∀b∈fp,H' b=none)∧W i k σ' H') ?_ m0 ⟨0,O7 T σ,H3,I4,st4,fun b hb=>(fok b hb).1,w0⟩;rintro k s6 ⟨i,σ6,H6,I6,st6,fr6,w6⟩;rcases turn i k σ6 H6 w6 with ⟨stop,qn⟩|⟨go,N,hN,step⟩
  ·refine wpAny_mono (Tn.done (Aj X scope cl T M s3 H3 fp) rfl rfl rfl hc i [] s6 _ H6 (fun _ _=>False) I6 (cfp fr6) st6 stop) (fun r s7 ⟨hr,I7⟩=>?_) fun _ _ z=>z.elim;subst hr;exact fin _ H6 s7 I7 qn
  ·refine wpAny_mono (Tn.item (Aj X scope cl T M s3 H3 fp) rfl rfl rfl hc i [] s6 _ H6 (fun _ _=>False) I6 (cfp fr6) st6 go) (fun r s7 ⟨u,hr,h7⟩=>?_) fun _ _ z=>z.elim;subst hr;show Uv _ _ _ _ _ _ _ _ _ _ _ _ _ _;unfold Uv;refine wpAny_mono h7 (fun _ s8 h8=>?_) fun _ _ z=>z.elim;obtain⟨x7,H7,I7,r7,y7,st7,fr7⟩:=h8;have I7':=I7.pinned (cfp fr7) (Tn.obj _ _ st7);have back:∀{σ8:St} {H8:Hp} {s9:Shared},Inv (Aj X scope cl T M s3 H3 fp) ([]++C3 fp s8.heap) σ8 H8 s9→tn (i+1) s9.heap∧∀b∈fp,H8 b=none:=fun {σ8 H8 s9} I8=>by
    refine⟨Tn.keep _ _ _ st7 fun b hb o e=>(I8.pin (b,o) (List.mem_append_right _ (List.mem_append_right _ (Bm hb e)))).1,fun b hb=>?_⟩;obtain⟨o,e,d⟩:=Tn.obj _ _ st7 b hb;exact(I8.pin (b,o) (List.mem_append_right _ (List.mem_append_right _ (Bm hb e)))).2.1
   have again:∀{σ9:St} {H9:Hp} {s9:Shared},Inv (Aj X scope cl T M s3 H3 fp) ([]++C3 fp s8.heap) σ9 H9 s9→N σ9 H9→
     ∃m,m<k∧∃i σ' H',Inv (Aj X scope cl T M s3 H3 fp) [] σ' H' s9∧tn i s9.heap∧(∀b∈fp,H' b=none)∧W i m σ' H':=fun {σ9 H9 s9} I9 n9=>by
    obtain⟨m',hm,w9⟩:=hN σ9 H9 n9;obtain⟨b1,b2⟩:=back I9;exact⟨m',hm,i+1,σ9,H9,I9.unpinned,b1,b2,w9⟩
   refine wpAny_mono (hg s3 H3 fp _ s8 σ6 H7 x7 u _ I7' r7 (step x7 H7 y7)) (fun _ s9 ⟨σ9,H9,I9,q9⟩=>?_) fun _ _ z=>z.elim;refine wpAny_mono (hf s3 H3 fp _ s9 σ9 H9 _ I9 q9) (fun okb s10 ⟨H10,I10,q10⟩=>?_) fun _ _ z=>z.elim;cases okb with
   |false=>
    rw[if_neg Bool.false_ne_true] at q10 ⊢;exact again I10 q10
   |true=>
    rw[if_pos rfl] at q10 ⊢;refine wpAny_mono (hk s3 H3 fp _ s10 σ9 H10 _ I10 q10) (fun y s11 ⟨yv,H11,I11,ry,q11⟩=>?_) fun _ _ z=>z.elim;refine wpAny_mono (hv s3 H3 fp _ s11 σ9 H11 _ I11 q11) (fun z s12 ⟨zv,H12,I12,rz,kvs,k,ek,e12,l12,n12⟩=>?_) fun _ _ z=>z.elim;subst ek;exact Th (X:=Aj X scope cl T M s3 H3 fp) I12 e12 l12 ry rz fun s13 I13=>again I13 n12
 exact codeAny_compStart_dict (loop _ rfl) (Tn.self _ 0 _ _ _ st4 (loop _ rfl))


theorem Ux{K:W.Frag}{t:DTE}{i:Nat}{E:Ends}{σ:St}{H:Hp}(h:Du K (F5 t (C5 i)) E σ H):Bi K t σ H fun v H1=>E.nx (σ.set i (some v)) H1:=by
 obtain⟨σD,G,D,rs,rg,h,cl⟩:=h;exact⟨σD,G,fun x G1=>D.nx (σD.set i (some x)) G1,rs,rg,h,fun d G' q H' x' rg' v dv=>cl.nx _ _ q _ x' rg' _ ((rs.ext x').set dv i)⟩
section
variable{X:Cx}{elt iter tg kx vx:Expr}{ifs:List Expr}{scope:Scope}{pos:Pos}{ti te tk tv:DTE}{tf:DTT}{g:DTG}{T M:List Str}
theorem V3{i0:Nat}{y0:Str}{py spos:Pos}(hc:X.calm=true)(ok:CompOz X scope (Bk X.env.cells scope.names []) T M)(hi:QE X iter ti)(hg:QGz X scope T M tg g)(hf:QFz X scope T M ifs tf)(he:QEz X scope T M elt te)(hN:X.N.Nodup)(hsw:swapsWith (.ListComp elt [⟨tg,iter,ifs,0⟩] scope pos) (some (.Name y0 py)) spos.line X.env=pure true)(hi0:X.N[i0]? = some y0:=by rfl)(hy:Loc X.env.scope y0:=by first|exact .inl rfl|exact .inr rfl)(hfn:X.fn y0=true∨X.env.scope.names.lookup y0=some .local:=by first|exact .inl rfl|exact .inr rfl)(hs:∀x,foldedSetIterable iter X.env x=pure x:=by intro _;rfl):QS X (.Assign [.Name y0 py] (.ListComp elt [⟨tg,iter,ifs,0⟩] scope pos) spos) (F5 (Pp T.length ti g tf te) (C5 i0)):=
 (Yw (g:=C6 X.K g) (tf:=Do X.K tf) (te:=Bi X.K te) hc ok (Lp hi) hg hf he hN hi0 hy hfn hsw hs).imp fun E0 σ H h0=>by
 obtain⟨σD,G,Q',rs,rg,h,cl⟩:=Ux h0;refine⟨σD,G,_,rs,rg,h,fun d G1 zz H1 x1 rg1 v dv=>?_⟩;obtain⟨ds,ei,L⟩:=zz;obtain⟨a,rfl⟩:=Ft ei dv;refine⟨a,rfl,?_⟩;have lp:=fun p hp=>Cm (J:=jOf X.K d a) (rs.ext x1) rg1 hp (fun d' G' q=>(cl d' G' q).go x1) (fun H' G' x' rg' s'=>Db (D1 rg' s' (dv.ext x'))) (L p (rg1.free hp));cases dv with
 |tup e r=>exact .inr ⟨⟨_,.inl (.inl e)⟩,lp⟩
 |lint e=>exact .inl ⟨⟨_,e.sq⟩,lp⟩
 |ref=>
  simp only[Am] at ei
  split at ei
  ·rename_i ds' q;obtain⟨xs,e,r⟩:=rg1 a _ q;exact .inl ⟨⟨_,.inl (.inl e)⟩,lp⟩
  ·cases ei

theorem V2{i0:Nat}{y0:Str}{py spos:Pos}(hc:X.calm=true)(ok:CompOz X scope (Bk X.env.cells scope.names []) T M)(hi:QE X iter ti)(hg:QGz X scope T M tg g)(hf:QFz X scope T M ifs tf)(hk:QEz X scope T M kx tk)(hv:QEz X scope T M vx tv)(hN:X.N.Nodup)(hsw:swapsWith (.DictComp kx vx [⟨tg,iter,ifs,0⟩] scope pos) (some (.Name y0 py)) spos.line X.env=pure true)(hi0:X.N[i0]? = some y0:=by rfl)(hy:Loc X.env.scope y0:=by first|exact .inl rfl|exact .inr rfl)(hfn:X.fn y0=true∨X.env.scope.names.lookup y0=some .local:=by first|exact .inl rfl|exact .inr rfl)(hs:∀x,foldedSetIterable iter X.env x=pure x:=by intro _;rfl):QS X (.Assign [.Name y0 py] (.DictComp kx vx [⟨tg,iter,ifs,0⟩] scope pos) spos) (F5 (Vc T.length ti g tf tk tv) (C5 i0)):=
 (Wc (g:=C6 X.K g) (tf:=Do X.K tf) (tk:=Bi X.K tk) (tv:=Bi X.K tv) hc ok (Lp hi) hg hf hk hv hN hi0 hy hfn hsw hs).imp fun E0 σ H h0=>by
 obtain⟨σD,G,Q',rs,rg,h,cl⟩:=Ux h0;refine⟨σD,G,_,rs,rg,h,fun d G1 zz H1 x1 rg1 v dv=>?_⟩;obtain⟨ds,ei,L⟩:=zz;obtain⟨a,rfl⟩:=Ft ei dv;refine⟨a,rfl,?_⟩;have lp:=fun p hp=>Qj (J:=jOf X.K d a) (rs.ext x1) rg1 hp (fun d' G' q=>(cl d' G' q).go x1) (fun H' G' x' rg' s'=>Db (D1 rg' s' (dv.ext x'))) (L p (rg1.free hp));cases dv with
 |tup e r=>exact .inr ⟨⟨_,.inl (.inl e)⟩,lp⟩
 |lint e=>exact .inl ⟨⟨_,e.sq⟩,lp⟩
 |ref=>
  simp only[Am] at ei
  split at ei
  ·rename_i ds' q;obtain⟨xs,e,r⟩:=rg1 a _ q;exact .inl ⟨⟨_,.inl (.inl e)⟩,lp⟩
  ·cases ei
end
section
variable{X:Cx}{e:Expr}{te:DTE}{pos:Pos}
end
section
variable{X:Cx}{e:Expr}{ta:DTE}
end
section
variable{X:Cx}{a b:Expr}{ta:TA}{tA:DTA}{p p0 pos pos0:Pos}
end
section
variable{P:Program}{w:World}{A:Around}{R:Result→Shared→Prop}{it S:Addr}{fp wr:List Addr}{n:Nat}{V:Nat→Value→Prop}{st:Nat→Heap→Prop}{bt:Nat→Nat→Bool}{kw:List (Str×Value)}
abbrev MxEnd(R:Result→Shared→Prop)(V:Nat→Value→Prop)(bt:Nat→Nat→Bool)(n:Nat)(wr:List Addr)(S:Addr)(s:Shared):Prop:=
 ∀v g tk,V (argBest bt (n-1)) v→(∀b o,b ∉ wr→b≠S→s.heap.get? b=some o→g.get? b=some o)→R (.ok (.ret v)) { s with heap:=g,toks:=tk }
theorem Ih:(toString "max" ++ toString ".loop" : String) = "max.loop":=by decide
theorem Zo(W:Walks P w A.in1 it fp wr n V st)(cmp:CmpOf P w A.in1 .Gt V bt)(off:S ∉ fp)(k:Nat):∀(j:Nat) (s:Shared) (best:Value) (c:Nat),n-(j+1)=k→j+1≤n→st (j+1) s.heap→V (argBest bt j) best→
  s.heap.get? S=some (seqObj "list" #[best,best] c)→MxEnd R V bt n wr S s→codeAny (model P w) A (.builtin "max.loop" ⟨[.ref it,.none,.ref S],kw⟩) R s:=by
 have offW:S ∉ wr:=fun z=>off (W.sub _ z)
 induction k with
 |zero=>
  intro j s best c e1 e2 h0 hb hS fin;have e3:j+1=n:=by omega
  refine codeAny_builtin F.entry_max_loop ?_;rw[Around.under_plainId F.plain_max_loop _];show wpAny _ A.in1 (seqItems? (.ref S) >>= _) _ _ s;refine wpAny_bind (wpAny_seqItems hS rfl ?_);show wpAny _ A.in1 (tryCatch (pyNext (.ref it)) _ >>= _) _ _ s;refine wpAny_bind (wpAny_tryCatch (W.done s _ _ (e3 ▸ h0) fun g tk kp=>?_));show wpAny _ A.in1 (updateSeq S (fun _=>#[]) >>= _) _ _ _;refine wpAny_bind (wpAny_updateSeq (kp S _ offW hS) rfl (wpAny_bind (wpAny_letGo (wpAny_pure ?_))));exact fin best _ tk (by rw[←e3];exact hb) fun b o nw nS e=>(Heap.get?_update_other _ _ (Ne.symm nS)).trans (kp b o nw e)
 |succ k ih=>
  intro j s best c e1 e2 h0 hb hS fin;have e3:j+1<n:=by omega
  refine codeAny_builtin F.entry_max_loop ?_;rw[Around.under_plainId F.plain_max_loop _];show wpAny _ A.in1 (seqItems? (.ref S) >>= _) _ _ s;refine wpAny_bind (wpAny_seqItems hS rfl ?_);show wpAny _ A.in1 (tryCatch (pyNext (.ref it)) _ >>= _) _ _ s;refine wpAny_bind (wpAny_tryCatch (W.item (j+1) s _ _ e3 h0 fun v g tk hv h1 kp=>?_));have hS2:=kp S _ offW hS;show wpAny _ A.in1 (tryCatch (holding [v,v] (richCompare .Gt v best >>= _)) _ >>= _) _ _ _;refine wpAny_bind (wpAny_tryCatch (wpAny_holding (wpAny_bind (cmp (j+1) (argBest bt j) v best _ _ _ hv hb (wpAny_bind (wpAny_holding (wpAny_truthy_bool (wpAny_bind (wpAny_letGo (wpAny_pure ?_))))))))));cases q:bt (j+1) (argBest bt j) with
  |true=>
   simp only[if_true];refine wpAny_bind (wpAny_updateSeq hS2 rfl (wpAny_bind (wpAny_letGo ?_)));rw[Ih];refine wpAny_pure ⟨plainId_quiet F.plain_max_loop _,ih (j+1) _ v _ (by omega) e3 (W.frame _ _ _ h1 fun b hf o e=>?_) (by simp only[argBest,q,if_true];exact hv) (Heap.get?_update_self _ hS2 rfl) fun v' g' tk' hv' kp'=>?_⟩
   ·exact(Heap.get?_update_other _ _ fun z:S=b=>off (by rw[z];exact hf)).trans e
   ·exact fin v' g' tk' hv' fun b o nw nS e=>kp' b o nw nS ((Heap.get?_update_other _ _ (Ne.symm nS)).trans (kp b o nw e))
  |false=>
   simp only[Bool.false_eq_true,if_false];refine wpAny_bind (wpAny_letGo ?_);rw[Ih];refine wpAny_pure ⟨plainId_quiet F.plain_max_loop _,ih (j+1) _ best c (by omega) e3 h1 (by simp only[argBest,q,Bool.false_eq_true,if_false];exact hb) hS2 fun v' g' tk' hv' kp'=>?_⟩
   exact fin v' g' tk' hv' fun b o nw nS e=>kp' b o nw nS (kp b o nw e)
theorem W2(W:Walks P w A.in1 it fp wr n V st)(cmp:CmpOf P w A.in1 .Gt V bt)(off:S ∉ fp)(hn:0<n){s:Shared}{c:Nat}(h0:st 0 s.heap)(hS:s.heap.get? S=some (seqObj "list" #[] c))(fin:MxEnd R V bt n wr S s) :
  codeAny (model P w) A (.builtin "max.loop" ⟨[.ref it,.none,.ref S],kw⟩) R s:=by
 have offW:S ∉ wr:=fun z=>off (W.sub _ z);refine codeAny_builtin F.entry_max_loop ?_;rw[Around.under_plainId F.plain_max_loop _];show wpAny _ A.in1 (seqItems? (.ref S) >>= _) _ _ s;refine wpAny_bind (wpAny_seqItems hS rfl ?_);show wpAny _ A.in1 (tryCatch (pyNext (.ref it)) _ >>= _) _ _ s;refine wpAny_bind (wpAny_tryCatch (W.item 0 s _ _ hn h0 fun v g tk hv h1 kp=>?_));have hS2:=kp S _ offW hS;show wpAny _ A.in1 (updateSeq S (fun _=>#[v,v]) >>= _) _ _ _;refine wpAny_bind (wpAny_updateSeq hS2 rfl ?_);rw[Ih];refine wpAny_pure ⟨plainId_quiet F.plain_max_loop _,Zo W cmp off _ 0 _ v _ rfl hn (W.frame _ _ _ h1 fun b hf o e=>?_) hv (Heap.get?_update_self _ hS2 rfl) fun v' g' tk' hv' kp'=>?_⟩
 ·exact(Heap.get?_update_other _ _ fun z:S=b=>off (by rw[z];exact hf)).trans e
 ·exact fin v' g' tk' hv' fun b o nw nS e=>kp' b o nw nS ((Heap.get?_update_other _ _ (Ne.symm nS)).trans (kp b o nw e))
theorem Zp{d:Value}{k:Str}(W:Walks P w A.in1 it fp wr 0 V st)(off:S ∉ fp){s:Shared}{c:Nat}(h0:st 0 s.heap)(hS:s.heap.get? S=some (seqObj "list" #[] c))(fin:∀g tk,(∀b o,b ∉ wr→s.heap.get? b=some o→g.get? b=some o)→R (.ok (.ret d)) { s with heap:=g,toks:=tk }) :
  codeAny (model P w) A (.builtin "max.loop" ⟨[.ref it,.none,.ref S],[(k,d)]⟩) R s:=by
 refine codeAny_builtin F.entry_max_loop ?_;rw[Around.under_plainId F.plain_max_loop _];show wpAny _ A.in1 (seqItems? (.ref S) >>= _) _ _ s;refine wpAny_bind (wpAny_seqItems hS rfl ?_);show wpAny _ A.in1 (tryCatch (pyNext (.ref it)) _ >>= _) _ _ s;refine wpAny_bind (wpAny_tryCatch (W.done s _ _ h0 fun g tk kp=>?_));show wpAny _ A.in1 (rule _ >>= _) _ _ _;exact wpAny_bind (wpAny_rule (wpAny_pure (fin g tk kp)))
end
section
variable{P:Program}{w:World}{A:Around}{E:Value→Shared→Prop}{s:Shared}
def EndIs(M:Model)(A:Around)(Q:Value→Shared→Prop)(E:Value→Shared→Prop)(f:Fin)(s':Shared):Prop:=match f with
 |.done (.ret v)=>Q v s'
 |.done _=>False
 |.again c=>c.quiet=true∧codeAny M A c (fun r s2=>match r with|.ok (.ret v)=>Q v s2|.ok _=>False|.error e=>E e s2) s'
theorem Tk{id:String}{b:Builtin}{args:List Value}{kw:List (Str×Value)}{Q:Value→Shared→Prop}(hk:builtinKind id=none)(hp:plainId id=true)(hb:entryFor table id=some b)(ha:argsOk id ⟨args,kw⟩)(hc:wpAny (model P w) A.in1 (b ⟨args,kw⟩) (EndIs (model P w) A Q E) E s):wpAny (model P w) A (call (.builtin id) args kw) Q E s:=by
 refine wpAny_call (codeAny_call_builtin hp hb ?_);have go:=wpAny_mono hc (Q':=fun fin s'=>match fin with
   |.done f=>(match (Except.ok f:Result) with|.ok (.ret v)=>Q v s'|.ok _=>False|.error e=>E e s')|.again c'=>c'.quiet=true∧codeAny (model P w) A c' (fun r s'=>match r with|.ok (.ret v)=>Q v s'|.ok _=>False|.error e=>E e s') s')
  (fun fin s' z=>by
   cases fin with
   |done f=>cases f with
    |ret v=>exact z
    |_=>exact z.elim
   |again c=>exact z) fun _ _ z=>z
 simp only[checkBuiltinCall,hk];cases q:Manifest.signature? id with
 |none=>exact wpAny_pure go
 |some sig=>
  have e:Bind.checkArgs id sig ⟨args,kw⟩=pure ():=by simpa only[argsOk,q] using ha
  simp only[e];exact wpAny_pure go
theorem Zr(x d:Value):argsOk "max" ⟨[x],[(Str.ofString "default",d)]⟩:=by unfold argsOk;kernel_rfl
theorem Zq{l:Addr}{vs:List Value}{ns:List Int}{d:Value}{Q:Value→Shared→Prop}(hh:A.handled=none)(hl:s.heap.IsList l vs.toArray)(hi:IntsAre vs ns)(h0:ns=[]→∀g tk,(∀b o,s.heap.get? b=some o→g.get? b=some o)→Q d { s with heap:=g,toks:=tk })(h:∀(g:Heap) (M:Int) (t tk:Tok),(∀b o,s.heap.get? b=some o→g.get? b=some o)→M∈ns→(∀a∈ns,a≤M)→Q (.int M t) { s with heap:=g,toks:=tk }):wpAny (model P w) A (call (.builtin "max") [.ref l] [(Str.ofString "default",d)]) Q E s:=by
 refine Tk F.kind_max F.plain_max F.entry_max (Zr _ _) ?_;show wpAny _ A.in1 (Builtin.Builtins.bindParams "max" ["key", "default"] 0 ⟨[],[(Str.ofString "default",d)]⟩ >>= _) _ _ s;refine wpAny_bind (wpAny_of_eq (show Builtin.Builtins.bindParams "max" ["key", "default"] 0 ⟨[],[(Str.ofString "default",d)]⟩=pure [none,some d] from rfl) (wpAny_bind (wpAny_pure ?_)));obtain⟨xs,e⟩:=hi.allInts.items;have hns:ns=xs.toList.map (·.1):=by rw[←hi.numsOf,←nums_intItems,←e]
 rw[e] at hl;refine wpAny_bind (iter_intList hl fun s₂ e2 st hfp hlI=>?_);subst e2;have W:=Walks.list (prog:=P) (w:=w) (A:=A.in1) hh _ l hlI (intItems xs);have hsz:(intItems xs).size=xs.size:=by simp[intItems]
 refine wpAny_bind (wpAny_newObj_type ?_);rw[Ih];have old:∀b o,s.heap.get? b=some o→(s.heap.push { cls:=Value.type "list_iterator",data:=Data.fields #[Value.ref l,Value.int 0 0] }).get? b=some o:=fun b o z=>Heap.get?_push_of_some _ z;have ne:∀b o,s.heap.get? b=some o→b ∉ [s.heap.objs.size]:=fun b o z m=>Nat.ne_of_lt (Heap.lt_size z) (List.mem_singleton.mp m);generalize hg:s.heap.push { cls:=Value.type "list_iterator",data:=Data.fields #[Value.ref l,Value.int 0 0] }=g1 at *;have off:g1.objs.size ∉ [s.heap.objs.size,l]:=fun m=>Nat.lt_irrefl _ (hfp _ m);have fr:=W.frame 0 g1 (g1.push { cls:=.type "list",data:=.seq ([]:List Value).toArray }) st fun b _ o z=>Heap.get?_push_of_some _ z;have hS:(g1.push { cls:=.type "list",data:=.seq ([]:List Value).toArray }).get? g1.objs.size=some (seqObj "list" #[] 0):=Heap.get?_push_size _ rfl;rcases Nat.eq_zero_or_pos xs.size with z|z
 ·have hx0:ns=[]:=by rw[hns,Array.eq_empty_of_size_eq_zero z];rfl
  rw[show(intItems xs).size=0 by omega] at W
  refine wpAny_pure ⟨plainId_quiet F.plain_max_loop _,Zp W off fr hS fun g tk kp=>?_⟩;exact h0 hx0 g tk fun b o z=>kp b o (ne b o z) (Heap.get?_push_of_some _ (old b o z))
 ·refine wpAny_pure ⟨plainId_quiet F.plain_max_loop _,W2 W (CmpOf.ints_gt (numAt xs) fun _ _=>intItems_at) off (by omega) fr hS fun v g tk hv kp=>?_⟩
  obtain⟨t,rfl⟩:=intItems_at hv;rw[hsz];obtain⟨g1',g2⟩:=argBest_gt (numAt xs) (xs.size-1);refine h g _ t tk (fun b o z=>kp b o (ne b o z) (Nat.ne_of_lt (Heap.lt_size (old b o z))) (Heap.get?_push_of_some _ (old b o z))) ?_ fun a ha=>?_
  ·rw[hns,numAt_eq];exact getD_mem (by rw[List.length_map,Array.length_toList];omega)
  ·rw[hns] at ha;obtain⟨j,hj,rfl⟩:=mem_getD ha;rw[List.length_map,Array.length_toList] at hj;rw[←numAt_eq];exact g2 j (by omega)
end
section
variable{X:Cx}{e:Expr}{p pos:Pos}
def tMaxD(te:TE):TE:=fun σ H Q=>te σ H fun x H1=>∃(l:Addr) (ns:List Int),x=.ref l∧SqL X.K H1 l (ns.map V.int)∧(ns=[]→Q .non H1)∧∀M∈ns,(∀a∈ns,a≤M)→Q (.int M) H1
theorem Y1{te:TE}{kp np:Pos}{j:Nat}(hc:X.calm=true)(hg:Gl X "max")(hm:X.mg "max" = none)(he:PE X e te)(hs:starEach [e] X.env=[(false,eval e X.env)]:=by rfl):PE X (.Call (.Name "max" p) [e] [⟨some "default",.Constant .none j np,kp⟩] pos) (tMaxD (X:=X) te):=by
 intro pins s σ H Q I h;refine wpAny_Call_Name_kw (Dw I hg hm boot_max ?_ (by decide) (by decide))
 have ha:PA X [e] (Ki te R4):=Ec he pa_nil hs;have hkw:PK X [⟨some "default",.Constant .none j np,kp⟩] (Ki (tC .non) R4):=Rf U4 U3;refine PyProof.Rows.callWith_kw (thn (ha pos pins s σ H (fun vs H1=>match vs with
   |[x]=>∃(l:Addr) (ns:List Int),x=.ref l∧SqL X.K H1 l (ns.map V.int)∧(ns=[]→Q .non H1)∧∀M∈ns,(∀a∈ns,a≤M)→Q (.int M) H1
   |_=>False) I h) fun us s1 ⟨vs,H1,I1,r1,q1⟩=>?_) (by rw[hs];rfl) (by rw[hs];rfl) rfl rfl
 match vs,r1,q1 with
 |[x],.cons (b:=u) rx .nil,⟨l,ns,ex,hl,q0,q⟩=>
  subst ex;obtain rfl:u=Value.ref l:=rx;refine thn (hkw pos pins s1 σ H1 (fun zs H2=>zs=[.non]∧H2=H1) I1 ⟨rfl,rfl⟩) fun ws s2 zz=>?_;obtain⟨zs,H2,I2,r2,ez,eH⟩:=zz;subst ez eH;obtain⟨z,rfl,rz⟩:=Hc r2;obtain rfl:z=Value.none:=rz;obtain⟨its,rv,pl,_⟩:=I2.list hl;exact Zq (I2.ok.hd hc) pl.isList (D3.Gi rv) (fun e0 g tk k=>⟨.non,H2,I2.kept k,rfl,q0 e0⟩) fun g M t tk k h1 h2=>⟨.int M,H2,I2.kept k,⟨t,rfl⟩,q M h1 h2⟩
def Aat(te:DTE):DTE:=fun σ G Q=>te σ G fun x G1=>∃p,x=.ref p∧∃ns:List Int,G1 p=some (.lst (ns.map D.int))∧(ns=[]→Q .non G1)∧∀M∈ns,(∀a∈ns,a≤M)→Q (.int M) G1
theorem Ace{te:DTE}{kp np:Pos}{j:Nat}(hc:X.calm=true)(hm:X.mg "max" = none)(he:QE X e te)(hg:Gl X "max":=by rfl)(hs:starEach [e] X.env=[(false,eval e X.env)]:=by rfl):QE X (.Call (.Name "max" p) [e] [⟨some "default",.Constant .none j np,kp⟩] pos) (Aat te):=
 (Y1 hc hg hm he hs).imp fun σ H Q zz=>by
  obtain⟨σD,G,Q',rs,rg,h,cl⟩:=zz;refine⟨σD,G,_,rs,rg,h,fun x G1 zz H1 x1 rg1 v dv=>?_⟩;obtain⟨l,ex,ns,eg,q0,q⟩:=zz;subst ex;cases dv;obtain⟨ys,eh,r⟩:=rg1 l _ eg;rw[Jk r] at eh;exact⟨l,ns,rfl,.inl (.inl eh),fun e0=>cl _ _ (q0 e0) _ x1 rg1 _ .non,fun M h1 h2=>cl _ _ (q M h1 h2) _ x1 rg1 _ (.int M)⟩
end
section
variable{X:Cx}{elt iter tg:Expr}{ifs:List Expr}{scope:Scope}{pos:Pos}{ti te:DTE}{tf:DTT}{g:DTG}{T M:List Str}
def Nq(n:Nat)(tA:DTA)(g:DTG)(tf:DTT)(te:DTE):DTE:=fun σ G Q=>tA σ G fun ds G1=>∃i j,ds=[.int i,.int j]∧(-(2 ^ 62)≤i∧i<2 ^ 62∧-(2 ^ 62)≤j∧j<2 ^ 62)∧∀p,G1 p=none→He n p (De i j) (fun _=>True) g tf te σ (Ab G1 p (.lst [])) Q
theorem Sl{a b:Expr}{tA:DTA}{p p2:Pos}(hc:X.calm=true)(ok:CompOz X scope (Bk X.env.cells scope.names []) T M)(hm:X.mg "range" = none)(ha:QA X [a,b] tA)(hg:QGz X scope T M tg g)(hf:QFz X scope T M ifs tf)(he:QEz X scope T M elt te)(hgl:Gl X "range":=by rfl)(hst:starEach [a,b] X.env=[(false,eval a X.env),(false,eval b X.env)]:=by rfl)(hst2:starEach [b] X.env=[(false,eval b X.env)]:=by rfl)(hs:∀x,foldedSetIterable (.Call (.Name "range" p) [a,b] [] p2) X.env x=pure x:=by intro _;rfl):QE X (.ListComp elt [⟨tg,.Call (.Name "range" p) [a,b] [] p2,ifs,0⟩] scope pos) (Nq T.length tA g tf te):=
 (D0 (g:=C6 X.K g) (tf:=Do X.K tf) (te:=Bi X.K te) hc ok (Kv hgl hm ha hst hst2) hg hf he hs).imp fun σ H Q zz=>by
 obtain⟨σD,G,Q',rs,rg,h,cl⟩:=zz;refine⟨σD,G,_,rs,rg,h,fun ds G1 zz H1 x1 rg1 vs dv=>?_⟩;obtain⟨i,j,ej,hij,L⟩:=zz;subst ej;obtain⟨v,w,rfl,r,r'⟩:=dv.two;cases r;cases r';refine⟨i,j,rfl,hij,fun p hp=>Cm (J:=Itr i (j-i).toNat) (rs.ext x1) rg1 hp (fun d' G' q=>(cl d' G' q).go x1) (fun H' G' x' rg' _=>Db (G:=G') ?_) (L p (rg1.free hp))⟩;refine⟨fun k hk=>by rw[Bo] at hk;exact hk,fun k x H2 hk y=>?_,by show(j-i).toNat≤_;rw[Bo];exact Nat.le_refl _⟩
 rw[Bo] at hk;obtain⟨e1,e2⟩:=y;refine⟨e1,_,Ew hk,?_⟩;rw[e2];exact .int _
end
section
variable{X:Cx}{elt iter tg kx vx:Expr}{ifs:List Expr}{scope:Scope}{pos:Pos}{ti te tk tv:DTE}{tf:DTT}{g:DTG}{T M:List Str}
end
section
variable{X:Cx}
def dRepL:DR2:=fun x y G Q=>∃a k,x=.ref a∧y=.int k∧∃xs,G a=some (.lst xs)∧0≤k∧xs.length*k.toNat≤sizeLine∧k<2 ^ 60∧∀p,G p=none→Q (.ref p) (Ab G p (.lst (List.replicate k.toNat xs).flatten))
theorem DVs.rep{K:W.Frag}{H:Hp}{ds:List D}{vs:List V}(h:DVs K H ds vs):∀n:Nat,DVs K H (List.replicate n ds).flatten (List.replicate n vs).flatten
 |0=>.nil
 |n+1=>by rw[List.replicate_succ,List.replicate_succ,List.flatten_cons,List.flatten_cons];exact h.append (h.rep n)
theorem Adn:QOp X (binaryOp .Mult) dRepL:=by
 rintro pins s σ H x y v u Q I rx ry ⟨dx,dy,G,Q',hx,hy,rg,⟨a,k,ex,ey,xs,ga,k0,hz,k1,h⟩,cl⟩;subst ex ey;cases hx;cases hy;obtain⟨vs,ea,ra⟩:=rg a _ ga;exact Ac6 pins s σ H _ _ v u Q I rx ry ⟨a,k,vs,rfl,rfl,ea,by omega,by omega,by rw[←ra.length];exact hz,fun p hp=>cl _ _ (h p (rg.free hp)) _ (Ext.fresh hp) (rg.lst hp (ra.rep _)) _ (.ref p)⟩
end
section
theorem Dc:fillsNumberSlot (.type "tuple") "mul" = pure false:=
 PySem.fillsNumberSlot_seq (id:="tuple.__mul__") (r:=some (.builtin "tuple.__rmul__")) PySem.F.slot_tuple_mul.lookup (by decide +kernel) PySem.F.slot_tuple_rmul.lookup (by decide +kernel)
theorem Fz:seqRepeat? (.type "tuple")=pure (some (.builtin "tuple.__mul__")):=by
 unfold seqRepeat?;rw[PySem.seqSlot_of (T:="tuple") (name:="__mul__") (id:="tuple.__mul__") PySem.F.slot_tuple_mul.lookup (by decide +kernel),PySem.seqSlot_of (T:="tuple") (name:="__rmul__") (id:="tuple.__rmul__") PySem.F.slot_tuple_rmul.lookup (by decide +kernel)]
 rfl
theorem D8(a:Int)(t:Tok)(l:Addr)(items:Array Value)(n:Nat)(dd:Option Addr)(sl:Array (Option Value)) :
  Meets (Builtin.«int.__rmul__» ⟨[.int a t,.ref l],[]⟩) (fun _ R s=>s.heap.get? l=some { cls:=.type "tuple",dict:=dd,data:=.seq items n,slots:=sl }∧R (.ok (.ret Value.notImplemented)) s):=
 .of_wp fun prog w A R s h=>by obtain⟨hp,g,d,tk,os⟩:=s;obtain⟨hl,h⟩:=h;wp_walk;exact⟨_,rfl,h⟩
theorem Pw(l:Addr)(items:Array Value)(n:Nat)(dd:Option Addr)(sl:Array (Option Value))(x:Int)(u:Tok)(h2:2≤x)(h3:x<2 ^ 60)(he:items.isEmpty=false)(hz:items.size*x.toNat≤sizeLine) :
  Meets (Builtin.«tuple.__mul__» ⟨[.ref l,.int x u],[]⟩) (fun _ R s=>s.heap.get? l=some { cls:=.type "tuple",dict:=dd,data:=.seq items n,slots:=sl }∧R (.ok (.ret (Value.ref s.heap.objs.size))) { s with heap:=s.heap.push { cls:=Value.type "tuple",data:=Data.seq ((List.replicate x.toNat items).foldl (fun a b=>a++b) #[]) } }):=
 .of_wp fun prog w A R s h=>by
  obtain⟨hp,g,d,tk,os⟩:=s;obtain⟨hl,h⟩:=h
  wp_walk
  refine Iw (by simp;omega) ?_
  wp_walk
  have ex:(items.size:Int)*x=((items.size*x.toNat:Nat):Int):=by
   rw[Int.natCast_mul,Int.toNat_of_nonneg (by omega)]
  have hs:=sizeLine_eq;refine Iw (by rw[he];simp;omega) ?_
  dsimp only;refine Iw (by rw[he];simp;omega) ?_
  refine Iw (by rw[ex];omega) ?_
  refine Iw (by rw[ex];unfold Builtin.Tuple.tupleTooMany;rw[decide_eq_true_eq];omega) ?_
  have fit:(List.foldl (fun x1 x2=>x1++x2) #[] (List.replicate x.toNat items)).size≤sizeLine:=by
   have e:=Eh items.toList x.toNat [];rw[List.nil_append] at e;have e:List.foldl (fun x1 x2=>x1++x2) #[] (List.replicate x.toNat items)=(List.replicate x.toNat items.toList).flatten.toArray:=by simpa using e
   rw[e,List.size_toArray,Ma,Array.length_toList,Nat.mul_comm];exact hz
  exact wpAny_bind (m:=Builtin.Tuple.tupleExact _) (wpAny_newObj_type (wpAny_pure ⟨_,rfl,h⟩) fit)
end
section
variable{X:Cx}
def dRepT:DR2:=fun x y G Q=>∃xs k,x=.tup xs∧y=.int k∧xs≠[]∧2≤k∧k<2 ^ 60∧xs.length*k.toNat≤sizeLine∧Q (.tup (List.replicate k.toNat xs).flatten) G
theorem Adm:QOp X (binaryOp .Mult) dRepT:=by
 rintro pins s σ H x y v u Q I rx ry ⟨dx,dy,G,Q',hx,hy,rg,⟨xs,k,ex,ey,hne,k2,k60,hz,q⟩,cl⟩;subst ex ey;cases hy;cases hx with
 |@tup _ a vs ea ra=>
  cases rx;obtain⟨t,rfl⟩:=ry;obtain⟨its,r1,p1,_⟩:=I.tuple (.inl (.inl ea));obtain⟨⟨cls,dd,data,sl⟩,ho,hcl,n,hd⟩:=id p1;simp only at hcl hd;subst hcl hd;have l1:=r1.length;have l2:=ra.length;have hsz:its.toArray.size*k.toNat≤sizeLine:=by rw[List.size_toArray,←l1,←l2];exact hz
  have he:its.toArray.isEmpty=false:=by
   cases its with
   |nil=>exact absurd (List.eq_nil_of_length_eq_zero (by rw[l2,l1];rfl)) hne
   |cons _ _=>rfl
  have hnew:List.foldl (fun a b=>a++b) #[] (List.replicate k.toNat its.toArray)=(List.replicate k.toNat its).flatten.toArray:=by
   have:=Eh its k.toNat []
   rw[List.nil_append] at this;exact this
  refine wpAny_binaryOp_repeat_ref (T:="tuple") (U:="int") (by decide) ⟨_,ho,rfl⟩ (fun s'=>typeIs_int s' k t) Dc PySem.F.fills_int_mul PySem.F.slot_int_rmul Fz PySem.F.slot_int_index.lookup
   (call_meets PySem.F.slot_int_rmul (typeIs_int s k t) PySem.F.entry_int_rmul (PySem.F.args_int_rmul_2 _ _) (D8 k t a its.toArray n dd sl)
    ⟨ho,rfl,⟨_,ho,rfl⟩,call_meets PySem.F.slot_tuple_mul ⟨_,ho,rfl⟩ PySem.F.entry_tuple_mul (PySem.F.args_tuple_mul_2 _ _) (Pw a its.toArray n dd sl k t k2 k60 he hsz) ⟨ho,?_⟩⟩)
  rw[hnew];have hp:=I.hok.fresh (Nat.le_refl s.heap.objs.size);refine⟨.ref s.heap.objs.size,_,I.laid (t':=s.toks) (o:=.tup (List.replicate k.toNat vs).flatten) (fun b o z=>Heap.get?_push_of_some _ z) (Nat.le_refl _) (show ObjOk X.prog X.w _ _ _ (.tup _) from⟨by rw[Ma,Nat.mul_comm,←l2];exact hz,_,r1.rep k.toNat,IsTup.new _ _⟩),rfl,?_⟩
  exact cl _ G q _ (Ext.fresh hp) (rg.tup hp) _ (.tup Ae ((ra.rep _).ext (Ext.fresh hp)))
end
end D3
namespace D3
open PySem PySem.Spec PyProof.Rows L2
section
variable{X:Cx}{pos:Pos}
theorem q_v1{i:Nat}{x:Str}(h:X.N[i]? = some x∧X.env.scope.names.lookup x=some .local∧(x == ("__debug__" : Str))=false∧(x == ("__classdict__" : Str))=false):QE X (.Name x pos) (Hk i):=Uc h.1 (.inl h.2.1) h.2.2.1 h.2.2.2
theorem q_v2{i:Nat}{x:Str}(h:X.N[i]? = some x∧X.env.scope.names.lookup x=some .cell∧(x == ("__debug__" : Str))=false∧(x == ("__classdict__" : Str))=false):QE X (.Name x pos) (Hk i):=Uc h.1 (.inr (.inl h.2.1)) h.2.2.1 h.2.2.2
theorem q_v3{i:Nat}{x:Str}(h:X.N[i]? = some x∧X.env.scope.names.lookup x=some .free∧(x == ("__debug__" : Str))=false∧(x == ("__classdict__" : Str))=false):QE X (.Name x pos) (Hk i):=Uc h.1 (.inr (.inr h.2.1)) h.2.2.1 h.2.2.2
end
end D3
namespace D3
open PySem PySem.Spec
open PyProof.Rows hiding St
open L2 hiding St
theorem U7{P:Program}{w:World}{H:Hp}{h:Heap}{a:Addr}{o:HO}(x:ObjOk P w H h a o):∃ob,h.get? a=some ob:=by
 cases o with
 |lst xs=>obtain⟨_,_,_,_,e⟩:=x;exact⟨_,e⟩
 |tup xs=>obtain⟨_,_,_,ob,e,_⟩:=x;exact⟨_,e⟩
 |dK kvs=>obtain⟨_,_,_,_,ob,_,_,e,_⟩:=x;exact⟨_,e⟩
 |dT kvs=>obtain⟨_,_,_,_,ob,_,_,e,_⟩:=x;exact⟨_,e⟩
 |set S n=>obtain⟨ob,_,_,_,e,_⟩:=x;exact⟨_,e⟩
 |ins C dx fs=>obtain⟨_,_,_,e,_⟩:=x;exact⟨_,e⟩
 |own y=>exact x
 |xd fs=>obtain⟨_,⟨_,_,_,e,_⟩,_⟩:=x;exact⟨_,e⟩
 |rng lo hi=>obtain⟨_,_,_,e⟩:=x;exact⟨_,e⟩
 |frz ob u=>exact⟨_,x.1⟩
 |tbl ps=>exact⟨_,x⟩
 |met f y=>exact⟨_,x⟩
 |ext φ=>exact x.2.1
def CX1(P:Program)(w:World):CXT:=fun outer H s E e s'=>∃(a C t:Addr) (H':Hp) (B:Heap),e=.ref a∧s'.os=s.os∧AllBare s'.gens∧Un (frs outer) [] H H' s.heap s'.heap∧HOk P w H' s'.heap∧
 Heap.FlyingW B outer a (.ref C) (.ref t) s'.heap∧(∀b o,s.heap.get? b=some o→b ∉ frs outer→(H b=none→B.get? b=some o)∧∃o',B.get? b=some o')∧
 (∀b u,H' b=some u→∀o,s'.heap.get? b=some o→B.get? b=some o)∧H' a=none∧E (.ref C) none H'
section
variable{X:Cx}{pins:List (Addr×Obj)}{σ:List (Option V)}{H:Hp}{s s':Shared}{E XE:XK}{e:Value}{E':Value→Shared→Prop}
theorem Fu{env:Env}{l:List Env}{L b:Addr}(hf:env.frame=some L):b∈frs (env::l)↔b=L∨b∈frs l:=by
 unfold frs;rw[List.filterMap_cons,hf];exact List.mem_cons
theorem Lu{fs ex:List Addr}{H H':Hp}{h h':Heap}(u:Un fs ex H H' h h'):Ext H H':=⟨u.tups,u.frzs⟩
theorem Rp{B h':Heap}{H':Hp}{G':Heap}(I:Inv X pins σ H s)(hst:X.stack=X.env::X.outer)(hfr:X.env.frame=some X.env.locals)(hex:X.ex=[])(un:Un (frs X.stack) [] H H' s.heap G')(hB:∀b o,s.heap.get? b=some o→b ∉ frs X.stack→(H b=none→B.get? b=some o)∧∃o',B.get? b=some o')(st:B.StaysIn h')(up:G'.UpToSlots h') :
  Un (frs X.outer) [] X.H₀ H' X.s₀.heap h'∧∀b o,X.s₀.heap.get? b=some o→b ∉ frs X.outer→(X.H₀ b=none→B.get? b=some o)∧∃o',B.get? b=some o':=by
 have u1:Un (frs X.outer) [] X.H₀ H X.s₀.heap s.heap:=by have:=I.base;rw[hex] at this;exact this
 rw[hst] at un hB;have no:∀b:Addr,b ∉ ([]:List Addr):=fun b=>by simp
 have nf:∀b o,X.s₀.heap.get? b=some o→b ∉ frs X.outer→b ∉ frs (X.env::X.outer):=fun b o e n m=>by
  rcases(Fu hfr).mp m with z|z
  ·exact absurd (Nat.lt_of_lt_of_le (Heap.lt_size e) I.ok.above) (by rw[z];exact Nat.lt_irrefl _)
  ·exact n z
 have key:∀b o,X.s₀.heap.get? b=some o→b ∉ frs X.outer→(X.H₀ b=none→B.get? b=some o)∧∃o',B.get? b=some o':=fun b o e n=>by
  refine⟨fun hn=>(hB b o (u1.keep b o e hn n (no b)) (nf b o e n)).1 (u1.free b o e hn (no b)),?_⟩;obtain⟨o1,e1⟩:=u1.there b o e (no b);exact(hB b o1 e1 (nf b o e n)).2
 have slt:∀b o,X.s₀.heap.get? b=some o→X.H₀ b=none→b∈frs X.outer→∃sl,h'.get? b=some { o with slots:=sl }:=fun b o e hn m=>by
  obtain⟨sl1,e1⟩:=u1.slot b o e hn m (no b);obtain⟨sl2,e2⟩:=un.slot b _ e1 (u1.free b o e hn (no b)) ((Fu hfr).mpr (.inr m)) (no b);obtain⟨_,o',e',nf'⟩:=I.ok.funs.mem m;rw[e] at e';cases e';obtain⟨sl3,e3⟩:=up b _ e2 nf';exact⟨sl3,e3⟩
 refine⟨⟨fun b o e hn n _=>st b o ((key b o e n).1 hn),fun b o e hn m _=>slt b o e hn m,fun b o e hn _=>?_,fun b o e _=>?_,fun b xs e=>un.tups b xs (u1.tups b xs e),fun b o u e=>un.frzs b o u (u1.frzs b o u e),fun b ps e=>?_⟩,key⟩
 ·have h1:=u1.free b o e hn (no b)
  by_cases m:b∈frs X.outer
  ·obtain⟨sl1,e1⟩:=u1.slot b o e hn m (no b);exact un.free b _ e1 h1 (no b)
  ·exact un.free b o (u1.keep b o e hn m (no b)) h1 (no b)
 ·by_cases m:b∈frs X.outer
  ·obtain⟨sl,q⟩:=slt b o e (I.ok.frf b m) m;exact⟨_,q⟩
  ·obtain⟨o',q⟩:=(key b o e m).2;exact⟨o',st b o' q⟩
 ·obtain⟨m1,q1⟩:=u1.tbls b ps e;obtain⟨m2,q2⟩:=un.tbls b _ q1;exact⟨m1++m2,by rw[q2,Array.append_assoc]⟩
theorem Ji{P:Program}{w:World}{B h h':Heap}{H':Hp}(hok:HOk P w H' h)(hT:∀b u,H' b=some u→∀o,h.get? b=some o→B.get? b=some o)(st:B.StaysIn h'):HOk P w H' h'∧∀b u,H' b=some u→∀o,h'.get? b=some o→B.get? b=some o:=by
 refine⟨fun b u q=>(hok b u q).stay (fun c v hc r=>?_) (fun c r=>r) (fun c xs r=>r),fun b u q o r=>?_⟩
 ·rcases hc with rfl|hc
  ·exact st _ _ (hT _ _ q _ r)
  ·exact st _ _ (hT _ _ hc _ r)
 ·obtain⟨ob,z⟩:=U7 (hok b u q);have y:=hT b u q ob z
  have:=st _ _ y
  rw[r] at this;cases this;exact y
theorem Nt(hst:X.stack=X.env::X.outer)(hfr:X.env.frame=some X.env.locals)(hex:X.ex=[])(I:Inv X pins σ H s)(h:CX1 X.prog X.w X.stack H s E e s')(hE:∀C H',Ext X.H₀ H'→E (.ref C) none H'→XE (.ref C) none H') :
  wpAny (model X.prog X.w) X.A (leaving X.env e) (fun _ s''=>CX1 X.prog X.w X.outer X.H₀ X.s₀ XE e s'') E' s':=by
 obtain⟨a,C,t,H',B,rfl,os,bare,un,hok,fl,hB,hT,hn,q⟩:=h;rw[hst] at fl;refine wpAny_leaves_onW (by rw[I.ok.frames,hst]) hfr fl fun h' fl' up=>?_
 obtain⟨u2,k2⟩:=Rp I hst hfr hex un hB fl'.1 up;obtain⟨ok2,t2⟩:=Ji hok hT fl'.1;exact⟨a,C,t,H',B,rfl,os.trans I.os,bare,u2,ok2,fl',k2,t2,hn,hE C H' (Lu u2) q⟩
theorem S7{C x:Addr}{h1:Heap}{vs:List Value}(hst:X.stack=X.env::X.outer)(hfr:X.env.frame=some X.env.locals)(hex:X.ex=[])(I:Inv X pins σ H s)(mk:Heap.MadeExcOf s.heap h1 x (.ref C) vs)(q:XE (.ref C) none H) :
  wpAny (model X.prog X.w) X.A (leaving X.env (.ref x)) (fun _ s''=>CX1 X.prog X.w X.outer X.H₀ X.s₀ XE (.ref x) s'') E' { s with heap:=h1 }:=by
 have hin:∀env∈X.env::X.outer,∀b,env.frame=some b→b∈frs X.stack:=fun env he b hb=>by rw[hst];exact List.mem_filterMap.mpr ⟨env,he,hb⟩
 have fun_:=I.stack;rw[hst] at fun_;refine wpAny_leaves_madeW (base:=W.hideAll s.heap (frs X.stack)) (h:=s.heap) (by rw[I.ok.frames,hst]) hfr (fun b o z=>W.of_hideAll _ z) (W.funFrames_hide fun_ hin) mk fun h' t fl _ _ up=>?_
 have hB:∀b o,s.heap.get? b=some o→b ∉ frs X.stack→(H b=none→(W.hideAll s.heap (frs X.stack)).get? b=some o)∧∃o',(W.hideAll s.heap (frs X.stack)).get? b=some o':=fun b o z n=>⟨fun _=>W.hideAll_get _ z n,o,W.hideAll_get _ z n⟩;have un:Un (frs X.stack) [] H H s.heap h1:=Un.kept mk.keeps;obtain⟨u2,k2⟩:=Rp I hst hfr hex un hB fl.1 up;obtain⟨ok2,t2⟩:=Ji I.hok (fun b u z o y=>W.hideAll_get _ y fun m=>by rw[I.stkFree b m] at z;cases z) fl.1
 have hn:H x=none:=by
  cases z:H x with
  |none=>rfl
  |some u=>
   obtain⟨ob,y⟩:=U7 (I.hok x u z);rw[mk.new] at y;cases y
 exact⟨x,C,t,H,_,rfl,I.os,I.bare,u2,ok2,fl,k2,t2,hn,q⟩
end
def Fx(E:DX):DX:=fun c G=>∃G',Sub G' G∧E c G'
theorem Fx.of{E:DX}{c:Value}{G:Gp}(h:E c G):Fx E c G:=⟨G,Sub.refl G,h⟩
def Wish(K:W.Frag)(H:Hp)(XE:XK)(E:DX):Prop:=∀c G',E c G'→Fwd K H G' fun H'=>∀ad,XE c ad H'
section
variable{P:Program}{w:World}{K:W.Frag}{mg:Str→Option Value}{base:Heap}{N:List Str}{qual:Str}{scope:Scope}{f:Addr}{cd:Value}{A:Around}{outer:List Env}{s:Shared}{H:Hp}{XE:XK}{E:DX}
theorem passX(hE:Wish K H XE E):By (CX1 P w) (Cw (CX1 P w) P w K mg base N qual scope f cd A outer s H XE) (E8 K (Fx E)):=
 fun pins σ H1 s1 e s' I h=>Nt (X:=Cw (CX1 P w) P w K mg base N qual scope f cd A outer s H XE) rfl rfl rfl I h fun C H' x ⟨G',rg,G2,sb,q⟩=>hE _ G2 q H' x (rg.ext' sb) none
theorem passF{X:Cx}:By (CX1 X.prog X.w) X (E8 X.K noX):=by rintro _ _ _ _ _ _ _ ⟨_,_,_,_,_,_,_,_,_,_,_,_,_,_,_,_,z⟩;exact z.elim
end
abbrev vErr:List Value:=[.type "ValueError",.type "Exception",.type "BaseException",.type "object"]
structure ExcK(K:W.Frag)(x:Str)(C:Addr):Prop where
 nm:W.nsIn K mainGlobals x=some (some (.ref C))
 ok:W.excIn K C vErr "ValueError.__new__" = true
theorem ExcK.own{K:W.Frag}{g:Heap}{mg:Str→Option Value}{x:Str}{C:Addr}(X:K.In g)(G:g.Ns mainGlobals mg)(z:ExcK K x C):OwnCls x C vErr "ValueError.__new__" mg g:=by
 refine⟨W.mg_of X G z.nm,?_⟩;have r:=z.ok;unfold W.excIn at r
 split at r
 case h_2=>cases r
 case h_1 dct cls sl0 at_=>
  split at r
  case h_2=>cases r
  case h_1 C' tl a0 a1 a2 a3 nid a5 e1 e2=>
   simp only[Bool.and_eq_true,beq_iff_eq,Bool.not_eq_true'] at r;obtain⟨⟨⟨⟨⟨r1,r2⟩,r3⟩,r4⟩,r5⟩,r6⟩:=r;subst r1 r2;obtain⟨b1,b2,b3,b4,b5,b6,b7,b8,b9,b10,b11⟩:=cls;dsimp only at e1 r3 r5 r6;subst e1 r3;have e3:sl0=#[a0,a1,a2,a3,some (.builtin "ValueError.__new__"),a5]:=by
    cases sl0 with
    |mk l=>exact congrArg Array.mk e2
   subst e3;exact⟨tl,b4,b1,b5,b2,b6,b7,b8,b9,b10,dct,a0,a1,a2,a3,a5,_,X _ _ at_,.of_isNs (W.isNs_of_in X r5),W.nsMap_none_of_in X r5 r6,W.tail_of_in X r4⟩
section
variable{X:Cx}{x:Str}{C:Addr}{np cpos pos:Pos}{e:Expr}
theorem Wd{tA:TA}{R:Hp→Prop}(hc:X.calm=true)(O:ExcK X.K x C)(ha:PA X [e] tA)(hx:∀pins σ H s h1 a vs,Inv X pins σ H s→R H→Heap.MadeExcOf s.heap h1 a (.ref C) vs→X.xe (.ref a) { s with heap:=h1 })(hg:Gl X x:=by rfl)(hd:(x == ("__debug__" : Str))=false:=by decide)(he:starEach [e] X.env=(false,eval e X.env)::starEach [] X.env:=by rfl)(hpl:(backTo cpos (starEach [] X.env)).any (·.1)=false:=by rfl) :
  PS X (.Raise (some (.Call (.Name x np) [e] [] cpos)) none pos) (fun D σ H=>tA σ H fun vs H1=>vs.length≤sizeLine∧R H1):=by
 intro pins s σ H D I h;have own:=O.own I.mod.kin I.mod.glob;obtain⟨tl,N,nm,q,bs,hdct,sn,sub,ab,col,dd,k0,k1,k2,k3,k5,mN,hC,hN,hni,T⟩:=own.obj;refine wpAny_Raise_call_subU (C:=C) (nm:=nm) (q:=q) (N:=N) (bs:=bs) (bm:=tl) (hdct:=hdct) (sn:=sn) (sub:=sub) (ab:=ab) (col:=col) (dd:=dd) (k0:=k0) (k1:=k1) (k2:=k2) (k3:=k3) (k5:=k5)
  PySem.F.excBase_ValueError (by decide) PySem.F.excBase_ValueError (mN:=mN) (T.hasType PySem.F.excBase_ValueError.hasBase) (I.ok.hd hc) (by rw[he];show(false||(backTo cpos (starEach [] X.env)).any (·.1))=false;rw[hpl];rfl) hni (Di I hg own.bound ⟨rfl,?_⟩ hd)
 have z:=ha cpos pins s σ H _ I h;rw[he] at z ⊢;exact Calls.evalArgs_plain (wpAny_mono z (fun us s2 ⟨vs,H1,I1,r,hl,q⟩=>⟨rfl,by show us.length≤_;rw[←r.length];exact hl,I1.bk _ _ hC,hN.keeps I1.bk,T.keeps I1.bk,fun h' a mk=>hx pins σ H1 s2 h' a us I1 q mk⟩) fun _ _ y=>y)
end
section
variable{P:Program}{w:World}{K:W.Frag}{mg:Str→Option Value}{base:Heap}{N:List Str}{qual:Str}{scope:Scope}{f:Addr}{cd:Value}{A:Around}{outer:List Env}{s:Shared}{H:Hp}{XE:XK}{E:DX}{x:Str}{C:Addr}{np cpos pos:Pos}{e:Expr}{tA:DTA}
def U9(E:DX)(C:Addr)(tA:DTA):DTS:=fun D σ G=>tA σ G fun ds G1=>ds.length≤sizeLine∧Fx E (.ref C) G1
theorem Vz(hE:Wish K H XE E)(O:ExcK K x C)(ha:QA (Cw (CX1 P w) P w K mg base N qual scope f cd A outer s H XE) [e] tA)(hg:Gl (Cw (CX1 P w) P w K mg base N qual scope f cd A outer s H XE) x:=by rfl)(hd:(x == ("__debug__" : Str))=false:=by decide)(he:starEach [e] (envOfC qual scope s.heap.objs.size f cd)=(false,eval e (envOfC qual scope s.heap.objs.size f cd))::starEach [] (envOfC qual scope s.heap.objs.size f cd):=by rfl)(hpl:(backTo cpos (starEach [] (envOfC qual scope s.heap.objs.size f cd))).any (·.1)=false:=by rfl) :
  QS (Cw (CX1 P w) P w K mg base N qual scope f cd A outer s H XE) (.Raise (some (.Call (.Name x np) [e] [] cpos)) none pos) (U9 E C tA):=
 (Wd (X:=Cw (CX1 P w) P w K mg base N qual scope f cd A outer s H XE) (R:=fun H1=>Ext H H1→XE (.ref C) none H1) rfl O ha (fun pins σ H1 s1 h1 a vs I q mk=>S7 (X:=Cw (CX1 P w) P w K mg base N qual scope f cd A outer s H XE) rfl rfl rfl I mk (q (Lu I.base))) hg hd he hpl).imp
  fun D σ H1 ⟨σD,G,D',rs,rg,h,cl⟩=>⟨σD,G,_,rs,rg,h,fun ds G1 ⟨hl,G2,sb,q⟩ H2 x2 rg2 vs dv=>⟨by rw[←dv.length];exact hl,fun x0=>hE _ G2 q H2 x0 (rg2.ext' sb) none⟩⟩
end
section
variable{P:Program}{w:World}{K:W.Frag}{mg:Str→Option Value}{base:Heap}
theorem okX{x qual:Str}{st:Stmt}{f:Addr}{fd:FuncData}{N ps:List Str}{k:Nat}{sp:DSp}(F:Fun K x qual st f fd)(S:FnScope N ps (defScope st))(len:∀ds G Q E,sp ds G Q E→ds.length=ps.length)(hbody:∀(cdv:Value) (A:Around) (outer:List Env) (s:Shared) (H:Hp) (XE:XK) (ds:List D) (G:Gp) (Q:DK) (E:DX),Room k (A.deeper (envOfC qual (defScope st) s.heap.objs.size f cdv))→sp ds G Q E→Wish K H XE E→
   ∃t,QSs (Cw (CX1 P w) P w K mg base N qual (defScope st) f cdv A outer s H XE) (defBody st) t∧t { nx:=fun _ G'=>Fq Q .non G',rt:=Fq Q } (B9 N ds) G):FnOk P w K mg base (CX1 P w) (k+1) f fd ps (liftSp K sp):=by
 obtain⟨oc,od,kV,doc,pm,an,cdv,ct,osl,rfl,lk,hcd⟩:=F.ex;refine Uq lk hcd S (fun vs H Q E ⟨ds,G,Q',E',dv,rg,h,_⟩=>by rw[←dv.length];exact len ds G Q' E' h) fun A outer s H vs Q XE hr ⟨ds,G,Q',E',dv,rg,h,cl,hE⟩=>?_
 obtain⟨t,ht,hq⟩:=hbody cdv A outer s H XE ds G Q' E' hr h hE;exact⟨_,ht,B9 N ds,G,_,Eg dv,rg,hq,⟨fun σD G1 ⟨G2,sb,q⟩ H1 x1 rg1 σ rs=>cl _ G2 q H1 x1 (rg1.ext' sb) _ .non,fun d G1 ⟨G2,sb,q⟩ H1 x1 rg1 v dv=>cl _ G2 q H1 x1 (rg1.ext' sb) _ dv,fun _ _ z=>z.elim,fun _ _ z=>z.elim⟩⟩
end
def Hd(CX:CXT)(P:Program)(w:World)(K:W.Frag)(mg:Str→Option Value)(base:Heap)(N:List Str)(q:Str)(scope:Scope)(f:Addr)(cd:Value)(clos:List (Str×Addr))(A:Around)(outer:List Env)(s:Shared)(H:Hp)(E:XK):Cx where
 prog:=P
 w:=w
 K:=K
 mg:=mg
 base:=base
 A:=A.deeper (W.envX q scope s.heap.objs.size f cd clos)
 N:=N
 s₀:=s
 H₀:=H
 env:=W.envX q scope s.heap.objs.size f cd clos
 outer:=outer
 stack:=W.envX q scope s.heap.objs.size f cd clos::outer
 ex:=[]
 calm:=true
 fn:=fun _=>false
 pn:=[]
 xe:=fun e s'=>wpAny (model P w) (A.deeper (W.envX q scope s.heap.objs.size f cd clos)) (leaving (W.envX q scope s.heap.objs.size f cd clos) e) (fun _ s''=>CX outer H s E e s'') (fun e' s''=>CX outer H s E e' s'') s'
structure LamScope(scope:Scope):Prop where
 kind:scope.kind=.function
 co:scope.isCoroutine=false
 gen:scope.isGenerator=false
 cell:∀y∈scope.names,y.2≠.cell
section
variable{P:Program}{w:World}{K:W.Frag}{mg:Str→Option Value}{base:Heap}{N:List Str}{q:Str}{scope:Scope}{f c:Addr}{clos:List (Str×Addr)}{A:Around}{outer:List Env}{s:Shared}{H:Hp}{E:XK}{k:Nat}{σ:L2.St}{Q:VK}{t:TE}{params:Arguments}{body:Expr}{pm ctv:Value}
theorem Zv(hr:Room k A)(e0:Env0 P w K mg base A outer s H)(ho:s.heap.get? f=some (lamO q params body scope clos pm (.ref c) ctv))(hcd:s.heap.CodeRec (.ref c) q)(S:LamScope scope)(hbind:bindArgs (W.kla_fn "<lambda>" q params body scope clos pm (.ref c) ctv) ⟨[],[]⟩=pure [])(hcl:∀x c',clos.lookup x=some c'→(∃v,s.heap.IsCell c' v)∧H c'=none)(hinj:∀x y c',clos.lookup x=some c'→clos.lookup y=some c'→x=y)(hhas:∀x,scope.names.lookup x=some .free→∃c',clos.lookup x=some c')(hσ:∀(i:Nat) (x:Str) (v:V),N[i]? = some x→σ[i]? = some (some v)→∃c' u,scope.names.lookup x=some .free∧clos.lookup x=some c'∧s.heap.IsCell c' (some u)∧RelV v u)(hlen:σ.length=N.length)(hbody:PE (Hd (CX1 P w) P w K mg base N q scope f (.ref c) clos A outer s H E) body t)(h:t σ H Q):codeAny (model P w) A (.call (.ref f) ⟨[],[]⟩) (CR (CX1 P w) outer P w H s Q E) s:=by
 have lim:s.heap.NoLimit:=e0.mod.nolimit.keeps fun b o e=>(e0.bs b o e).1;refine W.kla_callFunE (by have:=hr.dp;omega) ho rfl S.co S.gen rfl hcd ?_
 rw[hbind];refine wpAny_pure (wpAny_newFunctionEnv S.cell (by simp) (fun h₁ hns hsb=>⟨lim.fresh _ hsb,?_⟩) S.kind)
 show codeAny _ _ (.expr body (W.envX q scope s.heap.objs.size f (.ref c) clos)) _ _;have kp:∀b o,s.heap.get? b=some o→h₁.get? b=some o:=fun b o e=>hsb.extBut b o (Nat.ne_of_lt (Heap.lt_size e)) (Heap.get?_push_of_some _ e);have ok:(Hd (CX1 P w) P w K mg base N q scope f (.ref c) clos A outer s H E).Ok:=by
  refine⟨e0.mod,S.kind,rfl,rfl,Nat.le_refl _,fun x y c' h1 h2=>hinj x y c' h1 h2,fun x hx=>?_,fun x c' hf=>(by cases hf),fun _=>hr.hd,Around.frames_deeper e0.frames,.inr ⟨rfl,rfl⟩,fun b z=>absurd (show b∈([]:List Addr) from z) (by simp),e0.bs,e0.bsz,fun b _ _ z=>absurd (show b∈([]:List Addr) from z) (by simp),fun b z=>absurd (show b∈([]:List Addr) from z) (by simp),e0.funs,e0.frf⟩
  rcases hx with hx|hx
  ·exact absurd rfl (S.cell _ (PySem.mem_of_lookup (show scope.names.lookup x=some .cell from hx)))
  ·exact hhas x hx
 have I:Inv (Hd (CX1 P w) P w K mg base N q scope f (.ref c) clos A outer s H E) [] σ H { s with heap:=h₁,toks:=s.toks+([]:List (Str×Value)).length }:=by
  refine⟨ok,rfl,e0.bare,Un.kept kp,⟨_,hns,fun i x v h1 h2 _=>?_⟩,fun x c' hx=>?_,e0.hok.fresh (Nat.le_refl _),fun x c' hx=>(hcl x c' hx).2,fun p hp=>absurd (show p∈([]:List (Addr×Obj)) from hp) (by simp),e0.hok.kept kp,hlen⟩
  ·obtain⟨c',u,a1,a2,⟨o,a3,a4⟩,a5⟩:=hσ i x v h1 h2;exact⟨u,a5,.inr ⟨.inr a1,c',a2,o,kp _ _ a3,a4⟩⟩
  ·obtain⟨v,o,a3,a4⟩:=(hcl x c' hx).1;exact⟨v,o,kp _ _ a3,a4⟩
 refine W.kla_codeExpr (wpAny_mono (hbody [] _ σ H Q I h) (fun u s' hs=>?_) fun _ _ y=>y);obtain⟨v,H',J,rv,z⟩:=hs;exact⟨v,H',J.os,J.bare,J.base,J.hok,rv,z⟩
theorem passL{E2:XK}(hE:∀C H',Ext H H'→E2 (.ref C) none H'→E (.ref C) none H'):By (CX1 P w) (Hd (CX1 P w) P w K mg base N q scope f (.ref c) clos A outer s H E) E2:=
 fun pins σ H1 s1 e s' I h=>Nt (X:=Hd (CX1 P w) P w K mg base N q scope f (.ref c) clos A outer s H E) rfl rfl rfl I h hE
end
def mroK(K:W.Frag)(C:Addr):Option (List Value):=match K.lookup C with
 |some ⟨_,_,.cls cd,_⟩=>some cd.mro
 |_=>none
def ClsAt(g:Heap)(C:Addr)(tl:List Value):Prop:=∃N nm q bs hdct sn sub ab col dd k0 k1 k2 k3 k5 mN,g.get? C=some (excClassObj nm q C N bs tl hdct sn sub ab col dd k0 k1 k2 k3 k5 "ValueError.__new__")∧g.Ns N mN∧mN "__init__" = none∧OwnTail g vErr tl
theorem ClsAt.keeps{g g':Heap}{C:Addr}{tl:List Value}(z:ClsAt g C tl)(k:∀b o,g.get? b=some o→g'.get? b=some o):ClsAt g' C tl:=
 by obtain⟨N,nm,q,bs,hdct,sn,sub,ab,col,dd,k0,k1,k2,k3,k5,mN,hC,hN,hi,T⟩:=z;exact⟨N,nm,q,bs,hdct,sn,sub,ab,col,dd,k0,k1,k2,k3,k5,mN,k _ _ hC,hN.keeps k,hi,T.keeps k⟩
theorem ExcK.cls{K:W.Frag}{g:Heap}{mg:Str→Option Value}{x:Str}{C:Addr}{tl:List Value}(X:K.In g)(G:g.Ns mainGlobals mg)(z:ExcK K x C)(hm:mroK K C=some (.ref C::tl)):ClsAt g C tl:=by
 obtain⟨tl',N,nm,q,bs,hdct,sn,sub,ab,col,dd,k0,k1,k2,k3,k5,mN,hC,hN,hi,T⟩:=(z.own X G).obj;have e:tl'=tl:=by
  unfold mroK at hm
  split at hm
  ·rename_i a b cd c ho
   have:=X _ _ ho
   rw[hC] at this;cases this;injection hm with hm;injection hm
  ·cases hm
 subst e;exact⟨N,nm,q,bs,hdct,sn,sub,ab,col,dd,k0,k1,k2,k3,k5,mN,hC,hN,hi,T⟩
theorem S5{M:Model}{A:Around}{E:Value→Shared→Prop}{s:Shared}{e C B:Addr}{oe:Obj}{tl tm:List Value}{Q:Bool→Shared→Prop}(hC:ClsAt s.heap C tl)(hM:ClsAt s.heap B tm)(he:s.heap.get? e=some oe)(hcls:oe.cls=.ref C)(hB:tm.contains (.type "BaseException")=true)(hin:(Value.ref C::tl).contains (.ref B)=true)(q:Q true s):wpAny M A (excMatches (.ref e) (.ref B)) Q E s:=by
 obtain⟨N,nm,qn,bs,hdct,sn,sub,ab,col,dd,k0,k1,k2,k3,k5,mN,hC,_⟩:=hC;obtain⟨N',nm',qn',bs',hdct',sn',sub',ab',col',dd',k0',k1',k2',k3',k5',mN',hM,_⟩:=hM;obtain⟨h,g,d,t,os⟩:=s;have hcB:(Value.ref B::tm).contains (.type "BaseException")=true:=by rw[List.contains_cons,hB,Bool.or_true]
 have f:=tc_notTuple;unfold excMatches
 repeat (first|(with_reducible refine wpAny_loadPart_at he ?_;rw[hcls])|with_reducible refine wpAny_loadPart_at hM ?_|(with_reducible refine wpAny_isSubtype_exc hM ?_;rw[hcB])|(with_reducible refine wpAny_isSubtype_exc hC ?_;rw[hin])|wp_step)
 exact q
theorem Ya{fs:List Addr}{H H':Hp}{h G' h' B:Heap}(un:Un fs [] H H' h G')(hB:∀b o,h.get? b=some o→b ∉ fs→(H b=none→B.get? b=some o)∧∃o',B.get? b=some o')(st:B.StaysIn h')(up:G'.UpToSlots h')(hf:∀b∈fs,H b=none∧∀o,h.get? b=some o→∀vs,o.data≠.fields vs):Un fs [] H H' h h':=by
 have no:∀b:Addr,b ∉ ([]:List Addr):=fun b=>by simp
 have slt:∀b o,h.get? b=some o→H b=none→b∈fs→∃sl,h'.get? b=some { o with slots:=sl }:=fun b o e hn m=>by
  obtain⟨sl2,e2⟩:=un.slot b o e hn m (no b);obtain⟨sl3,e3⟩:=up b _ e2 ((hf b m).2 o e);exact⟨sl3,e3⟩
 refine⟨fun b o e hn n _=>st b o ((hB b o e n).1 hn),fun b o e hn m _=>slt b o e hn m,un.free,fun b o e _=>?_,un.tups,un.frzs,un.tbls⟩
 by_cases m:b∈fs
 ·obtain⟨sl,q⟩:=slt b o e (hf b m).1 m;exact⟨_,q⟩
 ·obtain⟨o',q⟩:=(hB b o e m).2;exact⟨o',st b o' q⟩
section
variable{X:Cx}{pins:List (Addr×Obj)}{σ:List (Option V)}{H:Hp}{s:Shared}
theorem Ok.re(h:X.Ok)(xe:Value→Shared→Prop)(pn:List (Addr×Obj)):Cx.Ok { X with xe:=xe,pn:=pn }:=⟨h.mod,h.kind,h.glob,h.blt,h.above,h.inj,h.has,h.cab,h.hd,h.frames,h.stk,h.exf,h.bs,h.bsz,h.noex,h.exfs,h.funs,h.frf⟩
theorem Ok.mark(h:X.Ok)(v:Option Value)(xe:Value→Shared→Prop)(pn:List (Addr×Obj)):Cx.Ok { X with A:=X.A.mark v,calm:=false,xe:=xe,pn:=pn }:=
 ⟨h.mod,h.kind,h.glob,h.blt,h.above,h.inj,h.has,h.cab,fun z=>(by cases z),h.frames,h.stk,h.exf,h.bs,h.bsz,h.noex,h.exfs,h.funs,h.frf⟩
theorem Ad3(I:Inv X pins σ H s)(xe:Value→Shared→Prop):Inv { X with xe:=xe,pn:=X.pn++pins } [] σ H s:=
 ⟨Ok.re I.ok xe _,I.os,I.bare,I.base,I.loc,I.cell,I.free,I.freeC,fun p hp=>I.pin p (by simpa using hp),I.hok,I.len⟩
theorem Fi{xe:Value→Shared→Prop}{more:List (Addr×Obj)}(ok:X.Ok)(I:Inv { X with xe:=xe,pn:=X.pn++pins } more σ H s):Inv X pins σ H s:=
 ⟨ok,I.os,I.bare,I.base,I.loc,I.cell,I.free,I.freeC,fun p hp=>I.pin p (List.mem_append_left _ hp),I.hok,I.len⟩
theorem Jj(I:Inv X pins σ H s)(v:Option Value)(xe:Value→Shared→Prop):Inv { X with A:=X.A.mark v,calm:=false,xe:=xe,pn:=X.pn++pins } [] σ H s:=
 ⟨Ok.mark I.ok v xe _,I.os,I.bare,I.base,I.loc,I.cell,I.free,I.freeC,fun p hp=>I.pin p (by simpa using hp),I.hok,I.len⟩
theorem Ju{v:Option Value}{xe:Value→Shared→Prop}{more:List (Addr×Obj)}(ok:X.Ok)(I:Inv { X with A:=X.A.mark v,calm:=false,xe:=xe,pn:=X.pn++pins } more σ H s):Inv X pins σ H s:=
 ⟨ok,I.os,I.bare,I.base,I.loc,I.cell,I.free,I.freeC,fun p hp=>I.pin p (List.mem_append_left _ hp),I.hok,I.len⟩
theorem Xd{a:Addr}{o:Obj}(I:Inv X pins σ H s)(ha:X.s₀.heap.get? a=none)(hL:a≠X.env.locals)(hc:∀x c,X.env.cells.lookup x=some c→c≠a)(hp:∀p∈X.pn++pins,p.1≠a)(hn:H a=none)(e:s.heap.get? a=some o) :
  Inv X pins σ (upd H a (.frz o topO)) s:=by
 have nb:∀b o',X.s₀.heap.get? b=some o'→b≠a:=fun b o' q z=>by rw[z,ha] at q;cases q
 refine⟨I.ok,I.os,I.bare,⟨I.base.keep,I.base.slot,fun b o' q n hx=>by rw[Ac (nb b o' q)];exact I.base.free b o' q n hx,I.base.there,fun b xs q=>?_,fun b o' u q=>?_,fun b ps q=>?_⟩,I.loc,I.cell,by rw[Ac hL.symm];exact I.free,fun x c q=>by rw[Ac (hc x c q)];exact I.freeC x c q,fun p hq=>?_,fun b u q=>?_,I.len⟩
 ·have q:=I.base.tups b xs q;rw[Ac (Ak q hn)];exact q
 ·have q:=I.base.frzs b o' u q;rw[Ac (Ak q hn)];exact q
 ·obtain⟨m,q⟩:=I.base.tbls b ps q;exact⟨m,by rw[Ac (Ak q hn)];exact q⟩
 ·obtain⟨p1,p2,p3⟩:=I.pin p hq;exact⟨p1,by rw[Ac (hp p hq)];exact p2,p3⟩
 ·by_cases hb:b=a
  ·subst hb;rw[Ae] at q;cases q;exact Kh e
  ·rw[Ac hb] at q;exact(I.hok b u q).stay (fun c v _ r=>r) (fun c r=>by rw[Ac (Ak r hn)];exact r) fun c xs r=>by rw[Ac (Ak r hn)];exact r
theorem Xe{g:Heap}{m:Str→Option Value}{tk:Nat}(I:Inv X pins σ H s)(hn:g.Ns X.env.locals m)(hs:Heap.SameBut X.env.locals s.heap g):Inv X pins (List.replicate X.N.length none) H { s with heap:=g,toks:=tk }:=by
 have nL:∀b o,X.s₀.heap.get? b=some o→b≠X.env.locals:=fun b o e=>Nat.ne_of_lt (Nat.lt_of_lt_of_le (Heap.lt_size e) I.ok.above);refine⟨I.ok,I.os,I.bare,⟨fun b o e n hb hx=>(hs.2 b (nL b o e)).trans (I.base.keep b o e n hb hx),fun b o e n hb hx=>?_,I.base.free,fun b o e hx=>?_,I.base.tups,I.base.frzs,I.base.tbls⟩,⟨m,hn,fun i x v _ e2 _=>?_⟩,fun x c e=>?_,I.free,I.freeC,fun p hp=>?_,fun b u q=>?_,by simp⟩
 ·obtain⟨sl,q⟩:=I.base.slot b o e n hb hx;exact⟨sl,(hs.2 b (nL b o e)).trans q⟩
 ·obtain⟨o',q⟩:=I.base.there b o e hx;exact⟨o',(hs.2 b (nL b o e)).trans q⟩
 ·rw[List.getElem?_replicate] at e2
  split at e2<;>cases e2
 ·obtain⟨v,o,q1,q2⟩:=I.cell x c e;exact⟨v,o,(hs.2 c (I.cne x c e)).trans q1,q2⟩
 ·obtain⟨p1,p2,p3,p4⟩:=I.pin p hp;exact⟨(hs.2 _ p3).trans p1,p2,p3,p4⟩
 ·refine(I.hok b u q).stay (fun c v hc r=>(hs.2 c fun z=>?_).trans r) (fun _ r=>r) fun _ _ r=>r;subst z;rcases hc with rfl|hc
  ·rw[I.free] at q;cases q
  ·rw[I.free] at hc;cases hc
end
section
variable{X:Cx}{E:XK}{M:Addr}{mn n:Str}{i:Nat}{body suite:List Stmt}{b0:Stmt}{np hpos pos:Pos}{tb ts:TS}{tm:List Value}
def Ut(o:Obj)(C:Addr):Prop:=o.cls=.ref C∧∃vs,o.data=.fields vs
theorem Acm(hc:X.calm=true)(hst:X.stack=X.env::X.outer)(hfr:X.env.frame=some X.env.locals)(hex:X.ex=[])(hN:X.N.Nodup)(hi:X.N[i]? = some n)(hl:X.env.scope.names.lookup n=some .local)(hmg:X.mg mn=some (.ref M))(hM:ExcK X.K mn M)(hmM:mroK X.K M=some (.ref M::tm))(hB:tm.contains (.type "BaseException")=true)(hb:∀xe' pn',By (CX1 X.prog X.w) { X with xe:=xe',pn:=pn' } E→PSs { X with xe:=xe',pn:=pn' } body tb)(hs:∀e xe' pn',PSs { X with A:=X.A.mark (some (.ref e)),calm:=false,xe:=xe',pn:=pn' } (b0::suite) ts)(hg:Gl X mn:=by rfl)(hd:(mn == ("__debug__" : Str))=false:=by decide) :
  PS X (.Try body [.ExceptHandler (some (.Name mn np)) (some n) (b0::suite) hpos] [] [] pos)
   (fun D σ H=>tb D σ H∧∀C H' a o,Ext X.H₀ H'→E (.ref C) none H'→H' a=none→Ut o C→∃x tl,ExcK X.K x C∧mroK X.K C=some (.ref C::tl)∧(Value.ref C::tl).contains (.ref M)=true∧
    ts { nx:=fun _ _=>False,rt:=D.rt } ((List.replicate X.N.length none).set i (some (.ref a))) (upd H' a (.frz o topO))):=by
 rintro pins s σ H D I ⟨h1,h2⟩;refine wpAny_Try_except (E:=X.xe) ?_;have ok:=I.ok;refine wpAny_mono (hb _ (X.pn++pins) ?_ [] s σ H D (Ad3 I _) h1) (fun f s1 z=>?_) fun _ _ y=>y
 case refine_2=>
  cases f with
  |next=>
   obtain⟨σ',H',J,q⟩:=z;exact wpAny_pure ⟨σ',H',Fi ok J,q⟩
  |brk=>obtain⟨σ',H',J,q⟩:=z;exact⟨σ',H',Fi ok J,q⟩
  |cont=>obtain⟨σ',H',J,q⟩:=z;exact⟨σ',H',Fi ok J,q⟩
  |ret u=>obtain⟨v,σ',H',J,r,q⟩:=z;exact⟨v,σ',H',Fi ok J,r,q⟩
 case refine_1=>
  intro pins' σ1 H1 s1 e s' I1 hcx;obtain⟨a,C,t,H',B,rfl,os,bare,un,hok,fl,hBk,hT,hn,q⟩:=hcx;obtain⟨-,-,fl3,-⟩:=id fl;have stk1:=I1.stack;have hff:∀b∈frs X.stack,H1 b=none∧∀o,s1.heap.get? b=some o→∀vs,o.data≠.fields vs:=fun b hb=>⟨I1.stkFree b hb,fun o e vs=>by
   obtain⟨_,o',e',nf⟩:=stk1.mem hb;rw[e] at e';cases e';exact nf vs⟩
  have move:∀g:Heap,B.StaysIn g→s'.heap.UpToSlots g→Inv X pins σ1 H' { s' with heap:=g }∧HOk X.prog X.w H' g:=fun g st up=>by
   obtain⟨ok2,_⟩:=Ji hok hT st;exact⟨Fi ok (I1.call' (s':={ s' with heap:=g }) os (Ya un hBk st up hff) ok2 bare (fun b z=>absurd z (by simp))),ok2⟩
  have fl':=fl;rw[hst] at fl';show wpAny _ _ (noteFrame _ _) _ _ _;refine wpAny_looks_onW (by rw[ok.frames,hst]) hfr fl' fun h4 held up4=>wpAny_landsW held fun h5 fl5 up5=>?_
  obtain⟨I5,_⟩:=move h5 fl5.1 (up4.trans up5);obtain⟨oe,ws,hoe,hoec,hoed,_⟩:=fl5.first
  have x0:Ext X.H₀ H':=(Lu I1.base).trans (Lu un);obtain⟨x,tl,hx,hmx,hin,_⟩:=h2 C H' a oe x0 q hn ⟨hoec,ws,hoed⟩;refine wpAny_handleBy_cons (codeAny_handlers_test ?_) (by intro z;cases z)
  refine Di (X:={ X with A:=X.A.mark (some (.ref a)),calm:=false,xe:=fun _ _=>True,pn:=X.pn++pins }) (Jj I5 (some (.ref a)) (fun _ _=>True)) hg hmg ?_ hd;have cC:ClsAt h5 C tl:=(hx.cls I5.mod.kin I5.mod.glob hmx).keeps I5.bk;have cM:ClsAt h5 M tm:=(hM.cls I5.mod.kin I5.mod.glob hmM).keeps I5.bk;refine S5 (s:={ s' with heap:=h5 }) cC cM hoe hoec hB hin ?_;refine codeAny_handlers_suite_as ?_;refine lands_againW fl5 fun h6 fl6 up6=>?_;obtain⟨I6,_⟩:=move h6 fl6.1 ((up4.trans up5).trans up6);obtain⟨o6,w6,ho6,hc6,hd6,_⟩:=fl6.first
  obtain⟨_,_,_,_,_,hts⟩:=h2 C H' a o6 x0 q hn ⟨hc6,w6,hd6⟩;have hBa:B.get? a=none:=fl.2.1;have nfr:a ∉ frs X.stack:=fun m=>by
   rw[hst] at m;obtain⟨_,o',e',nf⟩:=fl6.2.2.1.mem m;rw[ho6] at e';cases e';exact nf _ hd6
  have ns1:s1.heap.get? a=none:=by
   cases z:s1.heap.get? a with
   |none=>rfl
   |some o1=>
    obtain⟨o',y⟩:=(hBk a o1 z nfr).2;rw[hBa] at y;cases y
  have ns0:X.s₀.heap.get? a=none:=by
   cases z:X.s₀.heap.get? a with
   |none=>rfl
   |some o0=>
    obtain⟨o1,y⟩:=I1.base.there a o0 z (by show a ∉ X.ex;rw[hex];simp)
    rw[ns1] at y;cases y
  have nL:a≠X.env.locals:=fun z=>nfr (by rw[hst,z];exact(Fu hfr).mpr (.inl rfl))
  have nc:∀x c,X.env.cells.lookup x=some c→c≠a:=fun x c e z=>by
   obtain⟨v,o,e1,e2⟩:=I6.cell x c e;rw[z] at e1;rw[show({ s' with heap:=h6 }:Shared).heap.get? a=some o6 from ho6] at e1;cases e1;rw[hd6] at e2;cases e2
  have np:∀p∈X.pn++pins,p.1≠a:=fun p hp z=>by
   have:=(I1.pin p (List.mem_append_left _ hp)).1
   rw[z,ns1] at this;cases this
  have I7:Inv X pins (List.replicate X.N.length none) (upd H' a (.frz o6 topO)) { s' with heap:=h6 }:=Xd (I6.weak (by rw[List.length_replicate,I6.len]) fun j v e=>by
   rw[List.getElem?_replicate] at e
   split at e<;>cases e) ns0 nL nc np hn ho6
  refine B6 (X:={ X with A:=X.A.mark (some (.ref a)),calm:=false,xe:=fun _ _=>True,pn:=X.pn++pins }) (i:=i) (v:=.ref a) (Jj I7 (some (.ref a)) (fun _ _=>True)) hN hi (Or.inl hl) rfl (fun s8 I8=>?_) (.inr hl);have I8':Inv X pins ((List.replicate X.N.length none).set i (some (.ref a))) (upd H' a (.frz o6 topO)) s8:=Ju ok I8;refine wpAny_mono (hs a _ (X.pn++pins) [] s8 _ _ _ (Jj I8' (some (.ref a)) _) hts) (fun f s9 z=>?_) fun _ _ y=>y;cases f with
  |next=>obtain⟨_,_,_,z⟩:=z;exact z.elim
  |brk=>obtain⟨_,_,_,z⟩:=z;exact z.elim
  |cont=>obtain⟨_,_,_,z⟩:=z;exact z.elim
  |ret u=>
   obtain⟨v,σ9,H9,J,r,q9⟩:=z;have J:=Ju ok J;obtain⟨m,hnm,_⟩:=id J.loc;exact wpAny_nameGoes hl hnm (by rw[ok.kind];rfl) fun g m' hn' hs'=>⟨v,_,H9,Xe J hn' hs',r,q9⟩
end
end D3
namespace L2
open PySem PySem.Spec PyProof.Rows
structure FnS(P:Program)(w:World)(K:W.Frag)(mg:Str→Option Value)(base:Heap)(CX:CXT)(k:Nat)(f:Addr)(fd:FuncData)(ps:List Str)(sp:List Env→Shared→Sp):Prop where
 len:∀outer s vs H Q E,sp outer s vs H Q E→vs.length=ps.length
 run:∀(A:Around) (outer:List Env) (s:Shared) (H:Hp) (args:Args) (us:List Value) (vs:List V) (Q:VK) (E:XK),Room k A→Env0 P w K mg base A outer s H→BindsTo s fd args (ps.zip us)→Vals vs us→sp outer s vs H Q E→
  codeAny (model P w) A (.call (.ref f) args) (CR CX outer P w H s Q E) s

theorem Ad4{CX:CXT}{P:Program}{w:World}{K:W.Frag}{mg:Str→Option Value}{base:Heap}{k:Nat}{f:Addr}{name qual:Str}{params:Arguments}{body:List Stmt}{scope:Scope}{dV kV doc pm cdv ct oc:Value}{an od:Option Addr}{osl:Array (Option Value)}{N ps:List Str}{sp:List Env→Shared→Sp}(lk:K.lookup f=some ⟨oc,od,.func (W.fnOf name qual params body scope dV kV doc pm an cdv ct),osl⟩)(hcd:W.codeIn K cdv qual=true)(S:FnScope N ps scope)(len:∀outer s vs H Q E,sp outer s vs H Q E→vs.length=ps.length)(hbody:∀(A:Around) (outer:List Env) (s:Shared) (H:Hp) (vs:List V) (Q:VK) (E:XK),Room k (A.deeper (envOfC qual scope s.heap.objs.size f cdv))→sp outer s vs H Q E→
   ∃t,PSs (Cw CX P w K mg base N qual scope f cdv A outer s H E) body t∧t { nx:=fun _ H'=>Q .non H',rt:=Q } (start N vs) H) :
  FnS P w K mg base CX (k+1) f (W.fnOf name qual params body scope dV kV doc pm an cdv ct) ps sp:=by
 refine⟨len,fun A outer s H args us vs Q E hr e0 hb r hsp=>?_⟩;have hl:=len _ _ _ _ _ _ hsp;have KX:K.In s.heap:=e0.mod.kin.keeps fun b o e=>(e0.bs b o e).1;have lim:s.heap.NoLimit:=e0.mod.nolimit.keeps fun b o e=>(e0.bs b o e).1;have hkind:∀y∈ps.zip us,scope.names.lookup y.1=some .local∨(scope.names.lookup y.1=some .cell∧((cellsFrom (s.heap.objs.size+1) scope.names []).lookup y.1).isSome=true):=fun zz hy=>by
  obtain⟨n,v⟩:=zz;rcases S.par n (List.of_mem_zip hy).1 with q|q
  ·exact .inl q
  ·exact .inr ⟨q,W.cellsFrom_some _ _ _ (.inl q)⟩
 refine codeAny_call_function hr.depth (KX _ _ lk) rfl S.co S.gen rfl (W.codeRec_of KX hcd) (hb _ _ _ _ ?_);refine wpAny_newFunctionEnv_cells S.kind hkind fun env he s1 x=>?_;subst he;refine⟨lim.keeps x.toInCall.keep,codeAny_func ?_⟩;obtain⟨t,ht,hq⟩:=hbody A outer s H vs Q E (hr.deeper _) hsp;have I:Inv (Cw CX P w K mg base N qual scope f cdv A outer s H E) [] (start N vs) H s1:=K4 S hr.hd e0 hl r x;refine wpAny_mono (ht [] s1 (start N vs) H _ I hq) (fun fl s' hs=>?_) fun e s' hs=>hs;have fin:∀{σ':St} {H':Hp} {v:V} {u:Value},Inv (Cw CX P w K mg base N qual scope f cdv A outer s H E) [] σ' H' s'→RelV v u→Q v H'→CE outer P w H s Q u s':=
  fun {σ' H' v u} J rv q=>⟨v,H',J.os,J.bare,J.base,J.hok,rv,q⟩
 cases fl with
 |ret u=>
  obtain⟨v,σ',H',J,rv,q⟩:=hs;exact fin J rv q
 |next=>
  obtain⟨σ',H',J,q⟩:=hs;exact fin (v:=V.non) (u:=Value.none) J rfl q
 |brk=>
  obtain⟨_,_,_,q⟩:=hs;exact False.elim q
 |cont=>
  obtain⟨_,_,_,q⟩:=hs;exact False.elim q

structure RoomH(k:Nat)(A:Around):Prop where
 dp:A.depth+3*k+5<recursionLimit
 un:A.units+16*k+200<cLine
 gd:A.guards=some []
theorem RoomH.deeper{k:Nat}{A:Around}(r:RoomH (k+1) A)(env:Env):RoomH k (A.deeper env):=⟨by have:=r.dp;show A.depth+1+3*k+5<_;omega,by have:=r.un;show A.units+3+16*k+200<_;omega,r.gd⟩
theorem RoomH.depth{k:Nat}{A:Around}(r:RoomH k A):A.depth<recursionLimit:=by have:=r.dp;omega
theorem RoomH.of{k:Nat}{A:Around}(r:Room k A)(v:Option Value):RoomH k (A.mark v):=⟨r.dp,r.un,r.gd⟩

structure FnH(P:Program)(w:World)(K:W.Frag)(mg:Str→Option Value)(base:Heap)(CX:CXT)(k:Nat)(f:Addr)(fd:FuncData)(ps:List Str)(sp:Sp):Prop where
 len:∀vs H Q E,sp vs H Q E→vs.length=ps.length
 run:∀(A:Around) (outer:List Env) (s:Shared) (H:Hp) (args:Args) (us:List Value) (vs:List V) (Q:VK) (E:XK),RoomH k A→Env0 P w K mg base A outer s H→BindsTo s fd args (ps.zip us)→Vals vs us→sp vs H Q E→
  codeAny (model P w) A (.call (.ref f) args) (CR CX outer P w H s Q E) s

def Ko(CX:CXT)(P:Program)(w:World)(K:W.Frag)(mg:Str→Option Value)(base:Heap)(N:List Str)(qual:Str)(scope:Scope)(f:Addr)(cd:Value)(A:Around)(outer:List Env)(s:Shared)(H:Hp)(E:XK):Cx where
 prog:=P
 w:=w
 K:=K
 mg:=mg
 base:=base
 A:=A.deeper (envOfC qual scope s.heap.objs.size f cd)
 N:=N
 s₀:=s
 H₀:=H
 env:=envOfC qual scope s.heap.objs.size f cd
 outer:=outer
 stack:=envOfC qual scope s.heap.objs.size f cd::outer
 ex:=[]
 calm:=false
 fn:=fun _=>true
 pn:=[]
 xe:=fun e s'=>wpAny (model P w) (A.deeper (envOfC qual scope s.heap.objs.size f cd)) (leaving (envOfC qual scope s.heap.objs.size f cd) e) (fun _ s''=>CX outer H s E e s'') (fun e' s''=>CX outer H s E e' s'') s'


theorem Qh{CX:CXT}{P:Program}{w:World}{K:W.Frag}{mg:Str→Option Value}{base:Heap}{N ps:List Str}{qual:Str}{scope:Scope}{f:Addr}{cd:Value}{A:Around}{outer:List Env}{s s1:Shared}{H:Hp}{E:XK}{us:List Value}{vs:List V}(S:FnScope N ps scope)(e0:Env0 P w K mg base A outer s H)(hl:vs.length=ps.length)(r:Vals vs us)(x:InCallC s s.heap.objs.size (bindL (envOfC qual scope s.heap.objs.size f cd).kindOf (ps.zip us) fun _=>none) (cellsFrom (s.heap.objs.size+1) scope.names []) (bindC (envOfC qual scope s.heap.objs.size f cd).kindOf (ps.zip us) fun _=>none) s1) :
  Inv (Ko CX P w K mg base N qual scope f cd A outer s H E) [] (start N vs) H s1:=by
 have hpl:ps.length≤N.length:=by have:=congrArg List.length S.pre;rw[List.length_take] at this;omega
 obtain⟨h1,tk,rfl,hk⟩:=x.done;have noA:∀b:Addr,b ∉ (Ko CX P w K mg base N qual scope f cd A outer s H E).ex:=fun b z=>absurd (show b∈([]:List Addr) from z) (by simp)
 refine⟨⟨e0.mod,S.kind,rfl,rfl,Nat.le_refl _,fun y z c h1 h2=>?_,fun y hy=>?_,fun y c _ h=>?_,fun z=>(by cases z),Around.frames_deeper e0.frames,.inr ⟨rfl,rfl⟩,fun b z=>absurd z (noA b),e0.bs,e0.bsz,fun b _ _=>noA b,fun b z=>absurd z (noA b),e0.funs,e0.frf⟩,
  rfl,e0.bare,Un.kept hk,⟨_,x.toInCall.ns,fun i y v h1 h2 h3=>?_⟩,fun y c h=>⟨_,x.cell y c h⟩,e0.hok.fresh (Nat.le_refl _),fun y c h=>?_,fun p hp=>absurd (show p∈([]:List (Addr×Obj)) from hp) (by simp),e0.hok.kept hk,?_⟩
 ·exact name_of_addr x.apart (PySem.mem_of_lookup h1) (PySem.mem_of_lookup h2)
 ·have hy:scope.names.lookup y=some .cell∨scope.names.lookup y=some .free:=hy;rcases hy with hy|hy
  ·exact Fy hy
  ·exact absurd rfl (S.nofree _ (PySem.mem_of_lookup hy))
 ·exact Nat.le_of_lt (x.above y c (PySem.mem_of_lookup h))
 ·have hi:i<vs.length:=by
   unfold start at h2
   by_cases hi:i<vs.length
   ·exact hi
   ·rw[List.getElem?_append_right (by simpa using hi)] at h2
    rw[List.getElem?_replicate] at h2
    split at h2<;>cases h2
  have ha:vs[i]? = some v:=by
   unfold start at h2;rw[List.getElem?_append_left (by simpa using hi),List.getElem?_map] at h2
   cases e:vs[i]? with
   |none=>rw[e] at h2;cases h2
   |some a=>rw[e] at h2;cases h2;rfl
  obtain⟨u,hu,rv⟩:=r.get ha;have hp:ps[i]? = some y:=by
   rw[←S.pre,List.getElem?_take_of_lt (by omega)];exact h1
  have ndP:ps.Nodup:=by rw[←S.pre];exact S.nd.sublist (List.take_sublist _ _)
  refine⟨u,rv,?_⟩;rcases S.par y (List.mem_of_getElem? hp) with k|k
  ·exact .inl ⟨k,Gn ndP hp hu k⟩
  ·obtain⟨c,e⟩:=Fy (n:=s.heap.objs.size+1) k;refine .inr ⟨.inl k,c,e,?_⟩;have q:=x.cell y c e;rw[Go ndP hp hu (by show scope.names.lookup y≠_;rw[k];decide)] at q
   exact q
 ·exact e0.hok.fresh (Nat.le_of_lt (x.above y c (PySem.mem_of_lookup h)))
 ·unfold start;show _=N.length;rw[List.length_append,List.length_map,List.length_replicate];omega


theorem Ad5{CX:CXT}{P:Program}{w:World}{K:W.Frag}{mg:Str→Option Value}{base:Heap}{k:Nat}{f:Addr}{name qual:Str}{params:Arguments}{body:List Stmt}{scope:Scope}{dV kV doc pm cdv ct oc:Value}{an od:Option Addr}{osl:Array (Option Value)}{N ps:List Str}{sp:Sp}(lk:K.lookup f=some ⟨oc,od,.func (W.fnOf name qual params body scope dV kV doc pm an cdv ct),osl⟩)(hcd:W.codeIn K cdv qual=true)(S:FnScope N ps scope)(len:∀vs H Q E,sp vs H Q E→vs.length=ps.length)(hbody:∀(A:Around) (outer:List Env) (s:Shared) (H:Hp) (vs:List V) (Q:VK) (E:XK),RoomH k (A.deeper (envOfC qual scope s.heap.objs.size f cdv))→sp vs H Q E→
   ∃t,PSs (Ko CX P w K mg base N qual scope f cdv A outer s H E) body t∧t { nx:=fun _ H'=>Q .non H',rt:=Q } (start N vs) H) :
  FnH P w K mg base CX (k+1) f (W.fnOf name qual params body scope dV kV doc pm an cdv ct) ps sp:=by
 refine⟨len,fun A outer s H args us vs Q E hr e0 hb r hsp=>?_⟩;have hl:=len _ _ _ _ hsp;have KX:K.In s.heap:=e0.mod.kin.keeps fun b o e=>(e0.bs b o e).1;have lim:s.heap.NoLimit:=e0.mod.nolimit.keeps fun b o e=>(e0.bs b o e).1;have hkind:∀y∈ps.zip us,scope.names.lookup y.1=some .local∨(scope.names.lookup y.1=some .cell∧((cellsFrom (s.heap.objs.size+1) scope.names []).lookup y.1).isSome=true):=fun zz hy=>by
  obtain⟨n,v⟩:=zz;rcases S.par n (List.of_mem_zip hy).1 with q|q
  ·exact .inl q
  ·exact .inr ⟨q,W.cellsFrom_some _ _ _ (.inl q)⟩
 refine codeAny_call_function hr.depth (KX _ _ lk) rfl S.co S.gen rfl (W.codeRec_of KX hcd) (hb _ _ _ _ ?_);refine wpAny_newFunctionEnv_cells S.kind hkind fun env he s1 x=>?_;subst he;refine⟨lim.keeps x.toInCall.keep,codeAny_func ?_⟩;obtain⟨t,ht,hq⟩:=hbody A outer s H vs Q E (hr.deeper _) hsp;have I:Inv (Ko CX P w K mg base N qual scope f cdv A outer s H E) [] (start N vs) H s1:=Qh S e0 hl r x;refine wpAny_mono (ht [] s1 (start N vs) H _ I hq) (fun fl s' hs=>?_) fun e s' hs=>hs;have fin:∀{σ':St} {H':Hp} {v:V} {u:Value},Inv (Ko CX P w K mg base N qual scope f cdv A outer s H E) [] σ' H' s'→RelV v u→Q v H'→CE outer P w H s Q u s':=
  fun {σ' H' v u} J rv q=>⟨v,H',J.os,J.bare,J.base,J.hok,rv,q⟩
 cases fl with
 |ret u=>
  obtain⟨v,σ',H',J,rv,q⟩:=hs;exact fin J rv q
 |next=>
  obtain⟨σ',H',J,q⟩:=hs;exact fin (v:=V.non) (u:=Value.none) J rfl q
 |brk=>
  obtain⟨_,_,_,q⟩:=hs;exact False.elim q
 |cont=>
  obtain⟨_,_,_,q⟩:=hs;exact False.elim q

section
variable{X:Cx}{CX:CXT}{k:Nat}{f C:Addr}{fd:FuncData}{ps:List Str}{sp:Sp}{dvs:List V}{ds:List Value}{E:XK}{x m:Str}{p pos apos:Pos}{e o:Expr}{es:List Expr}{ta:TE}{t:TA}
theorem Yk{pins:List (Addr×Obj)}{σ:St}{H:Hp}{s:Shared}{Q:VK}{us:List Value}{vs:List V}(F:FnH X.prog X.w X.K X.mg X.base CX k f fd ps sp)(hr:RoomH k X.A)(hb:Binds X.K fd ps ds)(hd:Vals dvs ds)(hx:By CX X E)(I:Inv X pins σ H s)(r:Vals vs us)(h:sp (vs++dvs) H Q E):wpAny (model X.prog X.w) X.A (call (.ref f) us) (EP X pins σ Q) X.xe s:=by
 have r2:Vals (vs++dvs) (us++ds):=r.append hd;have hl:(us++ds).length=ps.length:=by rw[←r2.length];exact F.len _ _ _ _ h
 refine wpAny_call (codeAny_mono (F.run X.A X.stack s H ⟨us,[]⟩ (us++ds) (vs++dvs) Q E hr I.env0 (hb s us I.kIn hl) r2 h) fun r s' hq=>?_);cases r with
 |error e=>exact hx pins σ H s e s' I hq
 |ok fl=>
  cases fl with
  |ret u=>exact I.after hq
  |next=>exact False.elim hq
  |brk=>exact False.elim hq
  |cont=>exact False.elim hq


theorem Wm(F:FnH X.prog X.w X.K X.mg X.base CX k f fd ps sp)(hr:RoomH k X.A)(hg:Gl X x)(hm:X.mg x=some (.ref f))(hk:W.keepIn X.K (.ref f)=true)(hb:Binds X.K fd ps ds)(hd:Vals dvs ds)(hx:By CX X E)(ha:PA X (e::es) t)(hdb:(x == ("__debug__" : Str))=false:=by decide)(he:starEach (e::es) X.env=(false,eval e X.env)::starEach es X.env:=by rfl)(hpl:(backTo pos (starEach es X.env)).any (·.1)=false:=by rfl) :
  PE X (.Call (.Name x p) (e::es) [] pos) (Aak sp dvs E t):=by
 intro pins s σ H Q I h;refine wpAny_Call_Name_kw (Di I hg hm ?_ hdb);refine W.callWith_K (h₀:=X.base) I.ok.mod.kin hk (thn (ha pos pins s σ H _ I h) fun us s1 ⟨vs,H1,I1,r,q⟩=>⟨I1.kIn,?_⟩) he hpl;exact Yk F hr hb hd hx I1 r q

end
end L2
namespace D3
open PySem PySem.Spec
open PyProof.Rows hiding St
open L2 hiding St
structure LamAt(K:W.Frag)(outer:List Env)(s:Shared)(H:Hp)(f:Addr)(q:Str)(params:Arguments)(body:Expr)(scope:Scope)(clos:List (Str×Addr))(pm:Value)(c:Addr)(ctv:Value)(N:List Str)(σ:L2.St):Prop where
 fn:H f=some (.frz (lamO q params body scope clos pm (.ref c) ctv) topO)
 code:∃oc u,H c=some (.frz oc u)∧CodeIs oc q
 sc:LamScope scope
 bind:bindArgs (W.kla_fn "<lambda>" q params body scope clos pm (.ref c) ctv) ⟨[],[]⟩=pure []
 cl:∀x c',clos.lookup x=some c'→(∃v,s.heap.IsCell c' v)∧H c'=none∧c' ∉ frs outer
 inj:∀x y c',clos.lookup x=some c'→clos.lookup y=some c'→x=y
 has:∀x,scope.names.lookup x=some .free→∃c',clos.lookup x=some c'
 val:∀(i:Nat) (x:Str) (v:V),N[i]? = some x→σ[i]? = some (some v)→∃c' u,scope.names.lookup x=some .free∧clos.lookup x=some c'∧s.heap.IsCell c' (some u)∧RelV v u
 len:σ.length=N.length
section
variable{X:Cx}{E:XK}{f c:Addr}{q:Str}{params:Arguments}{body:Expr}{scope:Scope}{clos:List (Str×Addr)}{pm ctv:Value}{N:List Str}{σ3:L2.St}{k i:Nat}{x:Str}{p pos:Pos}{t3:TE}
theorem Wl(hex:X.ex=[])(L:LamAt X.K X.outer X.s₀ X.H₀ f q params body scope clos pm c ctv N σ3)(hr:Room k X.A)(hx:By (CX1 X.prog X.w) X E)(hb:∀s H,PE (Hd (CX1 X.prog X.w) X.prog X.w X.K X.mg X.base N q scope f (.ref c) clos X.A X.stack s H E) body t3)(hN:X.N[i]? = some x:=by rfl)(hv:Vis X.env.scope x:=by first|exact Or.inl rfl|exact Or.inr (Or.inl rfl)|exact Or.inr (Or.inr rfl))(hd:(x == ("__debug__" : Str))=false:=by decide)(hcd:(x == ("__classdict__" : Str))=false:=by decide) :
  PE X (.Call (.Name x p) [] [] pos) (fun σ H Q=>σ[i]? = some (some (.ref f))∧t3 σ3 H Q):=by
 rintro pins s σ H Q I ⟨hσ,h⟩;refine wpAny_Call_Name_kw (thn (Lq hN hv hd hcd pins s σ H (fun v H1=>v=.ref f∧H1=H) I ⟨_,hσ,rfl,rfl⟩) fun u s1 zz=>?_);obtain⟨v,H1,I1,r,e1,e2⟩:=zz;subst e1 e2;obtain rfl:u=Value.ref f:=r;have no:∀b:Addr,b ∉ X.ex:=fun b=>by rw[hex];simp
 have fo:s1.heap.get? f=some (lamO q params body scope clos pm (.ref c) ctv):=(I1.hok f _ (I1.base.frzs _ _ _ L.fn)).1;obtain⟨oc,uc,hcH,vs,t,hd1,hd2⟩:=L.code;have co:s1.heap.get? c=some oc:=(I1.hok c _ (I1.base.frzs _ _ _ hcH)).1;have cellk:∀x c',clos.lookup x=some c'→∀v,X.s₀.heap.IsCell c' v→s1.heap.IsCell c' v:=fun x c' hx v ⟨o,a1,a2⟩=>⟨o,I1.base.keep _ _ a1 (L.cl x c' hx).2.1 (L.cl x c' hx).2.2 (no _),a2⟩;refine W.callWith_F0 ⟨_,_,_,_,fo⟩ (wpAny_call (codeAny_mono (Zv (E:=E) (t:=t3) (Q:=Q) (N:=N) (σ:=σ3) hr I1.env0 fo ⟨c,oc,vs,t,rfl,co,hd1,hd2⟩ L.sc L.bind (fun x c' hx=>?_) L.inj L.has (fun i x v h1 h2=>?_) L.len (hb s1 H1) h) fun r s' hq=>?_))
 ·obtain⟨⟨v,o,a1,a2⟩,b2,b3⟩:=L.cl x c' hx;exact⟨⟨v,cellk x c' hx v ⟨o,a1,a2⟩⟩,I1.base.free _ _ a1 b2 (no _)⟩
 ·obtain⟨c',u,a1,a2,a3,a4⟩:=L.val i x v h1 h2;exact⟨c',u,a1,a2,cellk x c' a2 _ a3,a4⟩
 ·cases r with
  |error e=>exact hx pins σ H1 s1 e s' I1 hq
  |ok fl=>
   cases fl with
   |ret u=>exact I1.after hq
   |next=>exact False.elim hq
   |brk=>exact False.elim hq
   |cont=>exact False.elim hq
end
section
variable{X:Cx}{CX:CXT}{k:Nat}{f:Addr}{fd:FuncData}{ps:List Str}{sp:List Env→Shared→Sp}{E:XK}{x:Str}{p pos:Pos}{e:Expr}{es:List Expr}{t:TA}
theorem Wk(F:FnS X.prog X.w X.K X.mg X.base CX k f fd ps sp)(hr:Room k X.A)(hm:X.mg x=some (.ref f))(hk:W.keepIn X.K (.ref f)=true)(hb:Binds X.K fd ps [])(hx:By CX X E)(ha:PA X (e::es) t)(hg:Gl X x:=by rfl)(hdb:(x == ("__debug__" : Str))=false:=by decide)(he:starEach (e::es) X.env=(false,eval e X.env)::starEach es X.env:=by rfl)(hpl:(backTo pos (starEach es X.env)).any (·.1)=false:=by rfl) :
  PE X (.Call (.Name x p) (e::es) [] pos) (fun σ H Q=>t σ H fun vs H1=>∀pins s1,Inv X pins σ H1 s1→sp X.stack s1 vs H1 Q E):=by
 intro pins s σ H Q I h;refine wpAny_Call_Name_kw (Di I hg hm ?_ hdb);refine W.callWith_K (h₀:=X.base) I.ok.mod.kin hk (thn (ha pos pins s σ H _ I h) fun us s1 ⟨vs,H1,I1,r,q⟩=>⟨I1.kIn,?_⟩) he hpl;have q:=q pins s1 I1;have hl:us.length=ps.length:=by rw[←r.length];exact F.len _ _ _ _ _ _ q
 have bd:=hb s1 us I1.kIn (by rw[List.append_nil];exact hl)
 rw[List.append_nil] at bd;refine wpAny_call (codeAny_mono (F.run X.A X.stack s1 H1 ⟨us,[]⟩ us vs Q E hr I1.env0 bd r q) fun r s' hq=>?_);cases r with
 |error e=>exact hx pins σ H1 s1 e s' I1 hq
 |ok fl=>
  cases fl with
  |ret u=>exact I1.after hq
  |next=>exact False.elim hq
  |brk=>exact False.elim hq
  |cont=>exact False.elim hq
end
section
variable{P:Program}{w:World}{K:W.Frag}{mg:Str→Option Value}{base:Heap}
def Pi(P:Program)(w:World)(K:W.Frag)(mg:Str→Option Value)(base:Heap)(kr:Nat)(M:Addr)(spW:Sp):List Env→Shared→Sp:=fun outer s vs H Q _=>∃f q params body scope clos pm c ctv N σ3 t3 E1,vs=[V.ref f]∧LamAt K outer s H f q params body scope clos pm c ctv N σ3∧
 (∀A outer s H,Room kr A→PE (Hd (CX1 P w) P w K mg base N q scope f (.ref c) clos A outer s H E1) body t3)∧t3 σ3 H (fun v H'=>1≤sizeLine∧∀p,H' p=none→Q (.ref p) (upd H' p (.lst [v])))∧
 ∀C H' a o,Ext H H'→E1 (.ref C) none H'→H' a=none→Ut o C→∃x tl,ExcK K x C∧mroK K C=some (.ref C::tl)∧(Value.ref C::tl).contains (.ref M)=true∧spW [.ref a] (upd H' a (.frz o topO)) Q E0
abbrev Nd(cn mn en wn:Str)(p1 p2 p3 p4 p5 p6 p7 p8 p9 p10 p11:Pos):List Stmt:=
 [.Try [.Return (some (.List [.Call (.Name cn p1) [] [] p2] p3)) p4] [.ExceptHandler (some (.Name mn p5)) (some en) [.Return (some (.Call (.Name wn p6) [.Name en p7] [] p8)) p9] p10] [] [] p11]
theorem Wu{k kw:Nat}{f fw M:Addr}{fdw:FuncData}{name qual cn mn en wn:Str}{params:Arguments}{scope:Scope}{dV kV doc pm cdv ct oc:Value}{an od:Option Addr}{osl:Array (Option Value)}{spW:Sp}{tm:List Value}{p1 p2 p3 p4 p5 p6 p7 p8 p9 p10 p11:Pos}(lk:K.lookup f=some ⟨oc,od,.func (W.fnOf name qual params (Nd cn mn en wn p1 p2 p3 p4 p5 p6 p7 p8 p9 p10 p11) scope dV kV doc pm an cdv ct),osl⟩)(hcd:W.codeIn K cdv qual=true)(S:FnScope [cn,en] [cn] scope)(hM:ExcK K mn M)(hmg:mg mn=some (.ref M))(hmM:mroK K M=some (.ref M::tm))(hB:tm.contains (.type "BaseException")=true)(FW:FnH P w K mg base CX0 kw fw fdw [en] spW)(hmw:mg wn=some (.ref fw))(hkw:W.keepIn K (.ref fw)=true)(hbw:Binds K fdw [en] [])(hk1:kw+2≤k){kr:Nat}(hk2:kr≤k)(hc1:scope.names.lookup cn=some .local)(hc2:scope.names.lookup en=some .local)(hgm:∀L cd,(envOfC qual scope L f cd).kindOf mn=some .globalImplicit)(hgw:∀L cd,(envOfC qual scope L f cd).kindOf wn=some .globalImplicit)(d1:(cn == ("__debug__" : Str))=false)(d2:(cn == ("__classdict__" : Str))=false)(d3:(mn == ("__debug__" : Str))=false)(d4:(wn == ("__debug__" : Str))=false)(d5:(en == ("__debug__" : Str))=false)(d6:(en == ("__classdict__" : Str))=false) :
  FnS P w K mg base (CX1 P w) (k+1) f (W.fnOf name qual params (Nd cn mn en wn p1 p2 p3 p4 p5 p6 p7 p8 p9 p10 p11) scope dV kV doc pm an cdv ct) [cn] (Pi P w K mg base kr M spW):=by
 refine Ad4 lk hcd S (fun outer s vs H Q E z=>by obtain⟨_,_,_,_,_,_,_,_,_,_,_,_,_,e,_⟩:=z;rw[e];rfl) fun A outer s H vs Q E hr z=>?_
 obtain⟨fl,q,ps,body,sc,clos,pm',c,ctv,N,σ3,t3,E1,e,L,hb,ht,hE⟩:=z;subst e;have try_:=Acm (X:=Cw (CX1 P w) P w K mg base [cn,en] qual scope f cdv A outer s H E) (E:=E1) (M:=M) (mn:=mn) (n:=en) (i:=1) (np:=p5) (hpos:=p10) (pos:=p11) (b0:=.Return (some (.Call (.Name wn p6) [.Name en p7] [] p8)) p9) (suite:=[])
  (body:=[.Return (some (.List [.Call (.Name cn p1) [] [] p2] p3)) p4]) (tm:=tm) rfl rfl rfl rfl S.nd rfl hc2 hmg hM hmM hB (fun xe' pn' hx=>Ie (Pm (U5 (Ec (Wl (i:=0) (x:=cn) (E:=E1) (t3:=t3) rfl L hr hx (fun s' H'=>hb _ _ s' H' (hr.mono hk2)) rfl (.inl hc1) d1 d2) pa_nil))))
  (fun e xe' pn'=>Ie (Pm (Wm (dvs:=[]) (ds:=[]) FW (RoomH.of (hr.mono (by omega)) _) (hgw _ _) hmw hkw hbw .nil (E:=E0) (fun _ _ _ _ _ _ _ h=>h.elim) (Ec (Lq (i:=1) rfl (.inl hc2) d5 d6) pa_nil) d4))) (hgm _ _) d3
 refine⟨_,Ie try_,⟨rfl,ht⟩,fun C H' a o z0 z1 z2 z3=>?_⟩;obtain⟨x,tl,h1,h2,h3,h4⟩:=hE C H' a o z0 z1 z2 z3;exact⟨x,tl,h1,h2,h3,.ref a,rfl,h4⟩
end
def AllP{α:Type}(f:α→Prop):List α→Prop
 |[]=>True
 |a::l=>f a∧AllP f l
theorem AllP.get{α:Type}{f:α→Prop}:∀{l:List α},AllP f l→∀a∈l,f a
 |a::l,h,b,hb=>by
  rcases List.mem_cons.mp hb with rfl|hb
  ·exact h.1
  ·exact AllP.get h.2 b hb
def excIs(C:Addr)(H:Hp)(a:Addr):Prop:=∃o u,H a=some (.frz o u)∧Ut o C
def whX(K:W.Frag)(M:Addr)(wD:DSp)(Q:DK):DX:=fun c G=>∃C x tl,c=.ref C∧ExcK K x C∧mroK K C=some (.ref C::tl)∧(Value.ref C::tl).contains (.ref M)=true∧∀a,G a=none→wD [.ref a] (Ab G a (.any (excIs C))) Q noX
structure Said(P:Program)(w:World)(K:W.Frag)(mg:Str→Option Value)(base:Heap)(k kr:Nat)(x:Str)(M:Addr)(wD:DSp):Prop where
 ex:∃f fd cn,FnS P w K mg base (CX1 P w) k f fd [cn] (Pi P w K mg base kr M (liftSp K wD))∧mg x=some (.ref f)∧W.keepIn K (.ref f)=true∧Binds K fd [cn] []
def M6(K:W.Frag)(M:Addr)(wD:DSp)(T:Addr)(q:Str)(idx:List Nat)(tb:DX→DTE):DTE:=fun σ G Q=>G T=some (.tbl q)∧
 tb (whX K M wD Q) (idx.map fun i=>(σ[i]?).join) G (fun d G'=>1≤sizeLine∧∀p,G' p=none→Q (.ref p) (Ab G' p (.lst [d])))
section
variable{X:Cx}
theorem Acb{k kr:Nat}{x:Str}{M T c0:Addr}{wD:DSp}{params:Arguments}{body:Expr}{scope:Scope}{clos:List (Str×Addr)}{N:List Str}{idx:List Nat}{tb:DX→DTE}{p lp pos:Pos}(S:Said X.prog X.w X.K X.mg X.base k kr x M wD)(hr:Room k X.A)(hcode:X.env.code=.ref c0)(hC:W.codeHdIn X.K c0 T=true)(hst:X.stack=X.env::X.outer)(hfr:X.env.frame=some X.env.locals)(hfn:∀x,X.fn x=true)(hb:∀E f c A outer s H,Room kr A→QE (Hd (CX1 X.prog X.w) X.prog X.w X.K X.mg X.base N (X.env.qual ++ "<lambda>") scope f (.ref c) clos A outer s H (E8 X.K E)) body (tb E))(hcl:closureFor scope X.env=pure clos)(hdef:defaultsOf params X.env=([],[]))(hsub:AllP (fun p:Str×Addr=>X.env.cells.lookup p.1=some p.2) clos)(hN:AllP (fun x:Str=>scope.names.lookup x=some .free∧X.env.kindOf x=some .cell∧clos.lookup x=X.env.cells.lookup x) N)(hix:idx.map (fun i=>X.N[i]?)=N.map some)(hfv:(scope.names.all fun p=>p.2 != .free||N.contains p.1)=true)(hS:LamScope scope)(hbind:∀q clos pm cv ctv,bindArgs (W.kla_fn "<lambda>" q params body scope clos pm cv ctv) ⟨[],[]⟩=pure [])(hg:Gl X x:=by rfl)(hdb:(x == ("__debug__" : Str))=false:=by decide)(he:starEach [.Lambda params body scope lp] X.env=(false,eval (.Lambda params body scope lp) X.env)::starEach [] X.env:=by rfl)(hpl:(backTo pos (starEach [] X.env)).any (·.1)=false:=by rfl) :
  QE X (.Call (.Name x p) [.Lambda params body scope lp] [] pos) (M6 X.K M wD T (X.env.qual ++ "<lambda>") idx tb):=by
 obtain⟨fs,fd,cn,F,hm,hk,hbi⟩:=S.ex;refine(Wk (E:=E8 X.K noX) F hr hm hk hbi passF (Ec (U6 hdef hcl hcode hC) pa_nil he) hg hdb he hpl).imp fun σ H Q zz=>?_;obtain⟨σD,G,Q',rs,rg,⟨eT,h⟩,cl⟩:=zz;have key:∀H1 f c oc u ctv,Ext H H1→RelG X.K H1 G→H1 f=some (.frz (lamO (X.env.qual ++ "<lambda>") params body scope clos ((X.mg "__name__").getD .none) (.ref c) ctv) topO)→H1 c=some (.frz oc u)→CodeIs oc (X.env.qual ++ "<lambda>")→∀pins s1,Inv X pins σ H1 s1→
   Pi X.prog X.w X.K X.mg X.base kr M (liftSp X.K wD) X.stack s1 [.ref f] H1 Q (E8 X.K noX):=fun H1 f c oc u ctv x1 rg1 hf hc hci pins s1 I=>by
  have nl:∀(i:Nat) y,N[i]? = some y→∃j,idx[i]? = some j∧X.N[j]? = some y:=fun i y e=>by
   have z:=congrArg (fun l=>l[i]?) hix;simp only[List.getElem?_map,e,Option.map_some] at z;cases q:idx[i]? with
   |none=>rw[q] at z;cases z
   |some j=>rw[q] at z;exact⟨j,rfl,by simpa using z⟩
  have il:idx.length=N.length:=by have:=congrArg List.length hix;simpa using this
  refine⟨f,_,params,body,scope,clos,_,c,ctv,N,idx.map fun i=>(σ[i]?).join,Bi X.K (tb (whX X.K M wD Q')),E8 X.K (whX X.K M wD Q'),rfl,⟨hf,⟨oc,u,hc,hci⟩,hS,hbind _ _ _ _ _,fun y c' e=>?_,fun y z c' e1 e2=>?_,fun y e=>?_,fun i y v e1 e2=>?_,by rw[List.length_map,il]⟩,fun A outer s H hr=>hb _ f c A outer s H hr,?_,fun C H' a o x2 ⟨G',rg2,C',y,tl,ec,hx,hmx,hin,h2⟩ ha ho=>?_⟩
  ·have e':=hsub.get _ (PySem.mem_of_lookup e);obtain⟨v,o,hv1,hv2⟩:=I.cell y c' e';refine⟨⟨v,o,hv1,hv2⟩,I.freeC y c' e',fun m=>?_⟩;rw[hst] at m;rcases(Fu hfr).mp m with z|z
   ·obtain⟨m,⟨o',es,ep,n1,n2,_⟩,_⟩:=I.loc;rw[←z,hv1] at n1;cases n1;rw[hv2] at n2;cases n2
   ·obtain⟨_,o',e2,_⟩:=I.ok.funs.mem z;exact absurd (Nat.lt_of_lt_of_le (Heap.lt_size e2) (I.ok.cab y c' (hfn y) e')) (Nat.lt_irrefl _)
  ·exact I.ok.inj y z c' (hsub.get _ (PySem.mem_of_lookup e1)) (hsub.get _ (PySem.mem_of_lookup e2))
  ·have z:=List.all_eq_true.mp hfv _ (PySem.mem_of_lookup e);have z:y∈N:=by simpa using z
   obtain⟨_,kc,el⟩:=hN.get y z;obtain⟨c',ec⟩:=I.ok.has y (.inl kc);exact⟨c',by rw[el];exact ec⟩
  ·obtain⟨j,ej,en⟩:=nl i y e1;rw[List.getElem?_map,ej] at e2;have e2:σ[j]? = some (some v):=by
    cases q:σ[j]? with
    |none=>simp[q] at e2
    |some w=>simp[q] at e2;rw[e2]
   obtain⟨f1,kc,el⟩:=hN.get y (List.mem_of_getElem? e1);obtain⟨m,n1,n2⟩:=I.loc;obtain⟨u,r,lk⟩:=n2 j y v en e2 (.inr (.inl kc));rcases lk with ⟨k1,_⟩|⟨_,c',k2,k3⟩
   ·rw[kc] at k1;cases k1
   ·exact⟨c',u,f1,by rw[el];exact k2,k3,r⟩
  ·refine⟨idx.map fun i=>(σD[i]?).join,G,_,⟨by simp,fun i d e=>?_⟩,rg1,h,fun d G' ⟨hl,q⟩ H2 x2 rg2 v dv=>⟨hl,fun p hp=>cl _ _ (q p (rg2.free hp)) _ (x1.trans (x2.trans (Ext.fresh hp))) (rg2.new hp ⟨[v],Ae,.cons (dv.ext (Ext.fresh hp)) .nil⟩) _ (.ref p)⟩⟩
   rw[List.getElem?_map] at e ⊢;cases q:idx[i]? with
   |none=>rw[q] at e;cases e
   |some j=>
    rw[q] at e;have e:σD[j]? = some (some d):=by
     cases q:σD[j]? with
     |none=>simp[q] at e
     |some w=>simp[q] at e;rw[e]
    obtain⟨v,e1,dv⟩:=rs.2 j d e;exact⟨v,by simp[e1],dv.ext x1⟩
  ·cases ec;have x3:Ext H' (upd H' a (.frz o topO)):=Ext.fresh ha;refine⟨y,tl,hx,hmx,hin,[.ref a],_,Q',noX,.cons (.ref a) .nil,rg2.new (o:=.any (excIs C)) ha ⟨⟨o,topO,Ae⟩,fun H3 x4=>⟨o,topO,x4.frz _ _ _ Ae,ho⟩⟩,h2 a (rg2.free ha),fun d G1 q=>(cl d G1 q).go (x1.trans (x2.trans x3)),fun c G1 z=>z.elim⟩
 obtain⟨ps,e,ht,ok⟩:=rg T _ eT;refine⟨ps,e,ht,fun cv ctv f hf hn=>?_,fun c o ctv f hf hc hn hne hci=>?_⟩
 ·obtain⟨c,oc,u,rfl,hcH,hci⟩:=ok _ _ hf;exact key _ f c oc u ctv (Ext.fresh hn) (rg.tup hn) Ae ((Ext.fresh hn).frz _ _ _ hcH) hci
 ·have nT:∀{b:Addr},H b=none→b≠T:=fun {b} n z=>by rw[z,e] at n;cases n
  have x1:Ext H (upd H T (.tbl (ps ++ #[rawInt lp.line,rawInt lp.col,.ref c]))):=Ext.tbl e;have c1:(upd H T (.tbl (ps ++ #[rawInt lp.line,rawInt lp.col,.ref c]))) c=none:=by rw[Ac (nT hc)];exact hc
  have x2:Ext _ (upd (upd H T (.tbl (ps ++ #[rawInt lp.line,rawInt lp.col,.ref c]))) c (.frz o topO)):=Ext.fresh c1;have f2:(upd (upd H T (.tbl (ps ++ #[rawInt lp.line,rawInt lp.col,.ref c]))) c (.frz o topO)) f=none:=by rw[Ac hne.symm,Ac (nT hn)];exact hn
  have x12:=x1.trans x2;have rg2:RelG X.K (upd (upd H T (.tbl (ps ++ #[rawInt lp.line,rawInt lp.col,.ref c]))) c (.frz o topO)) G:=fun b u eb=>by
   by_cases hb:b=T
   ·subst hb;rw[eT] at eb;cases eb;refine⟨ps ++ #[rawInt lp.line,rawInt lp.col,.ref c],by rw[Ac (nT hc).symm,Ae],by simpa using TriplesOk_snoc _ _ _ _ ht,fun p cv q=>?_⟩
    rcases K8 _ ht (by simpa using q) with q|q
    ·obtain⟨c',o',u',a1,a2,a3⟩:=ok p cv q;exact⟨c',o',u',a1,x12.frz _ _ _ a2,a3⟩
    ·exact⟨c,o,topO,q,Ae,hci⟩
   ·exact((rg b u eb).upd x1 (.inr hb)).upd x2 (.inl c1)
  exact key _ f c o topO ctv (x12.trans (Ext.fresh f2)) (rg2.tup f2) Ae ((Ext.fresh f2).frz _ _ _ Ae) hci
end
structure ExcCl(K:W.Frag)(C:Addr):Prop where
 ga:W.findIn K (.ref C) "__getattribute__" = some (some (.builtin "BaseException.__getattribute__"))
 gt:W.findIn K (.ref C) "__getattr__" = some none
 cl:W.findIn K (.ref C) "__class__" = some (some (.builtin "object.__class__"))
 ob:W.mroIn K C (.type "object")=some true
 be:W.mroIn K C (.type "BaseException")=some true
theorem Vw{K:W.Frag}:W.specialIn K (.builtin "object.__class__") "__get__" = some (some (.builtin "getset_descriptor.__get__")):=by kernel_rfl
theorem Vv{K:W.Frag}:W.takesIn K (.builtin "object.__class__")=some true:=by kernel_rfl
def Kq(C a:Addr)(h:Heap):Prop:=∃o,h.get? a=some o∧o.cls=.ref C
section
variable{P:Program}{w:World}{A:Around}{E:Value→Shared→Prop}{K:W.Frag}{C a:Addr}{s:Shared}
theorem D5{M:Model}{h:Heap}(p:Kq C a h):W.Looks M h (typeOf (.ref a)) (.ref C):=by
 obtain⟨o,e,c⟩:=p;exact c ▸ (W.Looks.ld e).andThen .now
theorem Z1{R:Result→Shared→Prop}(X:K.In s.heap)(I:Kq C a s.heap)(O:ExcCl K C)(h:R (.ok (.ret (.ref C))) s) :
  codeAny (model P w) A (.call (.builtin "getset_descriptor.__get__") ⟨[.builtin "object.__class__",.ref a,.ref C],[]⟩) R s:=by
 obtain⟨h1,h2,h3,h4,h5⟩:=s;have l0:=D5 (M:=model P w) I;have l1:=W.looks_mroIn (M:=model P w) X O.ob;have sl:=W.KF.slot_gs;refine codeAny_call_builtin sl.plain W.KF.entry_gs (sl.check _ _ _ _ _ _ _ _ W.KF.type_class (W.KF.args_gs _ _ _) ?_);unfold Builtin.«getset_descriptor.__get__» Builtin.Getset_descriptor.descrGet;rw[W.dga_obj];refine wpAny_bind (wpAny_pure ?_);unfold Builtin.Getset_descriptor.descrGetter Builtin.Getset_descriptor.descrCheckInstance;unfold Builtin.Getset_descriptor.descrNameAndClass isInstance;simp only[W.KF.owner_class]
 repeat lk
 refine⟨Code.quiet_builtin _ (by decide +kernel),codeAny_builtin W.KF.entry_class ?_⟩
 unfold Builtin.«object.__class__» shownTypeOf;repeat lk
 exact h
theorem Xg{M:Model}(X:K.In s.heap)(O:ExcCl K C):W.Looks M s.heap (Builtin.ObjectAttr.find (.ref a) (.ref C) "__class__") (.bind (.builtin "getset_descriptor.__get__") (.builtin "object.__class__")):=by
 have l1:=W.looks_findIn (M:=M) X O.cl;have l2:=W.looks_specialIn (M:=M) X (Vw (K:=K));have l3:=W.looks_takesIn (M:=M) X (Vv (K:=K));refine l1.andThen (W.Looks.andThen (f:=_) (show W.Looks M s.heap (Builtin.ObjectAttr.getOf (some (.builtin "object.__class__"))) _ from l2) ?_);refine W.Looks.andThen (a:=some (.builtin "getset_descriptor.__get__",.builtin "object.__class__")) ?_ (W.Looks.tag .now);exact l3.andThen .now
theorem Xh{tk:Tok}{Q:Fin→Shared→Prop}(X:K.In s.heap)(I:Kq C a s.heap)(O:ExcCl K C)(h:Q (.done (.ret (.ref C))) s) :
  wpAny (model P w) A (Builtin.«object.__getattribute__» ⟨[.ref a,.str "__class__" tk],[]⟩) Q E s:=by
 obtain⟨h1,h2,h3,h4,h5⟩:=s;have l0:=D5 (M:=model P w) I;have l1:=Xg (M:=model P w) (a:=a) (s:=⟨h1,h2,h3,h4,h5⟩) X O;refine wpAny_bind (wpAny_pure (wpAny_bind (wpAny_pure (wpAny_bind (l0.at (wpAny_bind (l1.at ?_)))))));show wpAny _ _ (holding [.builtin "object.__class__"] (call (.builtin "getset_descriptor.__get__") [.builtin "object.__class__",.ref a,.ref C]) >>= ret) _ _ _;exact wpAny_bind (wpAny_holding (wpAny_call (Z1 (s:=⟨h1,h2,h3,h4,h5⟩) X I O (wpAny_pure h))))
theorem Tg{M:Model}{nm:Value}{Q:Unit→Shared→Prop}(X:K.In s.heap)(I:Kq C a s.heap)(O:ExcCl K C)(h:Q () s):wpAny M A (checkBuiltinCall "BaseException.__getattribute__" ⟨[.ref a,nm],[]⟩) Q E s:=by
 obtain⟨h1,h2,h3,h4,h5⟩:=s;have l0:=D5 (M:=M) I;have l1:=W.looks_mroIn (M:=M) X O.be;have ha:=F.args_bexc_ga (.ref a) nm;have hk:builtinKind "BaseException.__getattribute__" = some .slot:=by decide +kernel
 have hs:splitId "BaseException.__getattribute__" = some ("BaseException", "__getattribute__"):=by decide +kernel
 simp only[checkBuiltinCall,hk,hs];refine wpAny_bind (W.Looks.at (r:=true) (l0.andThen l1) ?_);rw[if_neg (by decide)]
 unfold argsOk at ha;cases q:Manifest.signature? "BaseException.__getattribute__" with
 |none=>exact wpAny_pure h
 |some sig=>
  simp only[q] at ha ⊢;rw[ha];exact wpAny_pure h
theorem Z2{Q:Option Value→Shared→Prop}(X:K.In s.heap)(I:Kq C a s.heap)(O:ExcCl K C)(h:Q (some (.ref C)) { s with toks:=s.toks+1 }):wpAny (model P w) A (getAttr? (.ref a) "__class__") Q E s:=by
 obtain⟨h1,h2,h3,h4,h5⟩:=s;have l0:=D5 (M:=model P w) I;have l1:=W.looks_findIn (M:=model P w) X O.ga;have l2:=W.looks_findIn (M:=model P w) X O.gt;unfold getAttr? getAttrBy?;refine wpAny_bind (wpAny_mkText (wpAny_bind (wpAny_attempt (wpAny_holding (wpAny_bind (l0.at (wpAny_bind (l1.at ?_))))))));have n:(onTheHeap (Value.ref C)&&Value.builtin "BaseException.__getattribute__" == Value.builtin "object.__getattribute__")=false:=by
  rw[show(Value.builtin "BaseException.__getattribute__" == Value.builtin "object.__getattribute__")=false from by decide +kernel,Bool.and_false]
 show wpAny _ _ (if (onTheHeap (Value.ref C)&&Value.builtin "BaseException.__getattribute__" == Value.builtin "object.__getattribute__")=true then _ else _) _ _ _;rw[n,if_neg (by decide)]
 unfold getAttrByItsOwn;refine wpAny_bind (l2.at (wpAny_bind (wpAny_attempt (wpAny_holding ?_))));show wpAny _ _ (boundAndCalled _ _ _) _ _ _;unfold boundAndCalled;rw[F.excAttr_ValueError.ga.bind];refine wpAny_bind (wpAny_pure (wpAny_call (codeAny_call_builtin F.excAttr_ValueError.ga.plain F.entry_bexc_ga (Tg (s:=⟨h1,h2,h3,h4+1,h5⟩) X I O (Xh (s:=⟨h1,h2,h3,h4+1,h5⟩) X I O ?_)))));show wpAny _ _ (handedOut (.ref C)) _ _ _;exact W.handed_on rfl (wpAny_pure h)
theorem W8(O:ExcCl K C):W.KitX K (.ref a) (.ref C) (Kq C a):=by
 obtain⟨cd,hc,_⟩:=Option.bind_eq_some_iff.mp O.ob;have lk:∃b1 b2 b3,K.lookup C=some ⟨b1,b2,.cls cd,b3⟩:=by
  unfold W.clsIn at hc
  split at hc
  ·rename_i b1 b2 b3 b4 ho;cases hc;exact⟨_,_,_,ho⟩
  ·cases hc
 obtain⟨b1,b2,b3,lk⟩:=lk;refine⟨fun M h X p=>D5 p,fun M h X p A Q E s k q=>?_,fun h tp dd its n sl X e=>Bool.eq_false_iff.mpr fun q=>?_,fun X p k=>Z2 X p O k⟩
 ·unfold isType loadHead;exact wpAny_bind (wpAny_loadPart (k _ _ (X _ _ lk)) (wpAny_pure q))
 ·cases beq_iff_eq.mp q;rw[X _ _ lk] at e;cases e
end
structure OwnK(K:W.Frag)(D:Addr):Prop where
 ty:W.typeIn K (.ref D)=some (.type "type")
 ob:W.mroIn K D (.type "object")=some true
section
variable{X:Cx}
theorem Vg{pins:List (Addr×Obj)}{σ:List (Option V)}{H:Hp}{s:Shared}{Q:Value→Shared→Prop}{E:Value→Shared→Prop}{a C:Addr}{c:Value}{b:Bool}(I:Inv X pins σ H s)(O:ExcCl X.K C)(ha:excIs C H a)(hk:W.kitOne X.K (.ref C) c=some b)(h:∀tk,Q (.bool b) { s with toks:=tk }) :
  wpAny (model X.prog X.w) X.A (call (.builtin "isinstance") [.ref a,c]) Q E s:=by
 obtain⟨o,u,e,ho⟩:=ha;exact W.kia_one (W8 O) I.kIn ⟨o,(I.hok a _ e).1,ho.1⟩ hk (by intro z;cases z) h
def rIsE(K:W.Frag):DRC:=fun ds G Q=>∃a C D b,ds=[.ref a,.ref D]∧G a=some (.any (excIs C))∧ExcCl K C∧OwnK K D∧W.mroIn K C (.ref D)=some b∧(C=D→b=true)∧Q (.bl b) G
def rIsV(K:W.Frag):DRC:=fun ds G Q=>∃a C b,ds=[.ref a,.ty "ValueError"]∧G a=some (.any (excIs C))∧ExcCl K C∧W.mroIn K C (.type "ValueError")=some b∧Q (.bl b) G
theorem Aaa:QC X (.builtin "isinstance") (rIsE X.K):=by
 rintro pins s σ H xs us Q I r ⟨ds,G,Q',dv,rg,⟨a,C,D,b,e,hG,O,hD,hm,hs,q⟩,cl⟩;subst e;obtain⟨v,w,rfl,d1,d2⟩:=dv.two;cases d1;cases d2;obtain⟨u1,u2,rfl,r1,r2⟩:=Im r;cases r1;cases r2;have hk:W.kitOne X.K (.ref C) (.ref D)=some b:=by
  unfold W.kitOne
  split
  ·rename_i z;rw[hs (Value.ref.inj (beq_iff_eq.mp z))]
  ·obtain⟨cd,hc,_⟩:=Option.bind_eq_some_iff.mp hD.ob;show(if _ then _ else _)=_;rw[if_pos (by rw[hD.ty,hc];rfl)]
   exact hm
 refine Vg I O ((rg a _ hG).2 H (Ext.refl H)) hk fun tk=>?_;exact⟨.bl b,H,I.tok _,rfl,cl _ G q H (Ext.refl H) rg _ (.bl _)⟩
theorem Zs:W.kitMeta "ValueError" = true:=by decide +kernel
theorem Xn:QC X (.builtin "isinstance") (rIsV X.K):=by
 rintro pins s σ H xs us Q I r ⟨ds,G,Q',dv,rg,⟨a,C,b,e,hG,O,hm,q⟩,cl⟩;subst e;obtain⟨v,w,rfl,d1,d2⟩:=dv.two;cases d1;cases d2;obtain⟨u1,u2,rfl,r1,r2⟩:=Im r;cases r1;cases r2;have hk:W.kitOne X.K (.ref C) (.type "ValueError")=some b:=by
  unfold W.kitOne;rw[if_neg (fun z=>by cases beq_iff_eq.mp z)]
  show(if W.kitMeta "ValueError" = true then _ else none)=_;rw[if_pos Zs];exact hm
 refine Vg I O ((rg a _ hG).2 H (Ext.refl H)) hk fun tk=>?_;exact⟨.bl b,H,I.tok _,rfl,cl _ G q H (Ext.refl H) rg _ (.bl _)⟩
end
def isT:Value→Bool
 |.bool b=>b
 |_=>false
theorem Ly:∀{bs:List Bool} {us:List Value},Vals (bs.map V.bl) us→us=bs.map Value.bool
 |[],_,.nil=>rfl
 |b::bs,_,.cons h t=>by
  have e:=Ly t;cases h;rw[e];rfl
theorem Mf{K:W.Frag}{H:Hp}:∀{bs:List Bool} {xs:List V},DVs K H (bs.map D.bl) xs→xs=bs.map V.bl
 |[],_,.nil=>rfl
 |b::bs,_,.cons h t=>by
  have e:=Mf t;cases h;rw[e];rfl
theorem cnt_t(bs:List Bool):(bs.map Value.bool).countP isT=bs.count true:=by
 induction bs with
 |nil=>rfl
 |cons b bs ih=>cases b<;>simp[List.countP_cons,isT,ih]
theorem eq_t{A:Around}{s:Shared}{bs:List Bool}(y:Value)(h:y∈(bs.map Value.bool).toArray):PySem.SeqAt.EqAt A s y (.bool true) (isT y):=by
 have h:y∈bs.map Value.bool:=by simpa using h
 obtain⟨b,_,rfl⟩:=List.mem_map.mp h;have z:=PySem.SeqAt.EqAt.bool_bool (A:=A) (s:=s) b true;cases b<;>exact z
section
variable{X:Cx}{e:Expr}{ta:DTE}
theorem S4:MtM X "list.count" (fun x vs H Q=>∃(l:Addr) (bs:List Bool),x=.ref l∧vs=[.bl true]∧H l=some (.lst (bs.map V.bl))∧Q (.int (bs.count true:Nat)) H):=by
 intro pins s σ H x vs v us Q I rx rv h;obtain⟨l,bs,rfl,rfl,hH,q⟩:=h;cases rx;obtain⟨u,rfl,ru⟩:=rv.one;cases ru;obtain⟨z,its,n,r,hl,e⟩:=I.lstM hH;obtain rfl:=Ly r;refine call_meets PySem.F.slot_list_count ⟨_,e,rfl⟩ PySem.F.entry_list_count (PySem.F.args_list_count_2 _ _) (PySem.SeqAt.list_countAt l _ n _ _ (.bool true) isT) ⟨e,fun y hy=>eq_t y hy,?_⟩;rw[cnt_t];exact⟨.int _,H,I.tok _,⟨_,rfl⟩,q⟩
theorem S3:MtM X "list.index" (fun x vs H Q=>∃(l:Addr) (bs:List Bool) (j:Nat),x=.ref l∧vs=[.bl true]∧H l=some (.lst (bs.map V.bl))∧bs[j]? = some true∧(∀m,m<j→bs[m]? = some false)∧Q (.int (j:Nat)) H):=by
 intro pins s σ H x vs v us Q I rx rv h;obtain⟨l,bs,j,rfl,rfl,hH,hj,hno,q⟩:=h;cases rx;obtain⟨u,rfl,ru⟩:=rv.one;cases ru;obtain⟨z,its,n,r,hl,e⟩:=I.lstM hH;obtain rfl:=Ly r;have jl:j<bs.length:=by
  rcases Nat.lt_or_ge j bs.length with q|q
  ·exact q
  ·rw[List.getElem?_eq_none q] at hj;cases hj
 have sz:bs.length≤sizeLine:=by simpa using z
 rw[sizeLine_eq] at sz;refine call_meets PySem.F.slot_list_index ⟨_,e,rfl⟩ PySem.F.entry_list_index (PySem.F.args_list_index_2 _ _) (PySem.SeqAt.list_indexAt l _ n _ _ (.bool true) isT j (by simpa using jl) (by omega) ?_ fun m hm hlt=>?_) ⟨e,fun y hy=>eq_t y hy,?_⟩
 ·have:bs[j]=true:=by rw[List.getElem?_eq_getElem jl] at hj;exact Option.some.inj hj
  simp[isT,this]
 ·have ml:m<bs.length:=by omega
  have:=hno m hlt
  rw[List.getElem?_eq_getElem ml] at this
  have:bs[m]=false:=Option.some.inj this
  simp[isT,this]
 ·exact⟨.int _,H,I.tok _,⟨_,rfl⟩,q⟩
def nCnt(to ta:DTE):DTE:=fun σ G Q=>to σ G fun x G1=>∃p,x=.ref p∧(∃ds,G1 p=some (.lst ds))∧ta σ G1 fun y G2=>y=.bl true∧∃bs:List Bool,G2 p=some (.lst (bs.map D.bl))∧Q (.int (bs.count true:Nat)) G2
def nIdx(to ta:DTE):DTE:=fun σ G Q=>to σ G fun x G1=>∃p,x=.ref p∧(∃ds,G1 p=some (.lst ds))∧ta σ G1 fun y G2=>y=.bl true∧∃(bs:List Bool) (j:Nat),G2 p=some (.lst (bs.map D.bl))∧bs[j]? = some true∧(∀m,m<j→bs[m]? = some false)∧Q (.int j) G2
theorem Aci{o:Expr}{to:DTE}{apos cpos:Pos}(ho:QE X o to)(ha:QE X e ta)(hbase:attributeBase o "count" X.env (eval o X.env)=eval o X.env:=by rfl)(hfew:((backTo cpos (starEach [e] X.env)).all (fun x=>!x.1)&&(backToKw cpos (keywordEach [] X.env)).all (fun x=>x.1.isSome)
   && decide (([e]:List Expr).length+([]:List Keyword).length+(if ([]:List Keyword).isEmpty then 0 else 1)<30))=true:=by rfl)(hline:(apos.endLine == cpos.line)=true:=by rfl)(hs:starEach [e] X.env=(false,eval e X.env)::starEach [] X.env:=by rfl)(hplain:(backTo cpos (starEach [] X.env)).any (·.1)=false:=by rfl) :
  QE X (.Call (.Attribute o "count" apos) [e] [] cpos) (nCnt to ta):=
 (Uf PySem.F.plainAttrs_list PySem.F.slot_list_count PySem.F.type_list_count S4 ho (Ic ha qa_nil hs) hbase hfew hline hs hplain).imp fun σ H Q zz=>by
 obtain⟨σD,G,Q',rs,rg,h,cl⟩:=zz;refine⟨σD,G,_,rs,rg,h,fun d G1 zz H1 x1 rg1 v dv=>?_⟩;obtain⟨p,ep,⟨ds,eg⟩,h1⟩:=zz;subst ep;cases dv;obtain⟨xs,ex,r⟩:=rg1 p _ eg;refine⟨.inl ⟨rfl,xs,.inl (.inl ex)⟩,σD,G1,fun ds' G2=>∃y,ds'=[y]∧y=.bl true∧∃bs:List Bool,G2 p=some (.lst (bs.map D.bl))∧Q' (.int (bs.count true:Nat)) G2,rs.ext x1,rg1,?_,?_⟩
 ·show ta σD G1 fun x G1=>E5 σD G1 fun xs G2=>_;exact cast (by congr 1;funext y G2;simp[E5]) h1
 ·rintro ds' G2 ⟨y,rfl,rfl,bs,eg2,q⟩ H2 x2 rg2 vs dvs;obtain⟨v,rfl,dv⟩:=dvs.one;cases dv;obtain⟨xs2,ex2,r2⟩:=rg2 p _ eg2;rw[Mf r2] at ex2;exact⟨p,bs,rfl,rfl,ex2,cl _ _ q _ (x1.trans x2) rg2 _ (.int _)⟩
theorem Acg{o:Expr}{to:DTE}{apos cpos:Pos}(ho:QE X o to)(ha:QE X e ta)(hbase:attributeBase o "index" X.env (eval o X.env)=eval o X.env:=by rfl)(hfew:((backTo cpos (starEach [e] X.env)).all (fun x=>!x.1)&&(backToKw cpos (keywordEach [] X.env)).all (fun x=>x.1.isSome)
   && decide (([e]:List Expr).length+([]:List Keyword).length+(if ([]:List Keyword).isEmpty then 0 else 1)<30))=true:=by rfl)(hline:(apos.endLine == cpos.line)=true:=by rfl)(hs:starEach [e] X.env=(false,eval e X.env)::starEach [] X.env:=by rfl)(hplain:(backTo cpos (starEach [] X.env)).any (·.1)=false:=by rfl) :
  QE X (.Call (.Attribute o "index" apos) [e] [] cpos) (nIdx to ta):=
 (Uf PySem.F.plainAttrs_list PySem.F.slot_list_index PySem.F.type_list_index S3 ho (Ic ha qa_nil hs) hbase hfew hline hs hplain).imp fun σ H Q zz=>by
 obtain⟨σD,G,Q',rs,rg,h,cl⟩:=zz;refine⟨σD,G,_,rs,rg,h,fun d G1 zz H1 x1 rg1 v dv=>?_⟩;obtain⟨p,ep,⟨ds,eg⟩,h1⟩:=zz;subst ep;cases dv;obtain⟨xs,ex,r⟩:=rg1 p _ eg;refine⟨.inl ⟨rfl,xs,.inl (.inl ex)⟩,σD,G1,fun ds' G2=>∃y,ds'=[y]∧y=.bl true∧∃(bs:List Bool) (j:Nat),G2 p=some (.lst (bs.map D.bl))∧bs[j]? = some true∧(∀m,m<j→bs[m]? = some false)∧Q' (.int j) G2,rs.ext x1,rg1,?_,?_⟩
 ·show ta σD G1 fun x G1=>E5 σD G1 fun xs G2=>_;exact cast (by congr 1;funext y G2;simp[E5]) h1
 ·rintro ds' G2 ⟨y,rfl,rfl,bs,j,eg2,hj,hno,q⟩ H2 x2 rg2 vs dvs;obtain⟨v,rfl,dv⟩:=dvs.one;cases dv;obtain⟨xs2,ex2,r2⟩:=rg2 p _ eg2;rw[Mf r2] at ex2;exact⟨p,bs,j,rfl,rfl,ex2,hj,hno,cl _ _ q _ (x1.trans x2) rg2 _ (.int _)⟩
end
section
variable{P:Program}{w:World}{K:W.Frag}{mg:Str→Option Value}{base:Heap}
theorem okH{x qual:Str}{st:Stmt}{f:Addr}{fd:FuncData}{N ps:List Str}{k:Nat}{sp:DSp}(F:Fun K x qual st f fd)(S:FnScope N ps (defScope st))(len:∀ds G Q E,sp ds G Q E→ds.length=ps.length)(hbody:∀(cdv:Value) (A:Around) (outer:List Env) (s:Shared) (H:Hp) (XE:XK) (ds:List D) (G:Gp) (Q:DK) (E:DX),RoomH k (A.deeper (envOfC qual (defScope st) s.heap.objs.size f cdv))→sp ds G Q E→
   ∃t,QSs (Ko CX0 P w K mg base N qual (defScope st) f cdv A outer s H XE).nox (defBody st) t∧t { nx:=fun _ G'=>Fq Q .non G',rt:=Fq Q } (B9 N ds) G):FnH P w K mg base CX0 (k+1) f fd ps (liftSp K sp):=by
 obtain⟨oc,od,kV,doc,pm,an,cdv,ct,osl,rfl,lk,hcd⟩:=F.ex;refine Ad5 lk hcd S (fun vs H Q E ⟨ds,G,Q',E',dv,rg,h,_⟩=>by rw[←dv.length];exact len ds G Q' E' h) fun A outer s H vs Q E hr ⟨ds,G,Q',E',dv,rg,h,cl,_⟩=>?_
 obtain⟨t,ht,hq⟩:=hbody cdv A outer s H E ds G Q' E' hr h;exact⟨_,PSs.nox ht,B9 N ds,G,_,Eg dv,rg,hq,⟨fun σD G1 ⟨G2,sb,q⟩ H1 x1 rg1 σ rs=>cl _ G2 q H1 x1 (rg1.ext' sb) _ .non,fun d G1 ⟨G2,sb,q⟩ H1 x1 rg1 v dv=>cl _ G2 q H1 x1 (rg1.ext' sb) _ dv,fun _ _ z=>z.elim,fun _ _ z=>z.elim⟩⟩
end
section
variable{P:Program}{w:World}{A:Around}{E:Value→Shared→Prop}{s:Shared}{t:Addr}{items:Array Value}
end
def IsRv(h:Heap)(a t:Addr)(i:Int):Prop:=∃o,h.get? a=some o∧o.cls=.type "reversed"∧o.data=.fields #[.ref t,rawInt i]
section
variable{P:Program}{w:World}{A:Around}{E:Value→Shared→Prop}{s:Shared}{a t:Addr}{items:Array Value}
theorem IsRv.at{h h':Heap}{i:Int}(x:IsRv h a t i)(k:∀o,h.get? a=some o→h'.get? a=some o):IsRv h' a t i:=let ⟨o,ho,hc⟩:=x;⟨o,k o ho,hc⟩
end
section
variable{X:Cx}{tg e:Expr}
end
section
variable{X:Cx}{a:Expr}{body:List Stmt}{pos:Pos}
end
end D3
namespace D3
open PySem PySem.Spec
open PyProof.Rows hiding St
open L2 hiding St
open PySem.W (kdl_call kdl_dict)
section
variable{P:Program}{w:World}{A:Around}{E:Value→Shared→Prop}{s:Shared}
end
section
variable{X:Cx}{o e:Expr}{to:DTE}{apos cpos pos p:Pos}
end
end D3
namespace D3
open PySem PySem.Spec
open PyProof.Rows
def X4(rk:Keyed→Int)(arr:Array Keyed)(i:Nat):Int:=rk (arr.getD i (.none,.none))
section
variable{P:Program}{w:World}{A:Around}{E:Value→Shared→Prop}{s:Shared}{kd:SortKind}{ok:Keyed→Prop}{rk:Keyed→Int}
end
end D3
namespace D3
section
variable{α:Type}{rk:α→Int}
def Up(rk:α→Int)(l:List α):Prop:=l.Pairwise fun x y=>rk x≤rk y
def Merged(rk:α→Int)(la lb res:List α):Prop:=res.Perm (la++lb)∧Up rk res
theorem X9{l:List α}(u:Up (fun x=>- rk x) l):Up rk l.reverse:=by
 rw[Up,List.pairwise_reverse];exact u.imp fun {a b} h=>by have h : - rk a≤- rk b:=h;omega
theorem Merged.back{la lb res:List α}(h:Merged (fun x=>- rk x) la.reverse lb.reverse res):Merged rk la lb res.reverse:=by
 refine⟨?_,X9 h.2⟩
 have:=h.1
 rw[←List.reverse_append] at this;exact(List.reverse_perm res).trans (this.trans ((List.reverse_perm _).trans List.perm_append_comm))
end
end D3
namespace D3
open PySem PySem.Spec
open PyProof.Rows
section
variable{rk:Keyed→Int}{a b out:Array Keyed}{ia ib k:Nat}
theorem Uz{a:Array Keyed}{i:Nat}(h:i<a.size):X4 rk a i=rk (a.toList[i]'(by simpa using h)):=by
 unfold X4;simp[h]
end
structure Like(st st':SortSt):Prop where
 kind:kindOf st'=kindOf st
 arr:arrOf st'=arrOf st
 pend:pendingOf st'=pendingOf st
 failed:failedOf st'=failedOf st
theorem Like.trans{st st' st'':SortSt}(h:Like st st')(h2:Like st' st''):Like st st'':=⟨h2.kind.trans h.kind,h2.arr.trans h.arr,h2.pend.trans h.pend,h2.failed.trans h.failed⟩
section
variable{P:Program}{w:World}{A:Around}{E:Value→Shared→Prop}{s:Shared}{kd:SortKind}{ok:Keyed→Prop}{rk:Keyed→Int}
end
section
variable{rk:Keyed→Int}{a b out:Array Keyed}{na nb:Nat}
end
section
variable{P:Program}{w:World}{A:Around}{E:Value→Shared→Prop}{s:Shared}{kd:SortKind}{ok:Keyed→Prop}{rk:Keyed→Int}
end
structure Bas(rk:Keyed→Int)(kd:SortKind)(ok:Keyed→Prop)(a0:Array Keyed)(st:SortSt):Prop where
 kind:kindOf st=kd
 perm:(arrOf st).Perm a0
 fail:failedOf st=none
 okA:∀x∈a0,ok x
 dist:(a0.toList.map rk).Nodup
section
variable{P:Program}{w:World}{A:Around}{E:Value→Shared→Prop}{s:Shared}{kd:SortKind}{ok:Keyed→Prop}{rk:Keyed→Int}{a0:Array Keyed}{st:SortSt}
theorem Bas.ne(b:Bas rk kd ok a0 st){i j:Nat}(hij:i<j)(hj:j<(arrOf st).size):X4 rk (arrOf st) i≠X4 rk (arrOf st) j:=by
 have nd:((arrOf st).toList.map rk).Nodup:=((Array.perm_iff_toList_perm.mp b.perm).map rk).nodup_iff.mpr b.dist;rw[Uz (show i<(arrOf st).size by omega),Uz hj]
 have:=List.pairwise_iff_getElem.mp nd i j (by simp;omega) (by simp;omega) hij
 simpa using this
structure Ahead(lo:Nat)(st st':SortSt):Prop where
 at_:∀i,i<lo→(arrOf st')[i]? = (arrOf st)[i]?
 pend:pendingOf st'=pendingOf st
theorem Ahead.trans{lo:Nat}{st st' st'':SortSt}(h:Ahead lo st st')(g:Ahead lo st' st''):Ahead lo st st'':=⟨fun i hi=>(g.at_ i hi).trans (h.at_ i hi),g.pend.trans h.pend⟩
end
section
variable{P:Program}{w:World}{A:Around}{E:Value→Shared→Prop}{s:Shared}{kd:SortKind}{ok:Keyed→Prop}{rk:Keyed→Int}
end
def RawD(h:Heap)(d:Addr)(es:Array DictEntry)(ep:Nat):Prop:=∃o,h.get? d=some o∧o.ExactDict∧o.data=.dict es ep
theorem RawD.keep{h g:Heap}{d:Addr}{es:Array DictEntry}{ep:Nat}(r:RawD h d es ep)(k:∀o,h.get? d=some o→g.get? d=some o):RawD g d es ep:=let ⟨o,a,b⟩:=r;⟨o,k o a,b⟩
theorem RawD.lt{h:Heap}{d:Addr}{es:Array DictEntry}{ep:Nat}(r:RawD h d es ep):d<h.objs.size:=let ⟨_,a,_⟩:=r;Heap.lt_size a
section
variable{P:Program}{w:World}{A:Around}{E:Value→Shared→Prop}{s:Shared}{d it:Addr}{es:Array DictEntry}{ep i:Nat}
theorem RawD.ty(r:RawD s.heap d es ep):s.TypeIs (.ref d) "dict":=let ⟨o,a,b,_⟩:=r;⟨o,a,b.1⟩
end
end D3
namespace D3
open PySem PySem.Spec
open PyProof.Rows hiding St
open L2 hiding St
section
variable{P:Program}{w:World}{A:Around}{E:Value→Shared→Prop}{s:Shared}{d:Addr}{es:Array DictEntry}{ep:Nat}
end
def Ur(k:Int×Int):List Key:=[.inl k.1,.inl k.2]
def LexLt(a b:Int×Int):Prop:=a.1<b.1∨(a.1=b.1∧a.2<b.2)
open Classical in
section
variable{X:Cx}
end
section
variable{X:Cx}{k:Nat}
end
section
variable{X:Cx}{pins:List (Addr×Obj)}{σ:L2.St}{H:Hp}{p a it:Addr}{ys:List V}{es:List (List Key×V)}
end
section
variable{X:Cx}{n:Nat}{a b:Expr}{ta tb:DTE}{pos:Pos}
end
def fiv(m i:Nat):Nat:=(i*5+1) % (m+1)
def orb(m:Nat):Nat→Nat→List Nat
 |0,_=>[]
 |n+1,i=>i::orb m n (fiv m i)
def Pb(m:Nat):Nat→Nat→Nat
 |0,i=>i
 |n+1,i=>Pb m n (fiv m i)
theorem L8(m:Nat):∀(n i e:Nat),e∈orb m n i→∃k,k<n∧Pb m k i=e
 |0,_,_,h=>by simp[orb] at h
 |n+1,i,e,h=>by
  rcases List.mem_cons.mp h with rfl|h
  ·exact⟨0,by omega,rfl⟩
  ·obtain⟨k,hk,e⟩:=L8 m n _ e h;exact⟨k+1,by omega,e⟩
theorem Fv(m:Nat):∀(a b i:Nat),Pb m (a+b) i=Pb m b (Pb m a i)
 |0,b,i=>by rw[Nat.zero_add];rfl
 |a+1,b,i=>by rw[show a+1+b=(a+b)+1 by omega];exact Fv m a b _
structure Round(m:Nat):Prop where
 all:∀e,e<m+1→e∈orb m (m+1) 0
 rnd:Pb m (m+1) 0=0
theorem Round.to{m:Nat}(R:Round m){i e:Nat}(hi:i≤m)(he:e≤m):∃k,k≤m∧Pb m k i=e:=by
 obtain⟨a,ha,ea⟩:=L8 m _ _ _ (R.all i (by omega))
 obtain⟨b,hb,eb⟩:=L8 m _ _ _ (R.all e (by omega))
 by_cases h:a≤b
 ·refine⟨b-a,by omega,?_⟩
  rw[←ea,←Fv,show a+(b-a)=b by omega,eb]
 ·refine⟨(m+1-a)+b,by omega,?_⟩
  rw[←ea,←Fv,show a+(m+1-a+b)=(m+1)+b by omega,Fv,R.rnd,eb]
def cn(n:Nat):Int×Int:=(((n / 9:Nat):Int),((n % 9:Nat):Int))
structure SOkC(w:World)(es:Array (Int×Value))(t:SetTable)(L:List (Int×Value)):Prop where
 tok:TOk w t
 fit:t.fits es.size=true
 pm:es.toList.Perm L
 bnd:∀x∈t.place.toList,x≤t.mask
 msk:t.mask=7∧L.length≤4∨t.mask=31∧L.length≤18∨t.mask=127∧L.length≤76∨t.mask=511∧L.length≤300
section
variable{P:Program}{w:World}{A:Around}{E:Value→Shared→Prop}{s:Shared}{es:Array (Int×Value)}{t:SetTable}{L:List (Int×Value)}
theorem SOkC.len(h:SOkC w es t L):es.size=L.length:=by rw[←h.pm.length_eq,Array.length_toList]
theorem SOkC.base(h:SOkC w es t L):SBase w es t:=⟨h.tok,h.fit,by rw[h.len];have:=h.msk;show L.length<4096;omega⟩
end
section
variable{P:Program}{w:World}{A:Around}{R:Result→Shared→Prop}{E:Value→Shared→Prop}{s:Shared}
def AreC(P:Program)(w:World)(h:Heap)(cs:List (Int×Int))(vs:List Value)(no:List Addr):Prop:=∀p∈cs.zip vs,∃b,p.2=.ref b∧b ∉ no∧IsTupleKey (intKind P w) h [p.1.1,p.1.2] b
theorem AreC.keep{h g:Heap}{cs:List (Int×Int)}{vs:List Value}{no:List Addr}(a:AreC P w h cs vs no)(k:∀b o,b ∉ no→h.get? b=some o→g.get? b=some o):AreC P w g cs vs no:=fun p hp=>by
 obtain⟨b,e,hn,o,items,n,ho,hr⟩:=a p hp;exact⟨b,e,hn,o,items,n,k b o hn ho,hr⟩
end
section
variable{P:Program}{w:World}{A:Around}{E:Value→Shared→Prop}{s:Shared}
end
section
variable{X:Cx}{pins:List (Addr×Obj)}{σ:L2.St}{H:Hp}{s:Shared}{bs:List Addr}{cs:List (Int×Int)}
end
section
variable{X:Cx}
end
section
variable{X:Cx}{e:Expr}{te:DTE}{pos:Pos}{n:Nat}
end
section
variable{P:Program}{w:World}{A:Around}{E:Value→Shared→Prop}{s:Shared}
end
instance (a b:Int×Int):Decidable (LexLt a b):=inferInstanceAs (Decidable (_∨_))
section
variable{X:Cx}{n:Nat}
end
section
variable{P:Program}{w:World}{A:Around}{R:Result→Shared→Prop}{it S:Addr}{fp wr:List Addr}{n:Nat}{V:Nat→Value→Prop}{st:Nat→Heap→Prop}{bt:Nat→Nat→Bool}{kw:List (Str×Value)}{Hv:Heap→Prop}
end
section
variable{P:Program}{w:World}{A:Around}{E:Value→Shared→Prop}{s:Shared}
end
section
variable{X:Cx}{e:Expr}{p pos:Pos}{n:Nat}
end
section
variable{X:Cx}{elt o:Expr}{ifs:List Expr}{scope:Scope}{pos apos cpos tp:Pos}{elts:List Expr}{kk:Nat}{to te:DTE}{tf:DTT}{g:DTG}{T M:List Str}
end
section
variable{X:Cx}{n:Nat}
end
section
variable{X:Cx}{a:Expr}{elts:List Expr}{kk:Nat}{tp p pos:Pos}{body:List Stmt}
end
section
variable{X:Cx}{n:Nat}{o e f:Expr}{td ty tx:DTE}{apos cpos:Pos}
end
section
variable{X:Cx}{pins:List (Addr×Obj)}{σ:L2.St}{H:Hp}{s:Shared}{a:Addr}{E:Value→Shared→Prop}
end
section
variable{X:Cx}{n:Nat}
def dEmp(neg:Bool):DR2:=fun x y G Q=>∃p q ds,x=.ref p∧y=.ref q∧G p=some (.lst ds)∧G q=some (.lst [])∧Q (.bl (if neg=true then !ds.isEmpty else ds.isEmpty)) G
theorem o_neE(hr:Room n X.A):QOp X (compareOp .NotEq) (dEmp true):=by
 rintro pins s σ H x y v u Q I rx ry ⟨dx,dy,G,Q',hx,hy,rg,⟨p,q,ds,ep,eq,eg,eg2,h⟩,cl⟩;subst ep eq;cases hx;cases hy;obtain rfl:v=Value.ref p:=rx;obtain rfl:u=Value.ref q:=ry;obtain⟨xs,eh,r⟩:=rg p _ eg;obtain⟨ys,eh2,r2⟩:=rg q _ eg2;cases r2;obtain⟨its,rv,pl,_⟩:=I.list (.inl (.inl eh));obtain⟨its2,rv2,pl2,_⟩:=I.list (.inl (.inl eh2));cases rv2;have fin:∀b:Bool,b = !ds.isEmpty→∃v H',Inv X pins σ H' s∧L2.RelV v (.bool b)∧Q v H':=fun b e=>by
  subst e;exact⟨.bl _,H,I,rfl,cl _ G h H (Ext.refl H) rg _ (.bl _)⟩
 cases r with
 |nil=>cases rv;exact SeqAt.RcNeAt.lists (e:=fun _=>true) pl.isList pl2.isList rfl (Fd hr (n:=0) (by decide)) (fun j h1 _=>absurd h1 (by simp)) _ _ _ _ (fin _ (by rfl))
 |cons h t=>cases rv;exact SeqAt.RcNeAt.lists_lengths pl.isList pl2.isList (by simp) (Fd hr (n:=0) (by decide)) _ _ _ _ (fin _ rfl)
end
section
variable{X:Cx}{n:Nat}{o i e:Expr}{to td ti:DTE}{pos:Pos}
end
section
variable{X:Cx}{elt o tg:Expr}{ifs:List Expr}{scope:Scope}{pos:Pos}{to te:DTE}{tf:DTT}{g:DTG}{T M:List Str}
end
section
variable{X:Cx}{pins:List (Addr×Obj)}{σ:L2.St}{H:Hp}{s:Shared}{A:Around}{E:Value→Shared→Prop}
end
section
variable{X:Cx}{pins:List (Addr×Obj)}{σ:L2.St}{H:Hp}{p a it:Addr}{ys:List V}{es:List (Key×V)}
end
section
variable{X:Cx}{a e b:Expr}{ta:TA}{tA:DTA}{te tb:DTE}{p p0 p2 pos pos0:Pos}
end
section
variable{P:Program}{w:World}{A:Around}{E:Value→Shared→Prop}{s:Shared}{κ:Type}[Inhabited κ]{lt:κ→κ→Bool}{KA:Heap→Addr→κ→Prop}
end
section
variable{P:Program}{w:World}{A:Around}{E:Value→Shared→Prop}{s:Shared}
def KA1(P:Program)(w:World)(N:Nat)(h:Heap)(a:Addr)(k:List Int):Prop:=a<N∧IsTupleKey (intKind P w) h k a
def KA2(P:Program)(w:World)(N:Nat)(h:Heap)(a:Addr)(k:Int×List Int):Prop:=a<N∧∃o t c n,h.get? a=some o∧o.cls=.type "tuple"∧o.data=.seq #[.int k.1 t,.ref c] n∧c<N∧IsTupleKey (intKind P w) h k.2 c
theorem KA1.st{N:Nat}{h h':Heap}{a:Addr}{k:List Int}(x:KA1 P w N h a k)(kp:∀b o,b<N→h.get? b=some o→h'.get? b=some o):KA1 P w N h' a k:=by
 obtain⟨hl,o,its,n,ho,r⟩:=x;exact⟨hl,o,its,n,kp a o hl ho,r⟩
theorem KA2.st{N:Nat}{h h':Heap}{a:Addr}{k:Int×List Int}(x:KA2 P w N h a k)(kp:∀b o,b<N→h.get? b=some o→h'.get? b=some o):KA2 P w N h' a k:=by
 obtain⟨hl,o,t,c,n,ho,h1,h2,hc,o2,its,n2,ho2,r⟩:=x;exact⟨hl,o,t,c,n,kp a o hl ho,h1,h2,hc,o2,its,n2,kp c o2 hc ho2,r⟩
end
section
variable{X:Cx}{n:Nat}{pins:List (Addr×Obj)}{σ:L2.St}{H:Hp}{s:Shared}
def wD(w:List Int):D:=.tup (w.map D.int)
end
end D3
namespace D3
open PySem PySem.Spec
open PyProof.Rows
section
variable{P:Program}{w:World}{A:Around}{E:Value→Shared→Prop}{s:Shared}{kd:SortKind}{ok:Keyed→Prop}{rk:Keyed→Int}{a0:Array Keyed}{st:SortSt}
end
section
variable{P:Program}{w:World}{A:Around}{E:Value→Shared→Prop}{s:Shared}{kd:SortKind}{ok:Keyed→Prop}{rk:Keyed→Int}
open Classical in
end
end D3
namespace D3
open PySem PySem.Spec
open PyProof.Rows hiding St
open L2 hiding St
section
variable{X:Cx}
theorem Px(l:Addr)(items:Array Value)(n:Nat)(dd:Option Addr)(sl:Array (Option Value))(u:Tok) :
  Meets (Builtin.«tuple.__mul__» ⟨[.ref l,.int 1 u],[]⟩) (fun _ R s=>s.heap.get? l=some { cls:=.type "tuple",dict:=dd,data:=.seq items n,slots:=sl }∧R (.ok (.ret (Value.ref l))) s):=
 .of_wp fun prog w A R s h=>by
  obtain⟨hp,g,d,tk,os⟩:=s;obtain⟨hl,h⟩:=h
  wp_walk
  exact⟨_,rfl,h⟩
def dRepU:DR2:=fun x y G Q=>∃xs k,x=.tup xs∧y=.int k∧xs≠[]∧1≤k∧k<2 ^ 60∧xs.length*k.toNat≤sizeLine∧Q (.tup (List.replicate k.toNat xs).flatten) G
theorem o_repU:QOp X (binaryOp .Mult) dRepU:=by
 rintro pins s σ H x y v u Q I rx ry ⟨dx,dy,G,Q',hx,hy,rg,⟨xs,k,ex,ey,hne,k2,k60,hz,q⟩,cl⟩
 by_cases h1:k=1
 ·subst ex ey h1;cases hy;cases hx with
  |@tup _ a vs ea ra=>
   cases rx;obtain⟨t,rfl⟩:=ry;obtain⟨its,r1,p1,_⟩:=I.tuple (.inl (.inl ea));obtain⟨⟨cls,dd,data,sl⟩,ho,hcl,n,hd⟩:=id p1;simp only at hcl hd;subst hcl hd;refine wpAny_binaryOp_repeat_ref (T:="tuple") (U:="int") (by decide) ⟨_,ho,rfl⟩ (fun s'=>typeIs_int s' 1 t) Dc PySem.F.fills_int_mul PySem.F.slot_int_rmul Fz PySem.F.slot_int_index.lookup
    (call_meets PySem.F.slot_int_rmul (typeIs_int s 1 t) PySem.F.entry_int_rmul (PySem.F.args_int_rmul_2 _ _) (D8 1 t a its.toArray n dd sl)
     ⟨ho,rfl,⟨_,ho,rfl⟩,call_meets PySem.F.slot_tuple_mul ⟨_,ho,rfl⟩ PySem.F.entry_tuple_mul (PySem.F.args_tuple_mul_2 _ _) (Px a its.toArray n dd sl t) ⟨ho,?_⟩⟩)
   have e:(List.replicate (1:Int).toNat xs).flatten=xs:=by simp
   rw[e] at q;exact⟨.ref a,H,I,rfl,cl _ G q H (Ext.refl H) rg _ (.tup ea ra)⟩
 ·exact Adm pins s σ H x y v u Q I rx ry ⟨dx,dy,G,Q',hx,hy,rg,⟨xs,k,ex,ey,hne,by omega,k60,hz,q⟩,cl⟩
end
end D3
namespace K2
open PySem L2 D3
def zzM:List Lean.Term×List (Array Lean.Term)→String→Lean.MacroM (List Lean.Term×List (Array Lean.Term))
 |(x,a::s),w=>do
  let p t:=(x.tail,a.push t::s)
  let h:Lean.Term:=x.headD ⟨.missing⟩
  match w with
  |"{"=>return(x,#[]::a::s)
  |")"=>return(x,match s with|b::s=>b.push (Lean.Syntax.mkApp (a[0]?.getD h) (a.extract 1 a.size))::s|_=>[])
  |"}"=>
   let f←`(fun _ _ _=>$(a[0]?.getD h))
   return(x,match s with|b::s=>b.push f::s|_=>[])
  |"$"=>return p h
  |"/"=>return p (←`(($h).mono (by decide)))
  |":"=>return p (←`(($h).blt (by decide)))
  |"="=>return p (←`(by exact ($h).blt (by decide)))
  |_=>
   let i:Lean.Term:=Lean.mkIdent (w.drop 1).toName
   if w.startsWith "@" then return(x,#[←`(@$(⟨i.raw⟩))]::a::s)
   let t←match w with
   |"-"=>`(rfl)|"!"=>`(by rfl)|"?"=>`(by decide)|"+"=>`(by decide +kernel)|"*"=>`(by exact ⟨rfl,rfl,rfl,rfl⟩)|"<"=>`(by exact .inl rfl)|">"=>`(by exact .inr rfl)|"^"=>`(by intro _;rfl)|"%"=>`(by intro _ _;rfl)|"~"=>`(Adp _)
   |_=>if w.startsWith "&" then pure i else `(_)
   return(x,(a++List.replicate (w.toNat?.getD 1) t)::s)
 |s,_=>pure s
def zzT:List (List String):=("a,@q_v1,2,$,1,*,);b,@qa_consP,5,$,@qa_nil,1,),!,);c,@qa_consP,5,$,$,!,);d,@Ni,5,$,$,);e,@Ib,3,$,);f,@q_call,8,&noX,3,$,/,@passN,2,),$,!,?,!,!,);g,@Pk,4,$,);h,@Ab3,3,$,^,);i,@Et,4,$,2,$,$,!,<,!,<,);j,@Ab4,4,$,);k,@L7,2,$,1,$,!,<,<,);l,@L7,2,$,1,$,!,<,>,);m,@q_v2,2,$,1,*,);n,@Nk,5,$,$,!,);o,@Yt,4,$,!,?,);p,@R5,6,$,@Ao,4,),%,);q,@B1,9,@c_len,1,),:,+,$,!,?,?,!,!,);r,@B1,9,@Aaa,1,),:,+,$,!,?,?,!,!,);s,@E3,8,@o_addD,1,),$,$,);t,@qt_of,3,$,);u,@Yp,4,$,!,);v,@Ab8,5,$,-,$,!,!,);w,@Nk,5,$,@Yq,1,),!,);x,@qs_if,8,$,@Ib,3,@Pk,4,@q_bl,4,),),),@qss_nil,1,),);y,@Ys,4,$,!,?,);z,@qa_consP,5,@Ao,4,),$,!,);A,@V5,3,$,:,+,!,?,?,);B,@qw_or,7,$,$,);C,@Ab1,4,$,);D,@qa_consP,5,$,@qa_consP,5,@Ao,4,),@qa_nil,1,),!,),!,);E,@R5,6,$,$,%,);F,@B1,9,@Xm,1,),:,+,$,!,?,?,!,!,);G,@Dr,5,$,);H,@qs_if,8,$,$,@qss_nil,1,),);I,@Cj,4,$,);J,@Ab7,6,$,$,!,!,!,);K,@B1,9,@c_all,1,-,),:,+,$,!,?,?,!,!,);L,@q_call,8,$,3,$,/,$,$,!,?,!,!,);M,@q_app,7,$,$,!,!,!,!,!,);N,@Nl,9,@Z9,1,),:,+,$,!,?,?,!,!,);O,@Re,11,$,$,-,@Dx,4,!,!,!,!,!,),$,{,$,},{,@Pl,1,),},{,$,},^,);P,@qt_cmp,8,$,$,$,~,);Q,@E3,8,$,$,$,);R,@Vz,23,$,$,@qa_consP,5,@As,4,),@qa_nil,1,),!,),!,?,!,!,);S,@Et,4,$,2,$,@Cj,4,@qa_nil,1,),),!,<,!,<,);T,@E3,8,@o_sub,1,),$,@Ao,4,),);U,@Ab6,8,$,$,@qss_nil,1,),);V,@Ao,4,);W,@E3,8,@o_addD,1,),$,@Ao,4,),);X,@E3,8,@o_mod,1,),$,@Ao,4,),);Y,@Sk,8,$,$,8,-,@Dx,4,!,!,!,!,!,),:,$,{,$,},{,@Pl,1,),},{,$,},!,!,!,^,);Z,@q_slice,9,$,@qo_some,3,@Ao,4,),),@qo_none,1,),);0,@Et,4,$,2,$,$,!,>,!,<,);1,@qt_cmp,8,@o_eq,1,),$,@As,4,),~,);2,@L7,2,$,1,$,!,>,<,);3,@E3,8,@o_mul,1,),$,$,);4,@E3,8,@o_mul,1,),@Ao,4,),$,);5,@Ab2,7,$,$,);6,@Yn,4,$,);7,@Ni,5,$,@Ib,3,@Pk,4,@q_bl,4,),),),);8,@Aca,3,$,);9,@Rc,10,&PassesOwn.never,-,:,$,$,$,!,!,^,);aa,@E3,8,@o_addD,1,),@Ao,4,),$,);ab,@q_slice,9,$,@qo_none,1,),@qo_some,3,@Ue,4,@Ao,4,),),),);ac,@Acb,12,$,$,4,$,/,$,$,-,-,$,$,-,-,$,$,-,+,$,$,!,?,!,!,);ad,@E3,8,@Ado,1,),$,@Ao,4,),);ae,@qt_cmp,8,@o_eq,1,),$,@Ao,4,),~,);af,@Rc,10,&PassesOwn.never,-,:,@qa_consP,5,@Ao,4,),@qa_nil,1,),!,),$,$,!,!,^,);ag,@q_and,7,$,$,);ah,@q_cmp,8,@o_lt,1,),$,$,~,);ai,@qs_if,8,$,@Ib,3,@V0,2,),),@qss_nil,1,),);aj,@qt_cmp,8,@o_gt,1,),$,$,~,);ak,@Cj,4,@qa_nil,1,),);al,@q_cmp,8,$,$,$,~,);am,@Yr,8,$,$,$,);an,@qs_if,8,$,@Pj,2,),@qss_nil,1,),);ao,@B1,9,@c_abs,1,),:,+,$,!,?,?,!,!,);ap,@Ab9,7,$,$,$,^,);aq,@q_cmp,8,@o_eq,1,),$,$,~,);ar,@U0,9,$,$,$,$,!,);as,@U0,9,$,$,$,@U2,2,),!,);at,@Lm,8,&PassesOwn.never,-,$,@Aan,2,),@Pj,2,),^,);au,@q_fld,6,$,$,$,!,);av,@qt_cmp,8,@o_ne,1,),$,$,~,);aw,@qa_consP,5,@Cj,4,@qa_nil,1,),),$,!,);ax,@qt_cmp,8,@o_ne,1,),$,@Ao,4,),~,);ay,@Yo,2,$,$,$,14,-,$,$,!,!,!,?,?,?,!,!,!,!,!,);az,@B1,9,@Aed,1,-,),:,+,$,!,?,?,!,!,);aA,@B1,9,@Aee,1,-,),:,+,$,!,?,?,!,!,);aB,@E3,8,@o_sub,1,),@Ao,4,),$,);aC,@Nl,9,@Aef,1,),:,+,$,!,?,?,!,!,);aD,@E3,8,@o_addD,1,),$,@Dr,5,@qa_consP,5,@Ao,4,),@qa_nil,1,),!,),),);aE,@Ab5,4,$,$,9,-,$,$,!,!,?,!,!,!,!,);aF,@B1,9,$,:,+,$,!,?,?,!,!,);aG,@Et,4,$,2,$,@Cj,4,@qa_consP,5,@Ao,4,),@qa_consP,5,@Ao,4,),@qa_consP,5,@Ao,4,),@qa_consP,5,@Ao,4,),@qa_consP,5,@Ao,4,),@qa_consP,5,@Ao,4,),@qa_consP,5,@Ao,4,),@qa_consP,5,@Ao,4,),@qa_consP,5,@Ao,4,),@qa_consP,5,@Ao,4,),@qa_consP,5,@Ao,4,),@qa_consP,5,@Ao,4,),@qa_consP,5,@Ao,4,),@qa_nil,1,),!,),!,),!,),!,),!,),!,),!,),!,),!,),!,),!,),!,),!,),),!,<,!,<,);aH,@Et,4,$,2,$,@Ao,4,),!,<,!,<,);aI,@B1,9,@Xo,1,),:,+,$,!,?,?,!,!,);aJ,@Et,4,$,2,$,@U2,2,),!,<,!,<,);aK,@Lm,8,$,-,$,$,$,^,);aL,@V2,13,$,$,$,3,-,@Dx,4,!,!,!,!,!,),$,{,$,},{,$,},{,$,},{,$,},$,-,!,$,$,^,);aM,@V4,15,-,:,$,$,$,-,!,!,!,!,!,);aN,@Acf,13,$,$,/,$,$,$,!,?,!,!,);aO,@B1,9,@Xl,1,),:,+,$,!,?,?,!,!,);aP,@V7,10,$,$,-,@Dx,4,!,!,!,!,!,),$,!,!,^,);aQ,@Re,11,$,$,-,@Dx,4,!,!,!,!,!,),$,{,$,},{,$,},{,$,},^,);aR,@V6,9,$,$,4,-,@Dx,4,!,!,!,!,!,),:,$,{,$,},{,@Pl,1,),},{,$,},!,!,^,);aS,@U1,4,$,4,$,$,$,!,<,<,);aT,@Acd,8,$,$,$,%,);aU,@Nj,11,$,-,:,$,$,$,!,!,!,^,);aV,@Nj,11,&PassesOwn.never,-,:,$,$,$,!,!,!,^,);aW,@U1,4,$,4,$,@ia_add,1,),@Ao,4,),!,<,<,);aX,@Ace,8,-,:,$,!,!,);aY,@Sl,9,$,$,5,-,@Dx,4,!,!,!,!,!,),:,$,{,$,},{,$,},{,$,},!,!,!,^,);aZ,@B1,9,@Xn,1,),:,+,$,!,?,?,!,!,);a0,@Aci,7,$,$,!,!,!,!,!,);a1,@Dr,5,@qa_consP,5,@As,4,),@qa_nil,1,),!,),);a2,@Et,4,$,2,$,@Cj,4,@qa_consP,5,@As,4,),@qa_consP,5,@As,4,),@qa_consP,5,@As,4,),@qa_consP,5,@As,4,),@qa_consP,5,@As,4,),@qa_consP,5,@As,4,),@qa_consP,5,@As,4,),@qa_consP,5,@As,4,),@qa_consP,5,@As,4,),@qa_consP,5,@As,4,),@qa_nil,1,),!,),!,),!,),!,),!,),!,),!,),!,),!,),!,),),!,<,!,<,);a3,@E3,8,@o_addD,1,),$,@Cj,4,@qa_consP,5,@As,4,),@qa_consP,5,@As,4,),@qa_consP,5,@As,4,),@qa_consP,5,@As,4,),@qa_consP,5,@As,4,),@qa_nil,1,),!,),!,),!,),!,),!,),),);a4,@Acg,7,$,$,!,!,!,!,!,);a5,@Dr,5,@qa_consP,5,@Ao,4,),@qa_nil,1,),!,),);a6,@R5,6,@Cj,4,@qa_consP,5,@Ao,4,),@qa_consP,5,@Ao,4,),@qa_consP,5,@q_bl,4,),@qa_consP,5,@q_non,3,),@qa_consP,5,@As,4,),@qa_consP,5,@Ue,4,@Ao,4,),),@qa_nil,1,),!,),!,),!,),!,),!,),!,),),$,%,);a7,@qa_consP,5,@Ue,4,@Ao,4,),),@qa_nil,1,),!,);a8,@Dr,5,@qa_consP,5,@q_bl,4,),@qa_nil,1,),!,),);a9,@R5,6,@Cj,4,@qa_consP,5,@As,4,),@qa_consP,5,@As,4,),@qa_consP,5,@q_non,3,),@qa_consP,5,@Ao,4,),@qa_consP,5,@Dr,5,@qa_consP,5,@As,4,),@qa_nil,1,),!,),),@qa_consP,5,@As,4,),@qa_nil,1,),!,),!,),!,),!,),!,),!,),),$,%,);ba,@R5,6,@Cj,4,@qa_consP,5,@Dr,5,@qa_consP,5,@Ao,4,),@qa_nil,1,),!,),),@qa_consP,5,@Dr,5,@qa_consP,5,@Ao,4,),@qa_nil,1,),!,),),@qa_consP,5,@Dr,5,@qa_consP,5,@Ao,4,),@qa_consP,5,@Ao,4,),@qa_nil,1,),!,),!,),),@qa_consP,5,@Cj,4,@qa_consP,5,@Ao,4,),@qa_nil,1,),!,),),@qa_consP,5,@Dr,5,@qa_consP,5,@q_bl,4,),@qa_nil,1,),!,),),@qa_consP,5,@q_non,3,),@qa_nil,1,),!,),!,),!,),!,),!,),!,),),$,%,);bb,@Lm,8,&PassesOwn.never,-,@E3,8,@o_addD,1,),@Cj,4,@qa_consP,5,@Cj,4,@qa_consP,5,@As,4,),@qa_consP,5,@As,4,),@qa_consP,5,@As,4,),@qa_consP,5,@As,4,),@qa_consP,5,@As,4,),@qa_nil,1,),!,),!,),!,),!,),!,),),@qa_nil,1,),!,),),@E3,8,@Adn,1,),@Cj,4,@qa_consP,5,@Cj,4,@qa_consP,5,@As,4,),@qa_consP,5,@As,4,),@qa_consP,5,@As,4,),@qa_consP,5,@As,4,),@qa_nil,1,),!,),!,),!,),!,),),@qa_nil,1,),!,),),@Ao,4,),),),$,$,^,);bc,@V3,11,$,$,$,3,-,@Dx,4,!,!,!,!,!,),$,{,$,},{,$,},{,$,},$,-,!,$,$,^,);bd,@qa_consP,5,$,@qa_consP,5,@Dr,5,@qa_consP,5,@Ao,4,),@qa_nil,1,),!,),),@qa_nil,1,),!,),!,);be,@R5,6,@Cj,4,@qa_consP,5,@As,4,),@qa_consP,5,@As,4,),@qa_nil,1,),!,),!,),),$,%,);bf,@Lm,8,&PassesOwn.never,-,@Cj,4,@qa_consP,5,@As,4,),@qa_consP,5,@As,4,),@qa_consP,5,@As,4,),@qa_consP,5,@As,4,),@qa_consP,5,@As,4,),@qa_nil,1,),!,),!,),!,),!,),!,),),$,$,^,);bg,@V1,12,&PassesOwn.never,-,:,$,$,$,!,!,!,^,1,)".splitOn ";").map (·.splitOn ",")
local macro_rules|`(#[$xs,*])=>do
 let k::x:=xs.getElems.toList|Lean.Macro.throwUnsupported
 let some k:=k.raw.isStrLit?|Lean.Macro.throwUnsupported
 let some (_::t):=zzT.find? (·.head? ==some k)|Lean.Macro.throwUnsupported
 let (_,#[t]::_)←t.foldlM zzM (x,[#[]])|Lean.Macro.throwUnsupported
 return t
local macro_rules|`(tactic|simp![$xs,*])=>do
 let l←("O9,nIfS,E6,nOp,Hk,B9,List.map_cons,List.map_nil,List.length_cons,List.length_nil,Nat.zero_add,Nat.reduceAdd,Nat.reduceSub,List.replicate,List.cons_append,List.nil_append,List.getElem?_cons_succ,List.getElem?_cons_zero,Option.some.injEq,nCB,E7,E5,List.cons.injEq,and_true,dI0,D.int.injEq,D.bl.injEq,nRet,dIx,exists_eq_left',Iu,nC,decide_eq_true_eq,F5,Pa,C5,List.set_cons_succ,List.set_cons_zero,dI,CMul,Int.reducePow,Int.reduceNeg,T7,and_assoc,Int.reduceLT,true_and,Dg,and_self,true_or,Dt,nAnd,dEq,eqS,Aaw,Int.reduceLE,Int.reduceToNat,reduceCtorEq,if_false,exists_and_left,or_true,mTup,D.tup.injEq,Uk,mNil,mSub,Aa4,D.ref.injEq,GO.lst.injEq,ix0,R7,Aaz,D.ty.injEq,Aas,Lr,Z7,Aea,nOr,nNot,nTru,Rj,nSl,Qz,Ig,if_true,Pp,Xj,Aap,Aa,B4,Bool.not_false,Nz,Ro,U9,decide_true,Aax,Aay,nFor,Z6,Aaq,Vc,nSortV0,Aau,Rl,nFld,O8,nApp,Rk,dNe,Fb,nAug,Aav,R6,dMIn,Vb,nIf,nIfM,Aat,Nq,atI1,Aar,nIdx,nCnt,dEmp,nPar,Uj,Abk".splitOn ",").toArray.mapM fun n=>`(Lean.Parser.Tactic.simpLemma|$(Lean.mkIdent n.toName):term)
 `(tactic|simp only[$l,*,$xs,*])
theorem ln1 {α} {us:List α} (h:us.length=1):∃a,us=[a]:=by
 match us,h with | [a],_=>exact ⟨a,rfl⟩
theorem ln2 {α} {us:List α} (h:us.length=2):∃a b,us=[a,b]:=by
 match us,h with | [a,b],_=>exact ⟨a,b,rfl⟩
theorem ln3 {α} {us:List α} (h:us.length=3):∃a b c,us=[a,b,c]:=by
 match us,h with | [a,b,c],_=>exact ⟨a,b,c,rfl⟩
theorem ln4 {α} {us:List α} (h:us.length=4):∃a b c d,us=[a,b,c,d]:=by
 match us,h with | [a,b,c,d],_=>exact ⟨a,b,c,d,rfl⟩
theorem ln5 {α} {us:List α} (h:us.length=5):∃a b c d e,us=[a,b,c,d,e]:=by
 match us,h with | [a,b,c,d,e],_=>exact ⟨a,b,c,d,e,rfl⟩
theorem ln6 {α} {us:List α} (h:us.length=6):∃a b c d e f,us=[a,b,c,d,e,f]:=by
 match us,h with | [a,b,c,d,e,f],_=>exact ⟨a,b,c,d,e,f,rfl⟩
def top(i:Nat):Stmt:=PySem.Challenge.pw_laidmarks_k45_fairways_refused.main.body.getD i (.Pass ⟨0,0,0,0⟩)
abbrev N7:List Str:=["len", "range", "abs", "divmod", "max", "min", "tuple", "int", "bool", "list", "str", "isinstance", "all", "sorted", "repr", "dict", "zip", "set", "sum", "reversed", "enumerate", "ValueError"]
theorem exPow{p:Int→Int→Prop}{i j:Int}:(∃a b,D.int i=D.int a∧D.int j=D.int b∧p a b)↔p i j:=⟨fun⟨_,_,e1,e2,h⟩=>by cases e1;cases e2;exact h,fun h=>⟨i,j,rfl,rfl,h⟩⟩
theorem R0{α:Type}{xs:List α}{i:Int}(h0:0≤i)(h1:i<xs.length):∃x,atI xs i=some x∧x∈xs:=by
 obtain⟨k,rfl⟩:=Int.eq_ofNat_of_zero_le h0;have hk:k<xs.length:=by omega
 exact⟨xs[k],C1 (List.getElem?_eq_getElem hk),List.getElem_mem hk⟩
section
variable{P:Program}{w:World}{K:W.Frag}{mg:Str→Option Value}{base:Heap}
def Ag(lo hi:Int):D→Bool
 |.int i=>decide (lo≤i)&&decide (i≤hi)
 |_=>false
structure Blt(mg:Str→Option Value):Prop where
 blt:∀{x:Str},x∈N7→mg x=none
abbrev s_L_cell:Stmt:=top 113
abbrev X2:List Str:=["_law_script", "_law_k"]
abbrev p_L_cell:List Str:=["_law_script", "_law_k"]
theorem Sj:FnScope X2 p_L_cell (defScope s_L_cell):=⟨rfl,rfl,rfl,by decide +kernel,rfl,by decide +kernel,by decide +kernel⟩
def spCell:DSp:=fun ds G Q _=>∃ns k,ds=[.lint ns,.int k]∧0≤k∧∀n,Q (.int n) G
theorem Zl{f:Addr}{fd:FuncData}(F:Fun K "_law_cell" "_law_cell" s_L_cell f fd)(T:Blt mg):FnOk P w K mg base CX0 1 f fd p_L_cell (liftSp K spCell):=by
 refine okD F Sj (fun ds G Q E h=>?_) (fun cdv A outer s H XE ds G Q E hr h=>?_)
 ·obtain⟨a,c,rfl,_⟩:=h;rfl
 ·obtain⟨ns,k,rfl,k0,q⟩:=h;refine⟨_,#["d",#["H",#["P",(@o_lt _),#["a",1],#["q",T,#["b",#["a",0]]]],#["e",#["g",#["E",#["a",0],#["a",1]]]]],#["e",#["g",#["V"]]]],?_⟩;obtain⟨k,rfl⟩:=Int.eq_ofNat_of_zero_le k0;simp![Tc,Nr]
  by_cases h:k<ns.length
  ·refine it0 (by omega) ?_
   have e:ns[k]? = some ns[k]:=by simp[h]
   exact⟨_,Vm (by rw[List.getElem?_map,e];rfl),Fq.of (q _)⟩
  ·refine it1 (by omega) ?_
   exact Fq.of (q _)
abbrev s_L_mix:Stmt:=top 114
abbrev Aag:List Str:=["_law_cell_here", "_law_k", "_law_some", "_law_stir"]
abbrev Ed:List Str:=["_law_cell_here", "_law_k"]
theorem sc_L_mix:FnScope Aag Ed (defScope s_L_mix):=⟨rfl,rfl,rfl,by decide +kernel,rfl,by decide +kernel,by decide +kernel⟩
def M5:DSp:=fun ds G Q _=>∃c k,ds=[.int c,.int k]∧0≤k∧k<100000∧∀n,Q (.int n) G
theorem Adg{f:Addr}{fd:FuncData}(F:Fun K "_law_mix" "_law_mix" s_L_mix f fd)(T:Blt mg):FnOk P w K mg base CX0 1 f fd Ed (liftSp K M5):=by
 refine okD F sc_L_mix (fun ds G Q E h=>?_) (fun cdv A outer s H XE ds G Q E hr h=>?_)
 ·obtain⟨a,c,rfl,_⟩:=h;rfl
 ·obtain⟨c,k,rfl,k0,k1,q⟩:=h;refine⟨_,#["d",#["aG",2,sc_L_mix.nd],#["d",#["i",3,sc_L_mix.nd,#["3",#["W",#["X",#["a",0]]],#["E",#["a",2],#["X",#["a",1]]]]],#["d",#["i",3,sc_L_mix.nd,#["s",#["s",#["a",3],#["4",#["a",1]]],#["4",#["ad",#["a",1]]]]],#["d",#["i",3,sc_L_mix.nd,#["X",#["a",3]]],#["e",#["g",#["ad",#["X",#["s",#["3",#["a",3],#["a",3]],#["4",#["a",1]]]]]]]]]]],?_⟩;have sz:13≤sizeLine:=szl (by decide)
  simp![sz];intro p hp;have h0:0≤k % 13:=Int.emod_nonneg _ (by decide)
  have h1:k % 13<13:=Int.emod_lt_of_pos _ (by decide)
  have p1:∀x:Int,0≤x % 2147483647∧x % 2147483647<2147483647:=fun x=>⟨Int.emod_nonneg _ (by decide),Int.emod_lt_of_pos _ (by decide)⟩
  have p2:∀x:Int,0≤x % 1000000007∧x % 1000000007<1000000007:=fun x=>⟨Int.emod_nonneg _ (by decide),Int.emod_lt_of_pos _ (by decide)⟩
  obtain⟨d,hd,hm⟩:=R0 (xs:=[D.int 48271,.int 69621,.int 16807,.int 39373,.int 30269,.int 40014,.int 40692,.int 50021,.int 61687,.int 71993,.int 83869,.int 95561,.int 30307]) h0 h1;obtain⟨m,rfl⟩:∃m,d=.int m:=by
   simp only[List.mem_cons,List.not_mem_nil,or_false] at hm;rcases hm with rfl|rfl|rfl|rfl|rfl|rfl|rfl|rfl|rfl|rfl|rfl|rfl|rfl<;>exact⟨_,rfl⟩
  have a1:=p1 c;simp![Ba Aa,hd];refine⟨.inl ⟨by omega,by omega⟩,.inl ⟨?_,?_⟩,G,Sub.new hp,q _⟩
  ·exact Int.lt_of_lt_of_le (by decide) (p2 _).1
  ·exact Int.lt_trans (p2 _).2 (by decide)
abbrev s_L_box:Stmt:=top 115
abbrev Aai:List Str:=["_law_script", "_law_k", "_law_lap", "_law_cell_here", "_law_number", "_law_j"]
abbrev p_L_box:List Str:=["_law_script", "_law_k", "_law_lap"]
theorem sc_L_box:FnScope Aai p_L_box (defScope s_L_box):=⟨rfl,rfl,rfl,by decide +kernel,rfl,by decide +kernel,by decide +kernel⟩
def spBox:DSp:=fun ds G Q _=>∃ns k lap,ds=[.lint ns,.int k,.int lap]∧(0≤k∧k<100∧0≤lap∧lap<10)∧∀p,G p=none→∀n,Q (.ref p) (Ab G p (.lst [.int n]))
theorem Adl{f:Addr}{fd:FuncData}(F:Fun K "_law_box" "_law_box" s_L_box f fd)(T:Blt mg)(Ah2:Def P w K mg base CX0 1 "_law_cell" p_L_cell spCell)(Ah3:Def P w K mg base CX0 1 "_law_mix" Ed M5):FnOk P w K mg base CX0 2 f fd p_L_box (liftSp K spBox):=by
 refine okD F sc_L_box (fun ds G Q E h=>?_) (fun cdv A outer s H XE ds G Q E hr h=>?_)
 ·obtain⟨a,c,l,rfl,_⟩:=h;rfl
 ·obtain⟨ns,k,lap,rfl,⟨k0,k1,l0,l1⟩,q⟩:=h;refine⟨_,#["d",#["i",3,sc_L_box.nd,#["f",Ah2,hr,#["c",#["a",0],#["b",#["a",1]]]]],#["d",#["H",#["t",#["5",#["ae",#["X",#["a",3]]],#["6",#["ae",#["a",2]]]]],#["e",#["g",#["I",#["b",#["ad",#["ao",T,#["b",#["a",3]]]]]]]]],#["d",#["aH",4,sc_L_box.nd],#["d",#["af",T,#["k",5,sc_L_box.nd],#["e",#["i",4,sc_L_box.nd,#["s",#["Q",(@o_mul _),#["a",4],#["V"]],#["f",Ah3,hr,#["c",#["a",3],#["b",#["s",#["4",#["a",2]],#["a",5]]]]]]]]],#["e",#["g",#["I",#["b",#["a",4]]]]]]]]],?_⟩;have sz:1≤sizeLine:=szl (by decide)
  simp![spCell,sz,k0];refine⟨ns,rfl,fun n=>?_⟩
  by_cases h2:n % 2=0
  ·refine it0 h2 ?_
   by_cases hl:lap=0
   ·refine it0 hl ?_;exact fun p hp=>Fq.of (q p hp _)
   ·refine it1 hl ?_;refine Bn (fun i σ G'=>∃v v',σ=[some (.lint ns),some (.int k),some (.int lap),some (.int n),some (.int v),v']∧G=G') ⟨0,none,rfl,rfl⟩ ?_ ?_
    ·rintro i σ G' hi ⟨v,v',rfl,rfl⟩;simp![M5];refine⟨by omega,by omega,fun m=>Fs.of ⟨_,_,rfl,rfl⟩⟩
    ·rintro σ G' ⟨v,v',rfl,rfl⟩;simp![sz];exact fun p hp=>Fq.of (q p hp _)
  ·refine it1 h2 ?_;refine Bn (fun i σ G'=>∃v v',σ=[some (.lint ns),some (.int k),some (.int lap),some (.int n),some (.int v),v']∧G=G') ⟨0,none,rfl,rfl⟩ ?_ ?_
   ·rintro i σ G' hi ⟨v,v',rfl,rfl⟩;simp![M5];refine⟨by omega,by omega,fun m=>Fs.of ⟨_,_,rfl,rfl⟩⟩
   ·rintro σ G' ⟨v,v',rfl,rfl⟩;simp![sz];exact fun p hp=>Fq.of (q p hp _)
abbrev s_L_take:Stmt:=top 116
abbrev Xz:List Str:=["_law_box_here", "_law_count", "_law_left", "_law_digit"]
abbrev p_L_take:List Str:=["_law_box_here", "_law_count"]
theorem sc_L_take:FnScope Xz p_L_take (defScope s_L_take):=⟨rfl,rfl,rfl,by decide +kernel,rfl,by decide +kernel,by decide +kernel⟩
def spTake:DSp:=fun ds G Q _=>∃a c,ds=[.ref a,.int c]∧(∃b,G a=some (.lst [.int b]))∧(0<c∧c<1073741824)∧∀r b',0≤r→r<c→Q (.int r) (Ab G a (.lst [.int b']))
theorem Za{f:Addr}{fd:FuncData}(F:Fun K "_law_take" "_law_take" s_L_take f fd)(T:Blt mg):FnOk P w K mg base CX0 1 f fd p_L_take (liftSp K spTake):=by
 refine okD F sc_L_take (fun ds G Q E h=>?_) (fun cdv A outer s H XE ds G Q E hr h=>?_)
 ·obtain⟨a,c,rfl,_⟩:=h;rfl
 ·obtain⟨a,c,rfl,⟨b,hG⟩,⟨c0,c1⟩,q⟩:=h;refine⟨_,#["d",#["J",#["aI",T,#["c",#["p",#["a",0]],#["b",#["a",1]]]],#["v",2,#["n",#["k",2,sc_L_take.nd],#["w",#["k",3,sc_L_take.nd]]]]],#["d",#["J",#["a",2],#["ap",#["a",0],#["V"],(@s_list _)]],#["e",#["g",#["a",3]]]]],?_⟩;simp![hG,c0,c1,Ba hG];exact Fq.of (q _ _ (Int.emod_nonneg _ (by omega)) (Int.emod_lt_of_pos _ c0))
def hid(G:Gp)(a:Addr):Gp:=fun b=>if b=a then none else G b
theorem hid_sub{G:Gp}{a:Addr}:Sub (hid G a) G:=fun b o h=>by
 unfold hid at h
 split at h
 ·cases h
 ·exact h
theorem C0{G:Gp}{a:Addr}{o:GO}:hid (Ab G a o) a=hid G a:=by
 funext b;unfold hid Ab
 by_cases e:b=a<;>simp[e]
theorem Ik{G:Gp}{a p:Addr}{o:GO}(h:a≠p):hid (Ab G p o) a=Ab (hid G a) p o:=by
 funext b;unfold hid Ab
 by_cases e:b=a
 ·subst e;simp[h]
 ·simp[e]
theorem D2{G:Gp}{a p:Addr}(h:G p=none):hid G a p=none:=by
 unfold hid;split<;>first|rfl|exact h
structure Step(a:Addr)(G G':Gp):Prop where
 box:∃b,G' a=some (.lst [.int b])
 sub:Sub (hid G a) (hid G' a)
theorem Step.trans{a:Addr}{G G1 G2:Gp}(x:Step a G G1)(y:Step a G1 G2):Step a G G2:=⟨y.box,x.sub.trans y.sub⟩
theorem Step.refl{a:Addr}{G:Gp}(h:∃b,G a=some (.lst [.int b])):Step a G G:=⟨h,Sub.refl _⟩
theorem Step.take{a:Addr}{G G1:Gp}(x:Step a G G1)(b:Int):Step a G (Ab G1 a (.lst [.int b])):=⟨⟨b,Aa⟩,by rw[C0];exact x.sub⟩
theorem Step.ne{a p:Addr}{G:Gp}(x:∃b,G a=some (.lst [.int b]))(h:G p=none):a≠p:=fun e=>by subst e;obtain⟨b,hb⟩:=x;rw[h] at hb;cases hb
theorem Step.lay{a p:Addr}{G G1:Gp}{o:GO}(x:Step a G G1)(h:G1 p=none):Step a G (Ab G1 p o):=by
 have n:=Step.ne x.box h;obtain⟨b,hb⟩:=x.box;exact⟨⟨b,by rw[Ad n];exact hb⟩,by rw[Ik n];exact x.sub.skip (D2 h)⟩
theorem Step.get{a p:Addr}{G G1:Gp}{o:GO}(x:Step a G G1)(n:a≠p)(h:G p=some o):G1 p=some o:=by
 have e:hid G a p=some o:=by unfold hid;rw[if_neg (Ne.symm n)];exact h
 exact hid_sub _ _ (x.sub p o e)
theorem Step.back{a b:Addr}{G G1:Gp}(x:Step a G G1)(h:G1 b=none):G b=none:=by
 have n:=Step.ne x.box h;have e:=x.sub.none (D2 (a:=a) h);unfold hid at e
 rwa [if_neg (Ne.symm n)] at e
theorem Step.write{a p:Addr}{G G1:Gp}{o:GO}(x:Step a G G1)(h:G p=none)(n:a≠p):Step a G (Ab G1 p o):=by
 obtain⟨b,hb⟩:=x.box;refine⟨⟨b,by rw[Ad n];exact hb⟩,?_⟩
 rw[Ik n];intro c u e;rw[Ad (gne e (D2 h))];exact x.sub c u e
def nw(G G':Gp):Gp:=fun b=>if (G b).isNone=true then G' b else none
theorem Eu{G G':Gp}{b:Addr}{o:GO}(h:G b=none)(e:G' b=some o):nw G G' b=some o:=by unfold nw;rw[h];exact e
theorem Uh{G G':Gp}{b:Addr}{o:GO}(h:nw G G' b=some o):G b=none∧G' b=some o:=by
 unfold nw at h
 split at h
 ·rename_i e;exact⟨by simpa using e,h⟩
 ·cases h
theorem Ah{G:Gp}{p q:Addr}{o u:GO}(h:G p=some o)(hq:G q=none):Ab G q u p=some o:=by rw[Ad (gne h hq)];exact h
theorem Bs{a:Addr}{G:Gp}{c:Int}{Q:DK}{E:DX}(hG:∃b,G a=some (.lst [.int b]))(c0:0<c)(c1:c<1073741824)(h:∀r b',0≤r→r<c→Q (.int r) (Ab G a (.lst [.int b']))):spTake [.ref a,.int c] G Q E:=⟨a,c,rfl,hG,⟨c0,c1⟩,h⟩
structure Nums(mg:Str→Option Value):Prop extends Blt mg where
 LEAST_COLUMNS:∃t,mg "LEAST_COLUMNS" = some (.int 2 t)
 MOST_COLUMNS:∃t,mg "MOST_COLUMNS" = some (.int 16 t)
 LEAST_ROWS:∃t,mg "LEAST_ROWS" = some (.int 1 t)
 MOST_ROWS:∃t,mg "MOST_ROWS" = some (.int 9 t)
 LAND:∃t,mg "LAND" = some (.int 0 t)
 MOST_DEPTH:∃t,mg "MOST_DEPTH" = some (.int 9 t)
 LEAST_DRAUGHT:∃t,mg "LEAST_DRAUGHT" = some (.int 1 t)
 MOST_DRAUGHT:∃t,mg "MOST_DRAUGHT" = some (.int 9 t)
 LAST_DAY:∃t,mg "LAST_DAY" = some (.int 400 t)
 LAST_NUMBER:∃t,mg "LAST_NUMBER" = some (.int 99 t)
 MOST_NOTICES:∃t,mg "MOST_NOTICES" = some (.int 30 t)
 LAST_ROW:∃t,mg "LAST_ROW" = some (.int 8 t)
abbrev s_is_whole_within:Stmt:=top 21
abbrev F2:List Str:=["thing", "low", "high"]
abbrev p_is_whole_within:List Str:=["thing", "low", "high"]
theorem Ex:FnScope F2 p_is_whole_within (defScope s_is_whole_within):=⟨rfl,rfl,rfl,by decide +kernel,rfl,by decide +kernel,by decide +kernel⟩
def spWhole:DSp:=fun ds G Q _=>∃d lo hi,ds=[d,.int lo,.int hi]∧Kn G d∧Q (.bl (Ag lo hi d)) G
theorem Wp{f:Addr}{fd:FuncData}(F:Fun K "is_whole_within" "is_whole_within" s_is_whole_within f fd)(T:Nums mg):FnOk P w K mg base CX0 1 f fd p_is_whole_within (liftSp K spWhole):=by
 refine okD F Ex (fun ds G Q E h=>?_) (fun cdv A outer s H XE ds G Q E hr h=>?_)
 ·obtain⟨d,lo,hi,rfl,_⟩:=h;rfl
 ·obtain⟨d,lo,hi,rfl,⟨t,ht⟩,k⟩:=h;refine⟨_,#["e",#["g",#["ag",#["F",T,#["c",#["a",0],#["b",#["A","int",T]]]],#["ag",(@q_not _ _ _ _ #["F",T,#["c",#["a",0],#["b",#["A","bool",T]]]]),(@q_one _ _ _ _ _ (@q_chain _ _ _ _ _ _ _ _ _ _ _ _ (@o_le _) (@o_le _) #["a",1] #["a",0] #["a",2] (by with_unfolding_all rfl)))]]]],?_⟩
  simp![ht];have other:(pyIs t "int" = false∨pyIs t "bool" = true)→Q (.bl false) G→if pyIs t "int" = true then if (!pyIs t "bool")=true then ∃j,d=D.int j∧if lo≤j then ∃i,d=D.int i∧Fq Q (D.bl (decide (i≤hi))) G else Fq Q (D.bl false) G else Fq Q (D.bl false) G else Fq Q (D.bl false) G:=fun h q=>by
   rcases h with h|h
   ·rw[h,if_neg Bool.false_ne_true];exact Fq.of q
   ·rw[h];split
    ·rw[if_neg (by decide)];exact Fq.of q
    ·exact Fq.of q
  cases d with
  |int i=>
   cases ht;rw[if_pos (by decide),if_pos (by decide)]
   refine⟨i,rfl,?_⟩
   by_cases h:lo≤i
   ·rw[if_pos h];refine⟨i,rfl,Fq.of ?_⟩;simpa[Ag,h] using k
   ·rw[if_neg h];refine Fq.of ?_;simpa[Ag,h] using k
  |bl b=>cases ht;exact other (.inr (by decide)) k
  |non=>cases ht;exact other (.inl (by decide)) k
  |str x=>cases ht;exact other (.inl (by decide)) k
  |tup ds=>cases ht;exact other (.inl (by decide)) k
  |ty n=>cases ht
  |lint ns=>cases ht
  |ref a=>
   refine other (.inl ?_) k;simp only[A9] at ht
   split at ht<;>first|(cases ht;decide)|cases ht
def Ax:D→Int
 |.int i=>i
 |_=>0
def B0:List D→Bool
 |x::y::r=>decide (Ax x<Ax y)&&B0 (y::r)
 |_=>true
def ltD:D→Bool
 |.tup [u,v]=>decide (Ax u<Ax v)
 |_=>false
def Ep(lo hi:Int):D→Bool
 |.tup ds=>ds.all (Ag lo hi)&&B0 ds
 |_=>false
abbrev Ip:D→Bool:=Ep 0 8
theorem Lw{xs:List D}:C4 xs (some 1) none=xs.drop 1:=by
 simp only[C4,HT.sIx,if_neg (show ¬(1:Int)<0 by decide)]
 cases xs with
 |nil=>rfl
 |cons x r=>simp
theorem Na{x y:D}{xs ys:List D}:A6 [x::xs,y::ys]=.tup [x,y]::A6 [xs,ys]:=by
 have e:Ci [x::xs,y::ys]=Ci [xs,ys]+1:=by simp only[Ci,List.length_cons];omega
 unfold A6;rw[e,List.range_succ_eq_map,List.map_cons,List.map_map];rfl
theorem Jl:∀xs:List D,(A6 [xs,xs.drop 1]).all ltD=B0 xs
 |[]=>rfl
 |[x]=>by simp[A6,Ci,B0]
 |x::y::r=>by
  show(A6 [x::y::r,y::r]).all ltD=_;rw[Na,List.all_cons]
  have:=Jl (y::r)
  simp only[List.drop_succ_cons,List.drop_zero] at this;rw[this];rfl
theorem Bz{xs ys:List D}{z:D}(h:z∈A6 [xs,ys]):∃u v,z=.tup [u,v]∧u∈xs∧v∈ys:=by
 obtain⟨i,hi,e⟩:=List.getElem_of_mem h;have hl:i<Ci [xs,ys]:=by rw[←B3];exact hi
 have:=Fk hl
 rw[List.getElem?_eq_getElem hi,e] at this;cases this;have h1:=Fe hl xs (by simp)
 have h2:=Fe hl ys (by simp)
 exact⟨_,_,rfl,by simp[List.getD,h1],by simp[List.getD,h2]⟩
theorem Bb{α:Type}{xs:List α}:xs.filter (fun _=>true)=xs:=List.filter_eq_self.mpr fun _ _=>rfl
theorem Dh{G:Gp}{d:D}{t:String}(ht:A9 G d=some t)(h:t≠"tuple"):pyIs t "tuple" = false∧∀xs,d≠.tup xs:=by
 refine⟨?_,fun xs e=>by subst e;cases ht;exact h rfl⟩
 have:=Jm ht
 simp only[List.mem_cons,List.not_mem_nil,or_false] at this;rcases this with rfl|rfl|rfl|rfl|rfl|rfl|rfl<;>first|rfl|exact absurd rfl h
abbrev s_are_rising_within:Stmt:=top 22
abbrev Em:List Str:=["thing", "low", "high"]
abbrev Ap:List Str:=["thing", "low", "high"]
theorem D9:FnScope Em Ap (defScope s_are_rising_within):=⟨rfl,rfl,rfl,by decide +kernel,rfl,by decide +kernel,by decide +kernel⟩
theorem nd_are_rising_within_1:((["number"]:List Str)++(["thing", "low", "high"]:List Str)).Nodup:=by decide +kernel
theorem nd_are_rising_within_2:((["ahead", "number"]:List Str)++(["thing", "low", "high"]:List Str)).Nodup:=by decide +kernel
def Dz:DSp:=fun ds G Q _=>∃d lo hi,ds=[d,.int lo,.int hi]∧KnT G 1 d∧(∀xs,d=.tup xs→xs.length<sizeLine)∧Q (.bl (Ep lo hi d)) G
theorem Sw{f:Addr}{fd:FuncData}(F:Fun K "are_rising_within" "are_rising_within" s_are_rising_within f fd)(T:Nums mg)(Ahx:Def P w K mg base CX0 1 "is_whole_within" p_is_whole_within spWhole):FnOk P w K mg base CX0 2 f fd Ap (liftSp K Dz):=by
 refine okD F D9 (fun ds G Q E h=>?_) (fun cdv A outer s H XE ds G Q E hr h=>?_)
 ·obtain⟨d,lo,hi,rfl,_⟩:=h;rfl
 ·obtain⟨d,lo,hi,rfl,kn,hz,k⟩:=h;refine⟨_,#["d",#["x",#["t",#["B",#["j",#["h",#["F",T,#["c",#["a",0],#["b",#["A","tuple",T]]]]]],#["C",#["j",#["h",#["K",T,#["b",#["O",["number"],["thing", "low", "high"],#["a",0],#["l",0,nd_are_rising_within_1],#["f",Ahx,hr,#["c",#["a",0],#["c",#["m",2],#["b",#["m",3]]]]]]]]]]]]]],#["e",#["g",#["K",T,#["b",#["Y",["ahead", "number"],["thing", "low", "high"],T,#["c",#["a",0],#["b",#["Z",#["a",0]]]],#["v",2,#["n",#["l",0,nd_are_rising_within_2],#["w",#["l",1,nd_are_rising_within_2]]]],#["ah",#["a",0],#["a",1]]]]]]]],?_⟩;obtain⟨t,ht⟩:=kn.kn;simp![ht];refine⟨pyIs t "tuple",rfl,?_⟩
  by_cases htt:t = "tuple"
  ·subst htt;obtain⟨xs,rfl⟩:=Es ht;rw[if_neg (by decide)]
   have k2:Q (.bl (xs.all (Ag lo hi)&&B0 xs)) G:=k;have hz1:=hz xs rfl;refine⟨xs,rfl,fun p hp=>?_⟩;refine A8 (fun x=>.bl (Ag lo hi x)) (fun _=>true) hz1 (fun _=>rfl) (by decide) (fun x ys hx hl R1 R2 g1 _=>?_) ?_
   ·have kx:Kn (Ab G p (.lst ys)) x:=Kn.new (kn.2 xs rfl x hx) hp;simp![spWhole,hl,kx];exact Fg.of (g1 rfl)
   ·refine⟨p,rfl,xs.map (Ag lo hi),by rw[Aa,Bb,List.map_map];rfl,?_⟩
    have ea:(xs.map (Ag lo hi)).all id=xs.all (Ag lo hi):=by simp[List.all_map]
    refine⟨_,rfl,?_⟩;rw[ea];cases hc:xs.all (Ag lo hi) with
    |false=>
     rw[if_pos (by decide)]
     rw[hc] at k2;exact⟨G,Sub.new hp,by simpa using k2⟩
    |true=>
     rw[if_neg (by decide)]
     rw[hc] at k2;have allI:∀x∈xs,∃i,x=.int i:=fun x hx=>by
      have:=List.all_eq_true.mp hc x hx
      cases x with
      |int i=>exact⟨i,rfl⟩
      |_=>exact absurd (show false=true from this) Bool.false_ne_true
     rw[Fb,Lw];have sg:Sub G (Ab G p (.lst ((xs.filter fun _=>true).map fun x=>.bl (Ag lo hi x)))):=Sub.new hp;generalize Ab G p (.lst ((xs.filter fun _=>true).map fun x=>.bl (Ag lo hi x)))=G1 at *;refine⟨[xs,xs.drop 1],rfl,fun p2 hp2=>?_⟩;have hzl:(A6 [xs,xs.drop 1]).length<sizeLine:=by
      rw[B3];refine Nat.lt_of_le_of_lt ?_ hz1;simp only[Ci];omega
     refine D6 (fun z=>match z with|.tup [u,v]=>[some u,some v,some (.tup xs),some (.int lo),some (.int hi)]|_=>[none,none,some (.tup xs),some (.int lo),some (.int hi)]) (fun z=>.bl (ltD z)) (fun _=>true) hzl (fun _=>rfl) (fun z hz=>?_) (fun z ys hzm hl R1 R2 g1 _=>?_) ?_
     ·obtain⟨u,v,rfl,_,_⟩:=Bz hz;refine⟨⟨[some u,some v],rfl,rfl⟩,fun G' R h=>?_⟩;simp![];exact h
     ·obtain⟨u,v,rfl,hu,hv⟩:=Bz hzm;obtain⟨i,rfl⟩:=allI u hu;obtain⟨j,rfl⟩:=allI v (List.mem_of_mem_drop hv);simp![hl];exact Fg.of (g1 rfl)
     ·refine⟨p2,rfl,(A6 [xs,xs.drop 1]).map ltD,by rw[Aa,Bb,List.map_map];rfl,?_⟩
      have e2:((A6 [xs,xs.drop 1]).map ltD).all id=B0 xs:=by rw[List.all_map];exact Jl xs
      rw[e2];exact⟨G,sg.skip hp2,by simpa using k2⟩
  ·obtain⟨e,nt⟩:=Dh ht htt;rw[e,if_pos (by decide)]
   refine Fq.of ?_;cases d with
   |tup xs=>exact absurd rfl (nt xs)
   |_=>exact k
abbrev s_are_rows:Stmt:=top 96
abbrev Qw:List Str:=["thing"]
abbrev Ce:List Str:=["thing"]
theorem Oh:FnScope Qw Ce (defScope s_are_rows):=⟨rfl,rfl,rfl,by decide +kernel,rfl,by decide +kernel,by decide +kernel⟩
def Lh:DSp:=fun ds G Q _=>∃d,ds=[d]∧KnT G 1 d∧(∀xs,d=.tup xs→xs.length<sizeLine)∧Q (.bl (Ip d)) G
theorem Zd{f:Addr}{fd:FuncData}(F:Fun K "are_rows" "are_rows" s_are_rows f fd)(T:Nums mg)(Ahz:Def P w K mg base CX0 2 "are_rising_within" Ap Dz):FnOk P w K mg base CX0 3 f fd Ce (liftSp K Lh):=by
 refine okD F Oh (fun ds G Q E h=>?_) (fun cdv A outer s H XE ds G Q E hr h=>?_)
 ·obtain⟨d,rfl,_⟩:=h;rfl
 ·obtain⟨d,rfl,kn,hz,k⟩:=h;refine⟨_,#["e",#["g",#["f",Ahz,hr,#["c",#["a",0],#["z",#["b",#["y",T.LAST_ROW]]]]]]],?_⟩;simp![Dz,kn];exact⟨hz,Fq.of k⟩
def M7:D→Bool
 |.tup cs=>decide (2≤cs.length)&&decide (cs.length≤16)&&cs.all Ip
 |_=>false
def SzT(d:D):Prop:=∀xs,d=.tup xs→xs.length<sizeLine∧∀y∈xs,∀ys,y=.tup ys→ys.length<sizeLine
abbrev s_is_channel:Stmt:=top 97
abbrev Mz:List Str:=["thing"]
abbrev Br:List Str:=["thing"]
theorem J7:FnScope Mz Br (defScope s_is_channel):=⟨rfl,rfl,rfl,by decide +kernel,rfl,by decide +kernel,by decide +kernel⟩
theorem nd_is_channel_1:((["rows"]:List Str)++(["thing"]:List Str)).Nodup:=by decide +kernel
def Lk:DSp:=fun ds G Q _=>∃d,ds=[d]∧KnT G 2 d∧SzT d∧Q (.bl (M7 d)) G
theorem Zk{f:Addr}{fd:FuncData}(F:Fun K "is_channel" "is_channel" s_is_channel f fd)(T:Nums mg)(Ah4:Def P w K mg base CX0 3 "are_rows" Ce Lh):FnOk P w K mg base CX0 4 f fd Br (liftSp K Lk):=by
 refine okD F J7 (fun ds G Q E h=>?_) (fun cdv A outer s H XE ds G Q E hr h=>?_)
 ·obtain⟨d,rfl,_⟩:=h;rfl
 ·obtain⟨d,rfl,kn,hz,k⟩:=h;refine⟨_,#["d",#["x",#["t",#["B",#["j",#["h",#["F",T,#["c",#["a",0],#["b",#["A","tuple",T]]]]]],#["C",#["j",(@qt_chain _ _ _ _ _ _ _ _ _ _ _ _ (@o_le _) (@o_le _) #["y",T.LEAST_COLUMNS] #["q",T,#["b",#["a",0]]] #["y",T.MOST_COLUMNS] (by with_unfolding_all rfl))]]]]],#["e",#["g",#["K",T,#["b",#["O",["rows"],["thing"],#["a",0],#["l",0,nd_is_channel_1],#["f",Ah4,hr,#["b",#["a",0]]]]]]]]],?_⟩
  obtain⟨t,ht⟩:=kn.kn;simp![ht];refine⟨pyIs t "tuple",rfl,?_⟩
  by_cases htt:t = "tuple"
  ·subst htt;obtain⟨xs,rfl⟩:=Es ht;rw[if_neg (by decide)]
   refine⟨xs.length,rfl,?_⟩;have k2:Q (.bl (decide (2≤xs.length)&&decide (xs.length≤16)&&xs.all Ip)) G:=k;obtain⟨hz1,hz2⟩:=hz xs rfl
   by_cases h1:2≤xs.length
   ·rw[if_pos (by omega)]
    by_cases h9:xs.length≤16
    ·rw[if_neg (by simp;omega)]
     rw[decide_eq_true h1,decide_eq_true h9] at k2;refine⟨xs,rfl,fun p hp=>?_⟩;refine A8 (fun x=>.bl (Ip x)) (fun _=>true) hz1 (fun _=>rfl) (by decide) (fun x ys hx hl R1 R2 g1 _=>?_) ?_
     ·have kx:KnT (Ab G p (.lst ys)) 1 x:=KnT.new hp (kn.2 xs rfl x hx);have zx:=hz2 x hx;simp![Lh,hl,kx];exact⟨zx,Fg.of (g1 rfl)⟩
     ·refine⟨p,rfl,xs.map Ip,by rw[Aa,Bb,List.map_map];rfl,?_⟩
      refine⟨G,Sub.new hp,?_⟩;simpa[List.all_map] using k2
    ·rw[if_pos (by simp;omega)]
     refine Fq.of ?_;simpa[h9] using k2
   ·rw[if_neg (by omega)]
    refine Fq.of ?_;simpa[h1] using k2
  ·obtain⟨e,nt⟩:=Dh ht htt;rw[e,if_pos (by decide)]
   refine Fq.of ?_;cases d with
   |tup xs=>exact absurd rfl (nt xs)
   |_=>exact k
abbrev s_check_channel:Stmt:=top 98
abbrev Hz:List Str:=["thing"]
abbrev p_check_channel:List Str:=["thing"]
theorem Gu:FnScope Hz p_check_channel (defScope s_check_channel):=⟨rfl,rfl,rfl,by decide +kernel,rfl,by decide +kernel,by decide +kernel⟩
def spCheckC:DSp:=fun ds G Q _=>∃d,ds=[d]∧KnT G 2 d∧SzT d∧M7 d=true∧Q .non G
theorem S0{f:Addr}{fd:FuncData}(F:Fun K "check_channel" "check_channel" s_check_channel f fd)(T:Nums mg)(Ah5:Def P w K mg base CX0 4 "is_channel" Br Lk):FnOk P w K mg base CX0 5 f fd p_check_channel (liftSp K spCheckC):=by
 refine okD F Gu (fun ds G Q E h=>?_) (fun cdv A outer s H XE ds G Q E hr h=>?_)
 ·obtain⟨d,rfl,_⟩:=h;rfl
 ·obtain⟨d,rfl,kn,hz,hc,k⟩:=h;refine⟨_,#["e",#["ai",#["j",#["h",#["f",Ah5,hr,#["b",#["a",0]]]]]]],?_⟩;simp![Lk,kn];refine⟨hz,_,rfl,?_⟩;rw[hc,if_neg (by decide)]
  exact Fq.of k
def Ai(c:List Int):D:=.tup (c.map D.int)
def seaD(s:List (List Int)):D:=.tup (s.map Ai)
structure SeaOk(s:List (List Int))(h:Nat):Prop where
 wide:2≤s.length∧s.length≤16
 high:1≤h∧h≤9
 col:∀c∈s,c.length=h∧∀x∈c,0≤x∧x≤9
def spChk(lo hi:Int):DSp:=fun ds G Q _=>∃i,ds=[.int i]∧lo≤i∧i≤hi∧Q .non G
def Dm(lo hi:Int):DSp:=fun ds G Q _=>∃d,ds=[d]∧Kn G d∧Q (.bl (Ag lo hi d)) G
abbrev s_is_depth:Stmt:=top 33
abbrev Qt:List Str:=["thing"]
abbrev Cc:List Str:=["thing"]
theorem Of:FnScope Qt Cc (defScope s_is_depth):=⟨rfl,rfl,rfl,by decide +kernel,rfl,by decide +kernel,by decide +kernel⟩
theorem W0{f:Addr}{fd:FuncData}(F:Fun K "is_depth" "is_depth" s_is_depth f fd)(T:Nums mg)(Ahx:Def P w K mg base CX0 1 "is_whole_within" p_is_whole_within spWhole):FnOk P w K mg base CX0 2 f fd Cc (liftSp K (Dm 0 9)):=by
 refine okD F Of (fun ds G Q E h=>?_) (fun cdv A outer s H XE ds G Q E hr h=>?_)
 ·obtain⟨d,rfl,_⟩:=h;rfl
 ·obtain⟨d,rfl,kn,k⟩:=h;refine⟨_,#["e",#["g",#["f",Ahx,hr,#["c",#["a",0],#["c",#["y",T.LAND],#["b",#["y",T.MOST_DEPTH]]]]]]],?_⟩;simp![spWhole,kn];exact Fq.of k
abbrev s_is_draught:Stmt:=top 34
abbrev My:List Str:=["thing"]
abbrev Bq:List Str:=["thing"]
theorem J6:FnScope My Bq (defScope s_is_draught):=⟨rfl,rfl,rfl,by decide +kernel,rfl,by decide +kernel,by decide +kernel⟩
theorem P8{f:Addr}{fd:FuncData}(F:Fun K "is_draught" "is_draught" s_is_draught f fd)(T:Nums mg)(Ahx:Def P w K mg base CX0 1 "is_whole_within" p_is_whole_within spWhole):FnOk P w K mg base CX0 2 f fd Bq (liftSp K (Dm 1 9)):=by
 refine okD F J6 (fun ds G Q E h=>?_) (fun cdv A outer s H XE ds G Q E hr h=>?_)
 ·obtain⟨d,rfl,_⟩:=h;rfl
 ·obtain⟨d,rfl,kn,k⟩:=h;refine⟨_,#["e",#["g",#["f",Ahx,hr,#["c",#["a",0],#["c",#["y",T.LEAST_DRAUGHT],#["b",#["y",T.MOST_DRAUGHT]]]]]]],?_⟩;simp![spWhole,kn];exact Fq.of k
abbrev s_is_day:Stmt:=top 35
abbrev Xy:List Str:=["thing"]
abbrev C9:List Str:=["thing"]
theorem Sg:FnScope Xy C9 (defScope s_is_day):=⟨rfl,rfl,rfl,by decide +kernel,rfl,by decide +kernel,by decide +kernel⟩
theorem Adj{f:Addr}{fd:FuncData}(F:Fun K "is_day" "is_day" s_is_day f fd)(T:Nums mg)(Ahx:Def P w K mg base CX0 1 "is_whole_within" p_is_whole_within spWhole):FnOk P w K mg base CX0 2 f fd C9 (liftSp K (Dm 0 400)):=by
 refine okD F Sg (fun ds G Q E h=>?_) (fun cdv A outer s H XE ds G Q E hr h=>?_)
 ·obtain⟨d,rfl,_⟩:=h;rfl
 ·obtain⟨d,rfl,kn,k⟩:=h;refine⟨_,#["e",#["g",#["f",Ahx,hr,#["c",#["a",0],#["z",#["b",#["y",T.LAST_DAY]]]]]]],?_⟩;simp![spWhole,kn];exact Fq.of k
def Er:D→Bool
 |.tup xs=>decide (1≤xs.length)&&decide (xs.length≤9)&&xs.all (Ag 0 9)
 |_=>false
def Cy:D→Nat
 |.tup xs=>xs.length
 |_=>0
def Ch:D→Bool
 |.tup cs=>decide (2≤cs.length)&&decide (cs.length≤16)&&(cs.all Er&&cs.all fun c=>decide (Cy c=Cy (cs.headD .non)))
 |_=>false
abbrev s_is_column:Stmt:=top 36
abbrev O1:List Str:=["thing"]
abbrev Bu:List Str:=["thing"]
theorem Mm:FnScope O1 Bu (defScope s_is_column):=⟨rfl,rfl,rfl,by decide +kernel,rfl,by decide +kernel,by decide +kernel⟩
theorem nd_is_column_1:((["depth"]:List Str)++(["thing"]:List Str)).Nodup:=by decide +kernel
def Qy:DSp:=fun ds G Q _=>∃d,ds=[d]∧KnT G 1 d∧(∀xs,d=.tup xs→xs.length<sizeLine)∧Q (.bl (Er d)) G
theorem Adk{f:Addr}{fd:FuncData}(F:Fun K "is_column" "is_column" s_is_column f fd)(T:Nums mg)(Ah6:Def P w K mg base CX0 2 "is_depth" Cc (Dm 0 9)):FnOk P w K mg base CX0 3 f fd Bu (liftSp K Qy):=by
 refine okD F Mm (fun ds G Q E h=>?_) (fun cdv A outer s H XE ds G Q E hr h=>?_)
 ·obtain⟨d,rfl,_⟩:=h;rfl
 ·obtain⟨d,rfl,kn,hz,k⟩:=h;refine⟨_,#["d",#["x",#["t",#["B",#["j",#["h",#["F",T,#["c",#["a",0],#["b",#["A","tuple",T]]]]]],#["C",#["j",(@qt_chain _ _ _ _ _ _ _ _ _ _ _ _ (@o_le _) (@o_le _) #["y",T.LEAST_ROWS] #["q",T,#["b",#["a",0]]] #["y",T.MOST_ROWS] (by with_unfolding_all rfl))]]]]],#["e",#["g",#["K",T,#["b",#["O",["depth"],["thing"],#["a",0],#["l",0,nd_is_column_1],#["f",Ah6,hr,#["b",#["a",0]]]]]]]]],?_⟩
  obtain⟨t,ht⟩:=kn.kn;simp![ht];refine⟨pyIs t "tuple",rfl,?_⟩
  by_cases htt:t = "tuple"
  ·subst htt;obtain⟨xs,rfl⟩:=Es ht;refine it1 (by decide) ⟨xs.length,rfl,?_⟩
   have k2:Q (.bl (decide (1≤xs.length)&&decide (xs.length≤9)&&xs.all (Ag 0 9))) G:=k;have hz1:=hz xs rfl
   by_cases h1:1≤xs.length
   ·refine it0 (by omega) ?_
    by_cases h9:xs.length≤9
    ·refine it1 (by simp;omega) ?_
     rw[decide_eq_true h1,decide_eq_true h9] at k2;refine⟨xs,rfl,fun p hp=>?_⟩;refine A8 (fun x=>.bl (Ag 0 9 x)) (fun _=>true) hz1 (fun _=>rfl) (by decide) (fun x ys hx hl R1 R2 g1 _=>?_) ?_
     ·have kx:Kn (Ab G p (.lst ys)) x:=Kn.new (kn.2 xs rfl x hx) hp;simp![Dm,hl,kx];exact Fg.of (g1 rfl)
     ·refine⟨p,rfl,xs.map (Ag 0 9),by rw[Aa,Bb,List.map_map];rfl,G,Sub.new hp,?_⟩
      simpa[List.all_map] using k2
    ·refine it0 (by simp;omega) (Fq.of ?_)
     simpa[h9] using k2
   ·refine it1 (by omega) (Fq.of ?_)
    simpa[h1] using k2
  ·obtain⟨e,nt⟩:=Dh ht htt;rw[e];refine it0 (by decide) (Fq.of ?_)
   cases d with
   |tup xs=>exact absurd rfl (nt xs)
   |_=>exact k
abbrev s_is_sea:Stmt:=top 37
abbrev Xw:List Str:=["thing"]
abbrev C7:List Str:=["thing"]
theorem Se:FnScope Xw C7 (defScope s_is_sea):=⟨rfl,rfl,rfl,by decide +kernel,rfl,by decide +kernel,by decide +kernel⟩
theorem nd_is_sea_1:((["column"]:List Str)++(["thing"]:List Str)).Nodup:=by decide +kernel
theorem nd_is_sea_2:((["column"]:List Str)++(["thing"]:List Str)).Nodup:=by decide +kernel
def Lg:DSp:=fun ds G Q _=>∃d,ds=[d]∧KnT G 2 d∧SzT d∧Q (.bl (Ch d)) G
theorem Zb{f:Addr}{fd:FuncData}(F:Fun K "is_sea" "is_sea" s_is_sea f fd)(T:Nums mg)(Ah7:Def P w K mg base CX0 3 "is_column" Bu Qy):FnOk P w K mg base CX0 4 f fd C7 (liftSp K Lg):=by
 refine okD F Se (fun ds G Q E h=>?_) (fun cdv A outer s H XE ds G Q E hr h=>?_)
 ·obtain⟨d,rfl,_⟩:=h;rfl
 ·obtain⟨d,rfl,kn,hz,k⟩:=h;refine⟨_,#["d",#["x",#["t",#["B",#["j",#["h",#["F",T,#["c",#["m",0],#["b",#["A","tuple",T]]]]]],#["C",#["j",(@qt_chain _ _ _ _ _ _ _ _ _ _ _ _ (@o_le _) (@o_le _) #["y",T.LEAST_COLUMNS] #["q",T,#["b",#["m",0]]] #["y",T.MOST_COLUMNS] (by with_unfolding_all rfl))]]]]],#["d",#["x",#["j",#["h",#["K",T,#["b",#["O",["column"],["thing"],#["m",0],#["l",0,nd_is_sea_1],#["f",Ah7,hr,#["b",#["a",0]]]]]]]]],#["e",#["g",#["K",T,#["b",#["O",["column"],["thing"],#["m",0],#["l",0,nd_is_sea_2],#["aq",#["q",T,#["b",#["a",0]]],#["q",T,#["b",#["p",#["m",1]]]]]]]]]]]],?_⟩
  obtain⟨t,ht⟩:=kn.kn;simp![ht];refine⟨pyIs t "tuple",rfl,?_⟩
  by_cases htt:t = "tuple"
  ·subst htt;obtain⟨xs,rfl⟩:=Es ht;refine it1 (by decide) ⟨xs.length,rfl,?_⟩
   have k2:Q (.bl (decide (2≤xs.length)&&decide (xs.length≤16)&&(xs.all Er&&xs.all fun c=>decide (Cy c=Cy (xs.headD .non))))) G:=k;obtain⟨hz1,hz2⟩:=hz xs rfl
   by_cases h1:2≤xs.length
   ·refine it0 (by omega) ?_
    by_cases h9:xs.length≤16
    ·refine it1 (by simp;omega) ?_
     rw[decide_eq_true h1,decide_eq_true h9] at k2;refine⟨xs,rfl,fun p hp=>?_⟩;refine A8 (fun x=>.bl (Er x)) (fun _=>true) hz1 (fun _=>rfl) (by decide) (fun x ys hx hl R1 R2 g1 _=>?_) ?_
     ·have kx:KnT (Ab G p (.lst ys)) 1 x:=KnT.new hp (kn.2 xs rfl x hx);have zx:=hz2 x hx;simp![Qy,hl,kx];exact⟨zx,Fg.of (g1 rfl)⟩
     ·refine⟨p,rfl,xs.map Er,by rw[Aa,Bb,List.map_map];rfl,_,rfl,?_⟩
      have ea:(xs.map Er).all id=xs.all Er:=by simp[List.all_map]
      rw[ea];cases hc:xs.all Er with
      |false=>
       rw[hc] at k2;exact it0 (by decide) ⟨G,Sub.new hp,by simpa using k2⟩
      |true=>
       rw[hc] at k2;have allT:∀x∈xs,∃ys,x=.tup ys:=fun x hx=>by
        have:=List.all_eq_true.mp hc x hx
        cases x with
        |tup ys=>exact⟨ys,rfl⟩
        |_=>exact absurd (show false=true from this) Bool.false_ne_true
       have sg:Sub G (Ab G p (.lst ((xs.filter fun _=>true).map fun x=>.bl (Er x)))):=Sub.new hp;generalize Ab G p (.lst ((xs.filter fun _=>true).map fun x=>.bl (Er x)))=G1 at *;refine it1 (by decide) ⟨xs,rfl,fun p2 hp2=>?_⟩
       obtain⟨y0,r0,e0⟩:∃y r,xs=y::r:=by cases xs with|nil=>simp at h1|cons y r=>exact⟨y,r,rfl⟩
       obtain⟨zs,hzs⟩:=allT y0 (by simp[e0])
       have at0:atI xs 0=some (.tup zs):=by rw[e0,hzs];exact R7
       have hd0:xs.headD .non=.tup zs:=by rw[e0,hzs];rfl
       rw[hd0] at k2;refine A8 (fun x=>.bl (decide (Cy x=zs.length))) (fun _=>true) hz1 (fun _=>rfl) (by decide) (fun x ys hx hl R1 R2 g1 _=>?_) ?_
       ·obtain⟨us,rfl⟩:=allT x hx;simp![hl,at0];have eb:decide (((us.length:Nat):Int)=((zs.length:Nat):Int))=decide (Cy (.tup us)=zs.length):=decide_eq_decide.mpr (by show _↔us.length=zs.length;omega)
        rw[eb];exact Fg.of (g1 rfl)
       ·refine⟨p2,rfl,xs.map fun x=>decide (Cy x=zs.length),by rw[Aa,Bb,List.map_map];rfl,G,sg.trans (Sub.new hp2),?_⟩
        rw[List.all_map];exact k2
    ·refine it0 (by simp;omega) (Fq.of ?_)
     simpa[h9] using k2
   ·refine it1 (by omega) (Fq.of ?_)
    simpa[h1] using k2
  ·obtain⟨e,nt⟩:=Dh ht htt;rw[e];refine it0 (by decide) (Fq.of ?_)
   cases d with
   |tup xs=>exact absurd rfl (nt xs)
   |_=>exact k
abbrev s_check_sea:Stmt:=top 39
abbrev O3:List Str:=["thing"]
abbrev Bw:List Str:=["thing"]
theorem Mn:FnScope O3 Bw (defScope s_check_sea):=⟨rfl,rfl,rfl,by decide +kernel,rfl,by decide +kernel,by decide +kernel⟩
def Dl(CN:Addr):DSp:=fun ds G Q E=>∃d,ds=[d]∧KnT G 2 d∧SzT d∧(Ch d=true→Q .non G)∧(Ch d=false→E (.ref CN) G)
theorem Oi{f CN:Addr}{fd:FuncData}(F:Fun K "check_sea" "check_sea" s_check_sea f fd)(T:Nums mg)(O_NoSea:ExcK K "NoSea" CN)(Ah8:Def P w K mg base CX0 4 "is_sea" C7 Lg):FnOk P w K mg base (CX1 P w) 5 f fd Bw (liftSp K (Dl CN)):=by
 refine okX F Mn (fun ds G Q E h=>?_) (fun cdv A outer s H XE ds G Q E hr h hE=>?_)
 ·obtain⟨d,rfl,_⟩:=h;rfl
 ·obtain⟨d,rfl,kn,hz,k1,k2⟩:=h;refine⟨_,#["e",#["H",#["j",#["h",#["f",Ah8,hr,#["b",#["a",0]]]]],#["e",#["R",hE,O_NoSea]]]],?_⟩;simp![Lg,kn];refine⟨hz,_,rfl,?_⟩;cases hc:Ch d with
  |true=>exact it1 (by decide) (Fq.of (k1 hc))
  |false=>exact it0 (by decide) ⟨szl (by decide),Fx.of (k2 hc)⟩
def spCheckN(CN:Addr)(lo hi:Int):DSp:=fun ds G Q E=>∃d,ds=[d]∧Kn G d∧(Ag lo hi d=true→Q .non G)∧(Ag lo hi d=false→E (.ref CN) G)
abbrev s_check_draught:Stmt:=top 41
abbrev Hy:List Str:=["thing"]
abbrev p_check_draught:List Str:=["thing"]
theorem Gs:FnScope Hy p_check_draught (defScope s_check_draught):=⟨rfl,rfl,rfl,by decide +kernel,rfl,by decide +kernel,by decide +kernel⟩
theorem Ho{f CN:Addr}{fd:FuncData}(F:Fun K "check_draught" "check_draught" s_check_draught f fd)(T:Nums mg)(O_NoDraught:ExcK K "NoDraught" CN)(Ah9:Def P w K mg base CX0 2 "is_draught" Bq (Dm 1 9)):FnOk P w K mg base (CX1 P w) 3 f fd p_check_draught (liftSp K (spCheckN CN 1 9)):=by
 refine okX F Gs (fun ds G Q E h=>?_) (fun cdv A outer s H XE ds G Q E hr h hE=>?_)
 ·obtain⟨d,rfl,_⟩:=h;rfl
 ·obtain⟨d,rfl,kn,k1,k2⟩:=h;refine⟨_,#["e",#["H",#["j",#["h",#["f",Ah9,hr,#["b",#["a",0]]]]],#["e",#["R",hE,O_NoDraught]]]],?_⟩;simp![Dm,kn];refine⟨_,rfl,?_⟩;cases hc:Ag 1 9 d with
  |true=>exact it1 (by decide) (Fq.of (k1 hc))
  |false=>exact it0 (by decide) ⟨szl (by decide),Fx.of (k2 hc)⟩
abbrev s_check_day:Stmt:=top 42
abbrev O4:List Str:=["thing"]
abbrev p_check_day:List Str:=["thing"]
theorem Mo:FnScope O4 p_check_day (defScope s_check_day):=⟨rfl,rfl,rfl,by decide +kernel,rfl,by decide +kernel,by decide +kernel⟩
theorem Oj{f:Addr}{fd:FuncData}(F:Fun K "check_day" "check_day" s_check_day f fd)(T:Nums mg)(Aia:Def P w K mg base CX0 2 "is_day" C9 (Dm 0 400)):FnOk P w K mg base CX0 3 f fd p_check_day (liftSp K (spChk 0 400)):=by
 refine okD F Mo (fun ds G Q E h=>?_) (fun cdv A outer s H XE ds G Q E hr h=>?_)
 ·obtain⟨c,rfl,_⟩:=h;rfl
 ·obtain⟨c,rfl,h1,h2,k⟩:=h;refine⟨_,#["e",#["ai",#["j",#["h",#["f",Aia,hr,#["b",#["a",0]]]]]]],?_⟩;have kn:Kn G (.int c):=⟨_,rfl⟩;simp![Dm,Ag,kn,h1,h2];exact⟨true,rfl,it1 (by decide) (Fq.of k)⟩
theorem Vx{cs:List D}(h:Ch (.tup cs)=true):2≤cs.length∧cs.length≤16∧∃xs,atI cs 0=some (.tup xs)∧1≤xs.length∧xs.length≤9∧∀c∈cs,∃ys:List Int,c=.tup (ys.map D.int)∧ys.length=xs.length:=by
 unfold Ch at h;simp only[Bool.and_eq_true,decide_eq_true_eq,List.all_eq_true] at h;obtain⟨⟨h1,h2⟩,h3,h4⟩:=h;have col:∀c∈cs,∃ys:List Int,c=.tup (ys.map D.int)∧1≤ys.length∧ys.length≤9:=fun c hc=>by
  have:=h3 c hc
  cases c with
  |tup us=>
   unfold Er at this;simp only[Bool.and_eq_true,decide_eq_true_eq,List.all_eq_true] at this;obtain⟨⟨a1,a2⟩,a3⟩:=this
   have:∃ys:List Int,us=ys.map D.int:=by
    clear a1 a2 hc
    induction us with
    |nil=>exact⟨[],rfl⟩
    |cons x r ih=>
     obtain⟨ys,rfl⟩:=ih fun y hy=>a3 y (by simp[hy])
     have:=a3 x (by simp)
     cases x with
     |int i=>exact⟨i::ys,rfl⟩
     |_=>cases this
   obtain⟨ys,rfl⟩:=this;exact⟨ys,rfl,by simpa using a1,by simpa using a2⟩
  |_=>cases this
 cases cs with
 |nil=>simp at h1
 |cons y r=>
  obtain⟨ys,rfl,b1,b2⟩:=col y (by simp)
  refine⟨h1,h2,_,R7,by simpa using b1,by simpa using b2,fun c hc=>?_⟩
  obtain⟨zs,rfl,_,_⟩:=col c hc
  have:=h4 _ hc
  exact⟨zs,rfl,by simpa[Cy] using this⟩
def Bx(s:List (List Int))(c r:Nat):Int:=(s.getD c []).getD r 0
abbrev s_depth_at:Stmt:=top 43
abbrev Qu:List Str:=["sea", "cell", "column", "row"]
abbrev Cd:List Str:=["sea", "cell"]
theorem sc_depth_at:FnScope Qu Cd (defScope s_depth_at):=⟨rfl,rfl,rfl,by decide +kernel,rfl,by decide +kernel,by decide +kernel⟩
def Gc:DSp:=fun ds G Q _=>∃s c r,ds=[seaD s,.tup [.int (c:Nat),.int (r:Nat)]]∧c<s.length∧r<(s.getD c []).length∧Q (.int (Bx s c r)) G
theorem P9{f:Addr}{fd:FuncData}(F:Fun K "depth_at" "depth_at" s_depth_at f fd)(T:Nums mg):FnOk P w K mg base CX0 1 f fd Cd (liftSp K Gc):=by
 refine okD F sc_depth_at (fun ds G Q E h=>?_) (fun cdv A outer s H XE ds G Q E hr h=>?_)
 ·obtain⟨_,_,_,rfl,_⟩:=h;rfl
 ·obtain⟨s,c,r,rfl,hc,hr',k⟩:=h;refine⟨_,#["d",#["J",#["a",1],#["v",2,#["n",#["k",2,sc_depth_at.nd],#["w",#["k",3,sc_depth_at.nd]]]]],#["e",#["g",#["E",#["E",#["a",0],#["a",2]],#["a",3]]]]],?_⟩;unfold seaD;simp![];refine⟨Ai (s.getD c []),C1 (by simp[hc]),.int (Bx s c r),?_,Fq.of k⟩
  show atI ((s.getD c []).map D.int) (r:Int)=_;unfold Bx;generalize s.getD c []=col at *;refine C1 ?_;rw[List.getElem?_map,List.getElem?_eq_getElem hr',List.getD_eq_getElem?_getD,List.getElem?_eq_getElem hr'];rfl
abbrev s_is_shoal:Stmt:=top 45
abbrev Qr:List Str:=["sea", "cell", "draught"]
abbrev p_is_shoal:List Str:=["sea", "cell", "draught"]
theorem Oe:FnScope Qr p_is_shoal (defScope s_is_shoal):=⟨rfl,rfl,rfl,by decide +kernel,rfl,by decide +kernel,by decide +kernel⟩
def spShoal:DSp:=fun ds G Q _=>∃s c r d,ds=[seaD s,.tup [.int (c:Nat),.int (r:Nat)],.int d]∧c<s.length∧r<(s.getD c []).length∧Q (.bl (decide (Bx s c r<d))) G
theorem Wt{f:Addr}{fd:FuncData}(F:Fun K "is_shoal" "is_shoal" s_is_shoal f fd)(T:Nums mg)(Aib:Def P w K mg base CX0 1 "depth_at" Cd Gc):FnOk P w K mg base CX0 2 f fd p_is_shoal (liftSp K spShoal):=by
 refine okD F Oe (fun ds G Q E h=>?_) (fun cdv A outer s H XE ds G Q E hr h=>?_)
 ·obtain⟨_,_,_,_,rfl,_⟩:=h;rfl
 ·obtain⟨s,c,r,d,rfl,hc,hr',k⟩:=h;refine⟨_,#["e",#["g",#["ah",#["f",Aib,hr,#["c",#["a",0],#["b",#["a",1]]]],#["a",2]]]],?_⟩;simp![];refine⟨s,c,r,rfl,hc,hr',?_⟩;exact⟨_,rfl,Fq.of k⟩
abbrev s_is_row:Stmt:=top 95
abbrev Xx:List Str:=["thing"]
abbrev C8:List Str:=["thing"]
theorem Sf:FnScope Xx C8 (defScope s_is_row):=⟨rfl,rfl,rfl,by decide +kernel,rfl,by decide +kernel,by decide +kernel⟩
def Qx:DSp:=fun ds G Q _=>∃d,ds=[d]∧Kn G d∧Q (.bl (Ag 0 8 d)) G
theorem Ade{f:Addr}{fd:FuncData}(F:Fun K "is_row" "is_row" s_is_row f fd)(T:Nums mg)(Ahx:Def P w K mg base CX0 1 "is_whole_within" p_is_whole_within spWhole):FnOk P w K mg base CX0 2 f fd C8 (liftSp K Qx):=by
 refine okD F Sf (fun ds G Q E h=>?_) (fun cdv A outer s H XE ds G Q E hr h=>?_)
 ·obtain⟨d,rfl,_⟩:=h;rfl
 ·obtain⟨d,rfl,kn,k⟩:=h;refine⟨_,#["e",#["g",#["f",Ahx,hr,#["c",#["a",0],#["z",#["b",#["y",T.LAST_ROW]]]]]]],?_⟩;simp![spWhole,kn];exact Fq.of k
abbrev s_check_held:Stmt:=top 69
abbrev M0:List Str:=["thing"]
abbrev p_check_held:List Str:=["thing"]
theorem J8:FnScope M0 p_check_held (defScope s_check_held):=⟨rfl,rfl,rfl,by decide +kernel,rfl,by decide +kernel,by decide +kernel⟩
theorem Zg{f:Addr}{fd:FuncData}(F:Fun K "check_held" "check_held" s_check_held f fd)(T:Nums mg)(Ahx:Def P w K mg base CX0 1 "is_whole_within" p_is_whole_within spWhole):FnOk P w K mg base CX0 2 f fd p_check_held (liftSp K (spChk 0 99)):=by
 refine okD F J8 (fun ds G Q E h=>?_) (fun cdv A outer s H XE ds G Q E hr h=>?_)
 ·obtain⟨i,rfl,_⟩:=h;rfl
 ·obtain⟨i,rfl,h1,h2,k⟩:=h;refine⟨_,#["e",#["ai",#["j",#["h",#["f",Ahx,hr,#["c",#["a",0],#["z",#["b",#["y",T.LAST_NUMBER]]]]]]]]],?_⟩;have kn:Kn G (.int i):=⟨_,rfl⟩;simp![spWhole,Ag,kn,h1,h2]
  first|exact Fq.of k|exact⟨true,rfl,it1 (by decide) (Fq.of k)⟩
theorem Ra{P:List Int→Prop}:∀{cs:List D},(∀c∈cs,∃ys,c=Ai ys∧P ys)→∃s:List (List Int),cs=s.map Ai∧∀y∈s,P y
 |[],_=>⟨[],rfl,fun _ h=>by simp at h⟩
 |c::r,h=>by
  obtain⟨y,rfl,hy⟩:=h c (by simp)
  obtain⟨s,rfl,hs⟩:=Ra (cs:=r) fun c hc=>h c (by simp[hc])
  refine⟨y::s,rfl,fun z hz=>?_⟩;rcases List.mem_cons.mp hz with rfl|hz
  ·exact hy
  ·exact hs z hz
theorem Aby{d:D}(h:Ch d=true):∃s k,d=seaD s∧SeaOk s k:=by
 cases d with
 |tup cs=>
  obtain⟨h1,h2,xs,_,h3,h4,h5⟩:=Vx h;unfold Ch at h;simp only[Bool.and_eq_true,List.all_eq_true] at h;obtain⟨s,rfl,hs⟩:=Ra (P:=fun ys=>ys.length=xs.length∧∀x∈ys,0≤x∧x≤9) (cs:=cs) fun c hc=>by
   obtain⟨ys,rfl,hl⟩:=h5 c hc;refine⟨ys,rfl,hl,fun x hx=>?_⟩
   have:=h.2.1 _ hc
   unfold Er at this;simp only[Bool.and_eq_true,List.all_eq_true] at this
   have:=this.2 _ (List.mem_map.mpr ⟨x,hx,rfl⟩)
   simpa[Ag] using this
  rw[List.length_map] at h1 h2;exact⟨s,xs.length,rfl,⟨⟨h1,h2⟩,⟨h3,h4⟩,hs⟩⟩
 |_=>cases h
def L5(CS:Addr):DSp:=fun ds G Q E=>∃d p,ds=[d,.ref p]∧KnT G 2 d∧SzT d∧G p=some (.lst [])∧(Ch d=true→Q (.bl true) G)∧(Ch d=false→E (.ref CS) G)
abbrev s_are_notices:Stmt:=top 67
abbrev Kg:List Str:=["sea", "thing", "by_number", "notice"]
abbrev Bh:List Str:=["sea", "thing"]
theorem sc_are_notices:FnScope Kg Bh (defScope s_are_notices):=⟨rfl,rfl,rfl,by decide +kernel,rfl,by decide +kernel,by decide +kernel⟩
theorem P7{f CS:Addr}{fd:FuncData}(F:Fun K "are_notices" "are_notices" s_are_notices f fd)(T:Nums mg)(Aic:Def P w K mg base (CX1 P w) 5 "check_sea" Bw (Dl CS)):FnOk P w K mg base (CX1 P w) 6 f fd Bh (liftSp K (L5 CS)):=by
 refine okX F sc_are_notices (fun ds G Q E h=>?_) (fun cdv A outer s H XE ds G Q E hr h hE=>?_)
 ·obtain⟨_,_,rfl,_⟩:=h;rfl
 ·obtain⟨d,p,rfl,kn,hz,hp,k,k0⟩:=h;refine⟨_,#["d",#["u",#["L",(Fx E),Aic,hr,(passX hE),#["b",#["a",0]]]],#["d",#["x",#["t",#["B",#["j",#["h",#["F",T,#["c",#["a",1],#["b",#["A","list",T]]]]]],#["C",#["aj",#["q",T,#["b",#["a",1]]],#["y",T.MOST_NOTICES]]]]]],#["d",#["aJ",2,sc_are_notices.nd],#["7",#["aK",PassesOwn.leaving,#["a",1],(@Aan _ _),(@Pj _ _)]]]]],?_⟩;have ty:A9 G (.ref p)=some "list":=by simp only[A9,hp]
  simp![Dl,ty];refine⟨kn,hz,fun hb=>?_,fun hb=>Fx.of (k0 hb)⟩;refine⟨true,rfl,it1 (by decide) ⟨0,by simp[Hl,hp],it1 (by decide) fun p1 hp1=>?_⟩⟩
  have e1:Am (Ab G p1 (.dkk [])) (.ref p)=some []:=by simp only[Am,Ah hp hp1]
  refine⟨[],e1,Ul e1 ?_⟩;simp![];exact⟨G,Sub.new hp1,k hb⟩
abbrev s_check_notices:Stmt:=top 68
abbrev Hx:List Str:=["sea", "thing"]
abbrev p_check_notices:List Str:=["sea", "thing"]
theorem Gr:FnScope Hx p_check_notices (defScope s_check_notices):=⟨rfl,rfl,rfl,by decide +kernel,rfl,by decide +kernel,by decide +kernel⟩
def spNoneCX(CS:Addr):DSp:=fun ds G Q E=>∃d p,ds=[d,.ref p]∧KnT G 2 d∧SzT d∧G p=some (.lst [])∧(Ch d=true→Q .non G)∧(Ch d=false→E (.ref CS) G)
theorem Hn{f CS CN:Addr}{fd:FuncData}(F:Fun K "check_notices" "check_notices" s_check_notices f fd)(T:Nums mg)(O_NoNotices:ExcK K "NoNotices" CN)(Aid:Def P w K mg base (CX1 P w) 6 "are_notices" Bh (L5 CS)):FnOk P w K mg base (CX1 P w) 7 f fd p_check_notices (liftSp K (spNoneCX CS)):=by
 refine okX F Gr (fun ds G Q E h=>?_) (fun cdv A outer s H XE ds G Q E hr h hE=>?_)
 ·obtain⟨_,_,rfl,_⟩:=h;rfl
 ·obtain⟨d,p,rfl,kn,hz,hp,k,k0⟩:=h;refine⟨_,#["e",#["H",#["j",#["h",#["L",(Fx E),Aid,hr,(passX hE),#["c",#["a",0],#["b",#["a",1]]]]]],#["e",#["R",hE,O_NoNotices]]]],?_⟩;simp![];refine⟨d,p,rfl,kn,hz,hp,fun hb=>?_,fun hb=>Fx.of (k0 hb)⟩;exact⟨true,rfl,it1 (by decide) (Fq.of (k hb))⟩
end
section
variable{P:Program}{w:World}{K:W.Frag}{mg:Str→Option Value}{base:Heap}{C:Addr}
structure Sy(K:W.Frag)(mg:Str→Option Value)(C:Addr):Prop extends Nums mg where
 cls:Cls K C
 na_sea:NoAttr K C "sea"
 na_placed:NoAttr K C "placed"
 na_adrift:NoAttr K C "adrift"
 na_undone:NoAttr K C "undone"
 Chart:mg "Chart" = some (.ref C)
def Fj(C:Addr)(G:Gp)(x:Addr)(d:D)(a:Addr):Prop:=∃b c,G x=some (.ins C [("sea",d),("placed",.ref a),("adrift",.ref b),("undone",.ref c)])∧G a=some (.dkk [])∧G b=some (.dkk [])∧G c=some (.lst [])
theorem Eb{g f:Str}{e d:D}{r:List (Str×D)}(h:g≠f):Dn f d ((g,e)::r)=(g,e)::Dn f d r:=if_neg h
abbrev s_Chart_init:Stmt:=inCls (top 71) 0
abbrev M2:List Str:=["self", "sea"]
abbrev Bf:List Str:=["self", "sea"]
theorem J9:FnScope M2 Bf (defScope s_Chart_init):=⟨rfl,rfl,rfl,by decide +kernel,rfl,by decide +kernel,by decide +kernel⟩
def Lj(C:Addr):DSp:=fun ds G Q _=>∃x d,ds=[.ref x,d]∧G x=some (.ins C [])∧∀G' a,Fj C G' x d a→G a=none→(∀y o,y≠x→G y=some o→G' y=some o)→Q .non G'
theorem Zf{f:Addr}{fd:FuncData}(F:Fun K "__init__" "Chart.__init__" s_Chart_init f fd)(T:Sy K mg C):FnOk P w K mg base CX0 1 f fd Bf (liftSp K (Lj C)):=by
 refine okD F J9 (fun ds G Q E h=>?_) (fun cdv A outer s H XE ds G Q E hr h=>?_)
 ·obtain⟨_,_,rfl,_⟩:=h;rfl
 ·obtain⟨x,d,rfl,hx,k⟩:=h;refine⟨_,#["d",#["ar",T.cls,T.na_sea,#["a",0],#["a",1]],#["d",#["as",T.cls,T.na_placed,#["a",0]],#["d",#["as",T.cls,T.na_adrift,#["a",0]],#["e",#["ar",T.cls,T.na_undone,#["a",0],#["ak"]]]]]],?_⟩;simp![hx];have ne:∀{G:Gp} {a b:Addr} {o:GO},G a=some o→G b=none→a≠b:=fun h h' z=>by subst z;rw[h] at h';cases h'
  have f1:∀a,Dn "placed" a [("sea",d)]=([("sea",d),("placed",a)]:List (Str×D)):=fun a=>by rw[Eb (by decide)];rfl
  have f2:∀a b,Dn "adrift" b [("sea",d),("placed",a)]=([("sea",d),("placed",a),("adrift",b)]:List (Str×D)):=fun a b=>by rw[Eb (by decide),Eb (by decide)];rfl
  have f3:∀a b c,Dn "undone" c [("sea",d),("placed",a),("adrift",b)]=([("sea",d),("placed",a),("adrift",b),("undone",c)]:List (Str×D)):=fun a b c=>by rw[Eb (by decide),Eb (by decide),Eb (by decide)];rfl
  refine⟨[],rfl,by decide,fun p hp=>?_⟩
  have e1:Ab G x (.ins C (Dn "sea" d [])) x=some (.ins C [("sea",d)]):=Aa;have k1:∀y o,y≠x→G y=some o→Ab G x (.ins C (Dn "sea" d [])) y=some o:=fun y o n h=>by rw[Ad n];exact h
  have gp:G p=none:=by
   by_cases z:p=x
   ·rw[z,Aa] at hp;cases hp
   ·rw[Ad z] at hp;exact hp
  generalize Ab G x (.ins C (Dn "sea" d []))=G1 at *;have n1:=ne e1 hp;refine⟨[("sea",d)],by rw[Ad n1];exact e1,by simp,fun p1 hp1=>?_⟩
  rw[f1] at hp1 ⊢;have e2:Ab (Ab G1 p (.dkk [])) x (.ins C [("sea",d),("placed",.ref p)]) x=some (.ins C [("sea",d),("placed",.ref p)]):=Aa;have a2:Ab (Ab G1 p (.dkk [])) x (.ins C [("sea",d),("placed",.ref p)]) p=some (.dkk []):=by rw[Ad n1.symm];exact Aa
  have k2:∀y o,y≠x→G y=some o→Ab (Ab G1 p (.dkk [])) x (.ins C [("sea",d),("placed",.ref p)]) y=some o:=fun y o n h=>by rw[Ad n];exact Ah (k1 y o n h) hp
  generalize Ab (Ab G1 p (.dkk [])) x (.ins C [("sea",d),("placed",.ref p)])=G2 at *;have n2:=ne e2 hp1;refine⟨[("sea",d),("placed",.ref p)],by rw[Ad n2];exact e2,by simp,Nat.zero_le _,fun p2 hp2=>?_⟩
  rw[f2] at hp2 ⊢;have e3:Ab (Ab G2 p1 (.dkk [])) x (.ins C [("sea",d),("placed",.ref p),("adrift",.ref p1)]) x=some (.ins C [("sea",d),("placed",.ref p),("adrift",.ref p1)]):=Aa;have a3:Ab (Ab G2 p1 (.dkk [])) x (.ins C [("sea",d),("placed",.ref p),("adrift",.ref p1)]) p=some (.dkk []):=by rw[Ad n1.symm];exact Ah a2 hp1
  have b3:Ab (Ab G2 p1 (.dkk [])) x (.ins C [("sea",d),("placed",.ref p),("adrift",.ref p1)]) p1=some (.dkk []):=by rw[Ad n2.symm];exact Aa
  have k3:∀y o,y≠x→G y=some o→Ab (Ab G2 p1 (.dkk [])) x (.ins C [("sea",d),("placed",.ref p),("adrift",.ref p1)]) y=some o:=fun y o n h=>by rw[Ad n];exact Ah (k2 y o n h) hp1
  generalize Ab (Ab G2 p1 (.dkk [])) x (.ins C [("sea",d),("placed",.ref p),("adrift",.ref p1)])=G3 at *;have n3:=ne e3 hp2;refine⟨[("sea",d),("placed",.ref p),("adrift",.ref p1)],by rw[Ad n3];exact e3,by simp,Fq.of (k _ p ?_ gp fun y o n h=>?_)⟩
  ·rw[f3];exact⟨p1,p2,Aa,by rw[Ad n1.symm];exact Ah a3 hp2,by rw[Ad n2.symm];exact Ah b3 hp2,by rw[Ad n3.symm];exact Aa⟩
  ·rw[Ad n];exact Ah (k3 y o n h) hp2
end
section
variable{P:Program}{w:World}{K:W.Frag}{mg:Str→Option Value}{base:Heap}{C T0:Addr}
theorem Ia{G G':Gp}{l:Addr}{o:GO}(s:Sub G G'):Sub (Ab G l o) (Ab G' l o):=fun b u h=>by
 by_cases z:b=l
 ·subst z;rw[Aa] at h ⊢;exact h
 ·rw[Ad z] at h ⊢;exact s b u h
theorem Ad8{n:Nat}{p:Addr}{same:Gp→Prop}{g:DTG}{tf:DTT}{tk tv:DTE}{σ:DSt}{G:Gp}{Q:DK}(s:same (Ab G p (.dkk [])))(h:Q (.ref p) (Ab G p (.dkk []))):Uu n p [] same g tf tk tv σ (Ab G p (.dkk [])) Q:=
 ⟨fun i kvs G'=>kvs=[]∧G'=Ab G p (.dkk []),⟨rfl,rfl⟩,fun i kvs G' _ e=>⟨by rw[e.2];exact s,by rw[e.1,e.2];exact Aa⟩,fun i x kvs G' e=>by simp at e,fun kvs G' e=>by rw[e.2];exact h⟩
abbrev s_in_order:Stmt:=top 81
abbrev Jw:List Str:=["notices", "held", "by_number"]
abbrev p_in_order:List Str:=["notices", "held"]
theorem sc_in_order:FnScope Jw p_in_order (defScope s_in_order):=⟨rfl,rfl,rfl,by decide +kernel,rfl,by decide +kernel,by decide +kernel⟩
theorem nd_in_order_1:((["notice"]:List Str)++(["notices", "held", "by_number"]:List Str)).Nodup:=by decide +kernel
def spOrder(T0:Addr)(q:Str):DSp:=fun ds G Q _=>∃p h,ds=[.ref p,.int h]∧G p=some (.lst [])∧G T0=some (.tbl q)∧∀l,G l=none→Q (.ref l) (Ab G l (.lst []))
theorem Wx{f c0:Addr}{fd:FuncData}(F:Fun K "in_order" "in_order" s_in_order f fd)(T:Nums mg)(hfc:fd.code=.ref c0)(hC:W.codeHdIn K c0 T0=true):FnOk P w K mg base CX0 1 f fd p_in_order (liftSp K (spOrder T0 ("in_order" ++ ".<locals>." ++ "<lambda>"))):=by
 refine okDc F hfc sc_in_order (fun ds G Q E h=>?_) (fun A outer s H XE ds G Q E hr h=>?_)
 ·obtain⟨_,_,rfl,_⟩:=h;rfl
 ·obtain⟨p,h,rfl,hp,hT,k⟩:=h;have hcode:(Cw CX0 P w K mg base Jw "in_order" (defScope s_in_order) f (.ref c0) A outer s H XE).nox.env.code=.ref c0:=rfl;refine⟨_,#["d",#["aL",["notice"],["notices", "held", "by_number"],2,#["a",0],#["l",0,nd_in_order_1],#["8",#["P",(@o_le _),#["p",#["a",0]],#["m",2]]],#["p",#["a",0]],#["a",0],sc_in_order.nd,(by first|exact .inl rfl|exact .inr rfl),(by first|exact .inl rfl|exact .inr rfl)],#["e",#["g",#["aM",T,#["a",2],hcode,hC]]]],?_⟩
  simp![];refine⟨[],by simp only[Am,hp],fun p1 hp1=>Ad8 (by simp only[Am,Ah hp hp1]) ⟨p1,rfl,Aa,Ah hT hp1,fun l hl=>?_⟩⟩
  have hl0:G l=none:=by
   by_cases z:l=p1
   ·rw[z];exact hp1
   ·rw[Ad z] at hl;exact hl
  exact⟨_,Ia (Sub.new hp1),k l hl0⟩
abbrev s_chart_behind:Stmt:=top 82
abbrev Jz:List Str:=["sea", "notices", "held", "last_day", "chart", "number", "day", "deed", "do_deed"]
abbrev Bc:List Str:=["sea", "notices", "held", "last_day"]
theorem sc_chart_behind:FnScope Jz Bc (defScope s_chart_behind):=⟨rfl,rfl,rfl,by decide +kernel,rfl,by decide +kernel,by decide +kernel⟩
def Jf(C T0:Addr)(q:Str):DSp:=fun ds G Q _=>∃d p h dy,ds=[d,.ref p,.int h,dy]∧G p=some (.lst [])∧G T0=some (.tbl q)∧∀x a G',Sub G G'→G x=none→G a=none→Fj C G' x d a→Q (.ref x) G'
theorem S1{f fi:Addr}{fd fdi:FuncData}{q:Str}(F:Fun K "chart_behind" "chart_behind" s_chart_behind f fd)(T:Sy K mg C)(Aie:Def P w K mg base CX0 1 "in_order" p_in_order (spOrder T0 q))(M_Chart:Mk K C fi)(F_Chart:FnOk P w K mg base CX0 1 fi fdi Bf (liftSp K (Lj C)))(B_Chart:Binds K fdi Bf []):FnOk P w K mg base CX0 4 f fd Bc (liftSp K (Jf C T0 q)):=by
 refine okD F sc_chart_behind (fun ds G Q E h=>?_) (fun cdv A outer s H XE ds G Q E hr h=>?_)
 ·obtain⟨_,_,_,_,rfl,_⟩:=h;rfl
 ·obtain⟨d,p,h,dy,rfl,hp,hT,k⟩:=h;refine⟨_,#["d",#["i",4,sc_chart_behind.nd,#["aN",M_Chart,F_Chart,hr,T.Chart,B_Chart,#["b",#["a",0]]]],#["d",#["at",#["f",Aie,hr,#["c",#["a",1],#["b",#["a",2]]]]],#["e",#["g",#["a",4]]]]],?_⟩;simp![Lj,spOrder];intro x hx G' a ca ga kp;have ga:G a=none:=by
   by_cases z:a=x
   ·rw[z];exact hx
   ·rw[Ad z] at ga;exact ga
  have k1:Sub G G':=fun b o h=>kp b o (fun z=>by subst z;rw[hx] at h;cases h) (Ah h hx)
  refine⟨k1 _ _ hp,k1 _ _ hT,fun l hl=>?_⟩;have e1:Am (Ab G' l (.lst [])) (.ref l)=some []:=by simp only[Am,Aa]
  refine⟨[],e1,Ul e1 ?_⟩;simp![];exact⟨G',Sub.new hl,k x a G' k1 hx ga ca⟩
abbrev s_chart_of:Stmt:=top 83
abbrev Qv:List Str:=["sea", "notices", "held", "day"]
abbrev p_chart_of:List Str:=["sea", "notices", "held", "day"]
theorem Og:FnScope Qv p_chart_of (defScope s_chart_of):=⟨rfl,rfl,rfl,by decide +kernel,rfl,by decide +kernel,by decide +kernel⟩
def spChartX(C CS T0:Addr)(q:Str):DSp:=fun ds G Q E=>∃d p,ds=[d,.ref p,.int 0,.int 0]∧KnT G 2 d∧SzT d∧G p=some (.lst [])∧G T0=some (.tbl q)∧(Ch d=false→E (.ref CS) G)∧(Ch d=true→∀x a G',Sub G G'→G x=none→G a=none→Fj C G' x d a→Q (.ref x) G')
theorem Qa{f CS:Addr}{fd:FuncData}{q:Str}(F:Fun K "chart_of" "chart_of" s_chart_of f fd)(T:Sy K mg C)(Aif:Def P w K mg base (CX1 P w) 7 "check_notices" p_check_notices (spNoneCX CS))(Aig:Def P w K mg base CX0 2 "check_held" p_check_held (spChk 0 99))(Aih:Def P w K mg base CX0 3 "check_day" p_check_day (spChk 0 400))(Aii:Def P w K mg base CX0 4 "chart_behind" Bc (Jf C T0 q)):FnOk P w K mg base (CX1 P w) 9 f fd p_chart_of (liftSp K (spChartX C CS T0 q)):=by
 refine okX F Og (fun ds G Q E h=>?_) (fun cdv A outer s H XE ds G Q E hr h hE=>?_)
 ·obtain⟨_,_,rfl,_⟩:=h;rfl
 ·obtain⟨d,p,rfl,kn,hz,hp,hT,k0,k⟩:=h;refine⟨_,#["d",#["u",#["L",(Fx E),Aif,hr,(passX hE),#["c",#["a",0],#["b",#["a",1]]]]],#["d",#["u",#["f",Aig,hr,#["b",#["a",2]]]],#["d",#["u",#["f",Aih,hr,#["b",#["a",3]]]],#["e",#["g",#["f",Aii,hr,#["c",#["a",0],#["c",#["a",1],#["c",#["a",2],#["b",#["a",3]]]]]]]]]]],?_⟩;simp![spChk];exact⟨d,p,rfl,kn,hz,hp,fun hb=>⟨d,p,0,.int 0,rfl,hp,hT,fun x a G' e1 e2 e3 e4=>Fq.of (k hb x a G' e1 e2 e3 e4)⟩,fun hb=>Fx.of (k0 hb)⟩
end
section
variable{P:Program}{w:World}{K:W.Frag}{mg:Str→Option Value}{base:Heap}{C:Addr}
abbrev s_places_of:Stmt:=top 84
abbrev O0:List Str:=["chart"]
abbrev Bt:List Str:=["chart"]
theorem Ml:FnScope O0 Bt (defScope s_places_of):=⟨rfl,rfl,rfl,by decide +kernel,rfl,by decide +kernel,by decide +kernel⟩
def Je(C:Addr):DSp:=fun ds G Q _=>∃x d a,ds=[.ref x]∧Fj C G x d a∧∀l,Dd G a l=none→Q (.ref l) (Ab (Dd G a) l (.lst []))
theorem Sx{f:Addr}{fd:FuncData}(F:Fun K "places_of" "places_of" s_places_of f fd)(T:Sy K mg C):FnOk P w K mg base CX0 1 f fd Bt (liftSp K (Je C)):=by
 refine okD F Ml (fun ds G Q E h=>?_) (fun cdv A outer s H XE ds G Q E hr h=>?_)
 ·obtain⟨_,_,_,rfl,_⟩:=h;rfl
 ·obtain⟨x,d,a,rfl,⟨b,c,hx,ha,hb,hc⟩,k⟩:=h;refine⟨_,#["e",#["g",#["aO",T,#["b",#["aP",["mark", "cell", "look", "sinker"],["chart"],#["au",T.cls,T.na_placed,#["a",0]]]]]]],?_⟩;simp![hx];refine⟨_,rfl,.ref a,by first|rfl|decide|simp[List.lookup],a,rfl,ha,fun p hp=>⟨[],rfl,by decide,fun l ms hl pm _=>?_⟩⟩
  obtain rfl:=pm.eq_nil;have hp':Dd G a p=none:=by unfold Dd;split<;>first|rfl|exact hp
  have hl':Dd G a l=none:=by
   by_cases z:l=p
   ·rw[z];exact hp'
   ·rw[Ad z] at hl;exact hl
  exact⟨_,Ia (Sub.new hp'),k l hl'⟩
abbrev s_marks_against:Stmt:=top 90
abbrev Hu:List Str:=["places", "cell", "column", "row", "against", "mark", "mark_column", "mark_row", "shape", "colour", "lit"]
abbrev A5:List Str:=["places", "cell"]
theorem sc_marks_against:FnScope Hu A5 (defScope s_marks_against):=⟨rfl,rfl,rfl,by decide +kernel,rfl,by decide +kernel,by decide +kernel⟩
def Gd:DSp:=fun ds G Q _=>∃p c r,ds=[.ref p,.tup [c,r]]∧G p=some (.lst [])∧Q (.tup []) G
theorem Qb{f:Addr}{fd:FuncData}(F:Fun K "marks_against" "marks_against" s_marks_against f fd)(T:Sy K mg C):FnOk P w K mg base CX0 2 f fd A5 (liftSp K Gd):=by
 refine okD F sc_marks_against (fun ds G Q E h=>?_) (fun cdv A outer s H XE ds G Q E hr h=>?_)
 ·obtain⟨_,_,_,rfl,_⟩:=h;rfl
 ·obtain⟨p,c,r,rfl,hp,k⟩:=h;refine⟨_,#["d",#["J",#["a",1],#["v",2,#["n",#["k",2,sc_marks_against.nd],#["w",#["k",3,sc_marks_against.nd]]]]],#["d",#["S",4,sc_marks_against.nd],#["d",#["at",#["a",0]],#["e",#["g",#["N",T,#["b",#["a",4]]]]]]]],?_⟩;simp![];refine⟨Nat.zero_le _,fun p1 hp1=>?_⟩;have e1:Am (Ab G p1 (.lst [])) (.ref p)=some []:=by simp only[Am,Ah hp hp1]
  refine⟨[],e1,Ul e1 ?_⟩;simp![];exact⟨[],by simp only[Am,Aa],G,Sub.new hp1,k⟩
theorem Aec{n:Nat}{p:Addr}{same:Gp→Prop}{g:DTG}{tf:DTT}{te:DTE}{σ:DSt}{G:Gp}{Q:DK}(s:same (Ab G p (.lst [])))(h:Q (.ref p) (Ab G p (.lst []))):He n p [] same g tf te σ (Ab G p (.lst [])) Q:=
 ⟨fun i ys G'=>ys=[]∧G'=Ab G p (.lst []),⟨rfl,rfl⟩,fun i ys G' _ e=>⟨by rw[e.2];exact s,by rw[e.1,e.2];exact Aa⟩,fun i x ys G' e=>by simp at e,fun ys G' e=>by rw[e.2];exact h⟩
abbrev s_places_shown:Stmt:=top 85
abbrev Jy:List Str:=["chart", "night"]
abbrev p_places_shown:List Str:=["chart", "night"]
theorem Hm:FnScope Jy p_places_shown (defScope s_places_shown):=⟨rfl,rfl,rfl,by decide +kernel,rfl,by decide +kernel,by decide +kernel⟩
theorem nd_places_shown_1:((["mark", "cell", "look"]:List Str)++(["chart", "night"]:List Str)).Nodup:=by decide +kernel
def spShown(C:Addr):DSp:=fun ds G Q _=>∃x d a,ds=[.ref x,.bl false]∧Fj C G x d a∧∀l,Dd G a l=none→Q (.ref l) (Ab (Dd G a) l (.lst []))
theorem Ws{f:Addr}{fd:FuncData}(F:Fun K "places_shown" "places_shown" s_places_shown f fd)(T:Sy K mg C)(Aij:Def P w K mg base CX0 1 "places_of" Bt (Je C)):FnOk P w K mg base CX0 2 f fd p_places_shown (liftSp K (spShown C)):=by
 refine okD F Hm (fun ds G Q E h=>?_) (fun cdv A outer s H XE ds G Q E hr h=>?_)
 ·obtain⟨_,_,_,rfl,_⟩:=h;rfl
 ·obtain⟨x,d,a,rfl,ca,k⟩:=h;refine⟨_,#["e",#["g",#["aQ",["mark", "cell", "look"],["chart", "night"],#["f",Aij,hr,#["b",#["a",0]]],#["v",3,#["n",#["l",0,nd_places_shown_1],#["n",#["l",1,nd_places_shown_1],#["w",#["l",2,nd_places_shown_1]]]]],#["8",#["t",#["B",#["h",#["p",#["a",2]]],#["C",#["j",#["h",#["m",4]]]]]]],#["G",#["c",#["a",0],#["c",#["a",1],#["b",#["a",2]]]]]]]],?_⟩;simp![];refine⟨x,d,a,rfl,ca,fun l hl=>⟨[],by simp only[Am,Aa],fun p hp=>Aec (by simp only[Am,Ah Aa hp]) ?_⟩⟩
  have hp':Dd G a p=none:=by
   by_cases z:p=l
   ·rw[z];exact hl
   ·rw[Ad z] at hp;exact hp
  exact⟨_,Ia (Sub.new hl),k p hp'⟩
def Cn(s:List (List Int))(d:Int)(c:Nat):List Int:=((List.range (s.getD c []).length).filter fun r=>!decide (Bx s c r<d)).map fun(r:Nat)=>(r:Int)
abbrev s_free_rows:Stmt:=top 91
abbrev O2:List Str:=["sea", "places", "draught", "column", "told", "row", "cell"]
abbrev Bv:List Str:=["sea", "places", "draught", "column"]
theorem sc_free_rows:FnScope O2 Bv (defScope s_free_rows):=⟨rfl,rfl,rfl,by decide +kernel,rfl,by decide +kernel,by decide +kernel⟩
def Pg:DSp:=fun ds G Q _=>∃s l d c,ds=[seaD s,.ref l,.int d,.int (c:Nat)]∧c<s.length∧(s.getD c []).length≤9∧G l=some (.lst [])∧Q (Ai (Cn s d c)) G
theorem Zh{f:Addr}{fd:FuncData}(F:Fun K "free_rows" "free_rows" s_free_rows f fd)(T:Sy K mg C)(Aik:Def P w K mg base CX0 2 "is_shoal" p_is_shoal spShoal)(Ail:Def P w K mg base CX0 2 "marks_against" A5 Gd):FnOk P w K mg base CX0 3 f fd Bv (liftSp K Pg):=by
 refine okD F sc_free_rows (fun ds G Q E h=>?_) (fun cdv A outer s H XE ds G Q E hr h=>?_)
 ·obtain⟨_,_,_,_,rfl,_⟩:=h;rfl
 ·obtain⟨s,l,d,c,rfl,hc,h9,hl,k⟩:=h;refine⟨_,#["d",#["S",4,sc_free_rows.nd],#["d",#["9",T,#["b",#["q",T,#["b",#["E",#["a",0],#["a",3]]]]],#["k",5,sc_free_rows.nd],#["d",#["i",6,sc_free_rows.nd,#["G",#["c",#["a",3],#["b",#["a",5]]]]],#["e",#["H",#["t",#["5",#["j",#["h",#["f",Aik,hr,#["c",#["a",0],#["c",#["a",6],#["b",#["a",2]]]]]]],#["6",#["j",#["h",#["f",Ail,hr,#["c",#["a",1],#["b",#["a",6]]]]]]]]],#["e",#["u",#["M",#["a",4],#["a",5]]]]]]]],#["e",#["g",#["N",T,#["b",#["a",4]]]]]]],?_⟩;have e0:Dv G (seaD s) (c:Nat)=some (Ai (s.getD c [])):=by
   show atI (s.map Ai) (c:Int)=_;exact C1 (by simp[hc])
  simp![];refine⟨Nat.zero_le _,fun p hp=>⟨_,e0,(s.getD c []).length,by simp only[Ai,Hl,List.length_map],by omega,by omega,?_⟩⟩
  have npl:l≠p:=fun z=>by subst z;rw[hl] at hp;cases hp
  refine Bn (fun i σ G'=>∃v1 v2,σ=[some (seaD s),some (.ref l),some (.int d),some (.int c),some (.ref p),v1,v2]∧G'=Ab G p (.lst (((List.range i).filter fun r=>!decide (Bx s c r<d)).map fun(r:Nat)=>D.int (r:Int)))) ⟨none,none,rfl,rfl⟩ ?_ ?_
  ·rintro i σ G' hi ⟨v1,v2,rfl,rfl⟩;have hi:i<(s.getD c []).length:=by simpa using hi
   have hz:((List.range i).filter fun r=>!decide (Bx s c r<d)).length≤i:=by
    have:=List.length_filter_le (fun r=>!decide (Bx s c r<d)) (List.range i)
    rwa [List.length_range] at this
   simp![spShoal];refine⟨szl (by decide),s,rfl,c,rfl,i,rfl,hc,hi,decide (Bx s c i<d),rfl,?_⟩
   have next:∀b:Bool,(!decide (Bx s c i<d))=b→((List.range (i+1)).filter fun r=>!decide (Bx s c r<d)).map (fun(r:Nat)=>D.int (r:Int))=((List.range i).filter fun r=>!decide (Bx s c r<d)).map (fun(r:Nat)=>D.int (r:Int))++(if b=true then [D.int (i:Int)] else []):=fun b hb=>by
    rw[List.range_succ,List.filter_append,List.map_append];congr 1;cases b<;>simp[hb]
   by_cases hd:Bx s c i<d
   ·refine it1 (by simp[hd]) (Fs.of ⟨_,_,rfl,?_⟩)
    rw[next false (by simp[hd])];simp
   ·refine it0 (by simp[hd]) ⟨l,_,_,rfl,by rw[Ad npl];exact hl,false,rfl,it0 (by decide) ⟨⟨_,Aa⟩,_,Aa,?_,?_⟩⟩
    ·rw[List.length_map,sizeLine_eq];omega
    ·rw[B4];refine Fs.of ⟨_,_,rfl,?_⟩;rw[next true (by simp[hd])];rfl
  ·rintro σ G' ⟨v1,v2,rfl,rfl⟩;simp![];refine⟨((List.range (s.getD c []).length).filter fun r=>!decide (Bx s c r<d)).map fun(r:Nat)=>D.int (r:Int),by simp only[Am,Aa,Int.toNat_natCast],G,Sub.new hp,?_⟩
   have k2:Q (.tup ((Cn s d c).map D.int)) G:=k;rw[Cn,List.map_map] at k2;exact k2
end
section
variable{P:Program}{w:World}{K:W.Frag}{mg:Str→Option Value}{base:Heap}{C T0:Addr}
def Au(s:List (List Int))(d:Int):List (List Int):=(List.range s.length).map (Cn s d)
def chD(cs:List (List Int)):D:=.tup (cs.map Ai)
theorem Ads{G G':Gp}{d:D}(s:Sub G G')(h:Kn G d):Kn G' d:=by
 obtain⟨t,ht⟩:=h;refine⟨t,?_⟩;cases d with
 |ref a=>
  simp only[A9] at ht ⊢;cases e:G a with
  |none=>rw[e] at ht;cases ht
  |some o=>rw[s _ _ e];rw[e] at ht;exact ht
 |_=>exact ht
abbrev s_channel_of:Stmt:=top 92
abbrev M1:List Str:=["sea", "notices", "held", "day", "draught", "night", "chart", "places"]
abbrev p_channel_of:List Str:=["sea", "notices", "held", "day", "draught", "night"]
theorem sc_channel_of:FnScope M1 p_channel_of (defScope s_channel_of):=⟨rfl,rfl,rfl,by decide +kernel,rfl,by decide +kernel,by decide +kernel⟩
theorem nd_channel_of_1:((["column"]:List Str)++(["sea", "notices", "held", "day", "draught", "night", "chart", "places"]:List Str)).Nodup:=by decide +kernel
def spChannelX(CS CD T0:Addr)(q:Str):DSp:=fun ds G Q E=>∃a p d,ds=[a,.ref p,.int 0,.int 0,d,.bl false]∧KnT G 2 a∧SzT a∧Kn G d∧G p=some (.lst [])∧G T0=some (.tbl q)∧(Ch a=false→E (.ref CS) G)∧(Ch a=true→Ag 1 9 d=false→E (.ref CD) G)∧∀s h i,a=seaD s→SeaOk s h→d=.int i→1≤i→i≤9→Q (chD (Au s i)) G
theorem Mq{f CS CD:Addr}{fd:FuncData}{q:Str}(F:Fun K "channel_of" "channel_of" s_channel_of f fd)(T:Sy K mg C)(Aim:Def P w K mg base (CX1 P w) 9 "chart_of" p_chart_of (spChartX C CS T0 q))(Ain:Def P w K mg base (CX1 P w) 3 "check_draught" p_check_draught (spCheckN CD 1 9))(Aio:Def P w K mg base CX0 2 "places_shown" p_places_shown (spShown C))(Aip:Def P w K mg base CX0 3 "free_rows" Bv Pg):FnOk P w K mg base (CX1 P w) 10 f fd p_channel_of (liftSp K (spChannelX CS CD T0 q)):=by
 refine okX F sc_channel_of (fun ds G Q E h=>?_) (fun cdv A outer s H XE ds G Q E hr h hE=>?_)
 ·obtain⟨_,_,_,rfl,_⟩:=h;rfl
 ·obtain⟨sd,p,dd,rfl,kn,hz,kd,hp,hT,k0,k1,k⟩:=h;refine⟨_,#["d",#["0",6,sc_channel_of.nd,#["L",(Fx E),Aim,hr,(passX hE),#["c",#["a",0],#["c",#["a",1],#["c",#["a",2],#["b",#["a",3]]]]]]],#["d",#["u",#["L",(Fx E),Ain,hr,(passX hE),#["b",#["m",4]]]],#["d",#["0",7,sc_channel_of.nd,#["f",Aio,hr,#["c",#["m",6],#["b",#["a",5]]]]],#["e",#["g",#["N",T,#["b",#["aR",["column"],["sea", "notices", "held", "day", "draught", "night", "chart", "places"],T,#["b",#["q",T,#["b",#["a",0]]]],#["l",0,nd_channel_of_1],#["f",Aip,hr,#["c",#["au",T.cls,T.na_sea,#["m",7]],#["c",#["m",8],#["c",#["m",5],#["b",#["a",0]]]]]]]]]]]]]],?_⟩;simp![];refine⟨sd,p,rfl,kn,hz,hp,hT,fun hb=>Fx.of (k0 hb),fun hb x a G' sb gx ga ca=>?_⟩;refine⟨dd,rfl,Ads sb kd,fun hd=>?_,fun hd=>?_⟩
  rotate_left
  ·exact⟨G,sb,k1 hb hd⟩
  obtain⟨s,h,rfl,ok⟩:=Aby hb;obtain⟨d,rfl,d1,d9⟩:∃d,dd=.int d∧1≤d∧d≤9:=by
   cases dd with
   |int i=>exact⟨i,rfl,by simpa[Ag] using hd⟩
   |_=>cases hd
  have k:=k s h d rfl ok rfl d1 d9;have ca0:=ca;obtain⟨b,c,hx,ha,_,_⟩:=ca;have nxa:x≠a:=fun z=>by rw[z,ha] at hx;cases hx
  refine⟨x,seaD s,a,rfl,ca0,fun l hl=>⟨s.length,by simp[Hl,seaD],by omega,by have:=ok.wide;omega,fun p1 hp1=>?_⟩⟩
  have hx1:Dd G' a x=some (.ins C [("sea",seaD s),("placed",.ref a),("adrift",.ref b),("undone",.ref c)]):=by unfold Dd;rw[if_neg nxa];exact hx
  have hx2:=Ah (u:=.lst []) hx1 hl;have hl2:Ab (Dd G' a) l (.lst []) l=some (.lst []):=Aa;have sb2:Sub G (Ab (Dd G' a) l (.lst [])):=fun y o e=>Ah (by unfold Dd;rw[if_neg (fun z=>by rw[z,ga] at e;cases e)];exact sb y o e) hl
  generalize Ab (Dd G' a) l (.lst [])=G1 at *;have hz:(D3.J3 ((s.length:Int)).toNat).length<sizeLine:=by rw[B5,sizeLine_eq];have:=ok.wide;omega
  refine A8 (fun y=>Ai (Cn s d (Ax y).toNat)) (fun _=>true) hz (fun _=>trivial) (by decide) (fun y ys hy hlen R1 R2 g1 _=>?_) ?_
  ·obtain⟨i,hi,rfl⟩:∃i:Nat,i<s.length∧y=.int i:=by
    unfold D3.J3 at hy;obtain⟨i,hi,rfl⟩:=List.mem_map.mp hy;exact⟨i,by simpa using hi,rfl⟩
   have hx3:=Ah (u:=.lst ys) hx2 hp1;have hl3:=Ah (u:=.lst ys) hl2 hp1;simp![hlen,hx3];have h9:(s.getD i []).length≤9:=by
    have hm:s.getD i []∈s:=by rw[List.getD_eq_getElem?_getD,List.getElem?_eq_getElem hi];exact List.getElem_mem hi
    have h1:=(ok.col _ hm).1;have h2:=ok.high;omega
   refine⟨_,rfl,seaD s,by first|rfl|decide|simp[List.lookup],s,l,d,i,rfl,hi,h9,hl3,Aa,?_⟩
   rw[B4];exact Fg.of (g1 rfl)
  ·refine⟨(Au s d).map Ai,?_,G,sb2.trans (Sub.new hp1),k⟩;simp only[Am,Aa,Bb];unfold D3.J3 Au;rw[List.map_map,List.map_map];simp[Function.comp_def,Ax]
end
section
variable{P:Program}{w:World}{K:W.Frag}{mg:Str→Option Value}{base:Heap}
def Ui(r i:Int):Bool:=decide ((if i-r<0 then -(i-r) else i-r)≤1)
structure WayOk(cs:List (List Int))(ws:List Int):Prop where
 chan:M7 (chD cs)=true
 len:ws.length=cs.length
 small:cs.length≤16∧∀c∈cs,c.length≤9
 row:∀(i:Nat) r c,ws[i]? = some r→cs[i]? = some c→(0≤r∧r≤8)∧r∈c
 step:∀(i:Nat) r t,ws[i]? = some r→ws[i+1]? = some t→t-r≤1∧r-t≤1
theorem kn_ch{G:Gp}{cs:List (List Int)}:KnT G 2 (chD cs):=⟨⟨_,rfl⟩,fun ds e x hx=>by
 cases e;obtain⟨c,_,rfl⟩:=List.mem_map.mp hx;refine⟨⟨_,rfl⟩,fun ds e y hy=>?_⟩;cases e;obtain⟨i,_,rfl⟩:=List.mem_map.mp hy;exact⟨_,rfl⟩⟩
theorem Ld:∀{xs ys:List D} {z:D},z∈A6 [xs,ys]→∃(i:Nat) (u v:D),xs[i]? = some u∧ys[i]? = some v∧z=.tup [u,v]
 |[],ys,z,h=>by obtain⟨u,v,_,hu,_⟩:=Bz h;cases hu
 |x::xs,[],z,h=>by obtain⟨u,v,_,_,hv⟩:=Bz h;cases hv
 |x::xs,y::ys,z,h=>by
  rw[Na] at h;rcases List.mem_cons.mp h with rfl|h
  ·exact⟨0,x,y,rfl,rfl,rfl⟩
  ·obtain⟨i,u,v,h1,h2,h3⟩:=Ld h;exact⟨i+1,u,v,h1,h2,h3⟩
def inB:D→Bool
 |.tup [u,.tup vs]=>Ag 0 8 u&&decide (Ax u∈vs.map Ax)
 |_=>false
def Ir:D→Bool
 |.tup [u,v]=>Ui (Ax u) (Ax v)
 |_=>false
def Eo(cs:List (List Int)):D→Bool
 |.tup ys=>decide (ys.length=cs.length)&&((A6 [ys,cs.map Ai]).all inB&&(A6 [ys,ys.drop 1]).all Ir)
 |_=>false
theorem Ng{G:Gp}:∀{ns:List Int},RepDs G (ns.map D.int) (ns.map PyData.int)
 |[]=>.nil
 |n::r=>.cons (.int n) Ng
theorem Nv:∀ns:List Int,PyData.canLayAll0 (ns.map PyData.int)=true
 |[]=>rfl
 |n::r=>by rw[List.map_cons,PyData.canLayAll0,Nv r];rfl
theorem N6:∀ns:List Int,PyData.depthAll (ns.map PyData.int)=0
 |[]=>rfl
 |n::r=>by rw[List.map_cons,PyData.depthAll,N6 r];rfl
theorem N9(i:Int):∀ns:List Int,((ns.map PyData.int).any fun y=>PyData.eqv y (.int i))=decide (i∈ns)
 |[]=>by simp
 |n::r=>by
  rw[List.map_cons,List.any_cons,N9 i r];show((n == i)||decide (i∈r))=_
  by_cases h:n=i
  ·subst h;simp
  ·have h':¬i=n:=fun e=>h e.symm;simp[h,h']
theorem Pq{G:Gp}{i:Int}{ns:List Int}{neg:Bool}{Q:DK}(h:Q (.bl (if neg then !decide (i∈ns) else decide (i∈ns))) G):dInD neg (.int i) (.tup (ns.map D.int)) G Q:=
 ⟨.int i,ns.map PyData.int,.int i,.inr (.tup Ng),rfl,Nv ns,by rw[N6];exact Nat.le_trans (show 1+min 0 _≤1 by omega) (by decide),by rw[N9];exact h⟩
theorem Gj(c:List Int):(c.map D.int).map Ax=c:=by rw[List.map_map];exact List.map_id c
abbrev s_is_way:Stmt:=top 99
abbrev Xv:List Str:=["channel", "thing"]
abbrev p_is_way:List Str:=["channel", "thing"]
theorem Sd:FnScope Xv p_is_way (defScope s_is_way):=⟨rfl,rfl,rfl,by decide +kernel,rfl,by decide +kernel,by decide +kernel⟩
theorem nd_is_way_1:((["row", "rows"]:List Str)++(["channel", "thing"]:List Str)).Nodup:=by decide +kernel
theorem nd_is_way_2:((["ahead", "row"]:List Str)++(["channel", "thing"]:List Str)).Nodup:=by decide +kernel
def spWayA:DSp:=fun ds G Q _=>∃cs d,ds=[chD cs,d]∧M7 (chD cs)=true∧(cs.length≤16∧∀c∈cs,c.length≤9)∧KnT G 1 d∧(∀xs,d=.tup xs→xs.length<sizeLine)∧Q (.bl (Eo cs d)) G
theorem Adc{f:Addr}{fd:FuncData}(F:Fun K "is_way" "is_way" s_is_way f fd)(T:Nums mg)(Aiq:Def P w K mg base CX0 5 "check_channel" p_check_channel spCheckC)(Air:Def P w K mg base CX0 2 "is_row" C8 Qx):FnOk P w K mg base CX0 6 f fd p_is_way (liftSp K spWayA):=by
 refine okD F Sd (fun ds G Q E h=>?_) (fun cdv A outer s H XE ds G Q E hr h=>?_)
 ·obtain⟨_,_,rfl,_⟩:=h;rfl
 ·obtain⟨cs,d,rfl,hcb,hsm,kd,sd,k⟩:=h;refine⟨_,#["d",#["u",#["f",Aiq,hr,#["b",#["a",0]]]],#["d",#["x",#["t",#["B",#["j",#["h",#["F",T,#["c",#["a",1],#["b",#["A","tuple",T]]]]]],#["C",#["av",#["q",T,#["b",#["a",1]]],#["q",T,#["b",#["a",0]]]]]]]],#["d",#["x",#["j",#["h",#["K",T,#["b",#["Y",["row", "rows"],["channel", "thing"],T,#["c",#["a",1],#["b",#["a",0]]],#["v",2,#["n",#["l",0,nd_is_way_1],#["w",#["l",1,nd_is_way_1]]]],#["ag",#["f",Air,hr,#["b",#["a",0]]],(@q_one _ _ _ _ _ (@q_cmp _ _ _ _ _ _ _ _ (@o_inD _ _ hr) #["a",0] #["a",1] (by with_unfolding_all rfl)))]]]]]]],#["e",#["g",#["K",T,#["b",#["Y",["ahead", "row"],["channel", "thing"],T,#["c",#["a",1],#["b",#["Z",#["a",1]]]],#["v",2,#["n",#["l",0,nd_is_way_2],#["w",#["l",1,nd_is_way_2]]]],#["al",(@o_le _),#["ao",T,#["b",#["Q",(@o_sub _),#["a",1],#["a",0]]]],#["V"]]]]]]]]]],?_⟩
  have sz:SzT (chD cs):=fun xs e=>by
   cases e;refine⟨by rw[List.length_map,sizeLine_eq];omega,fun y hy ys e=>?_⟩
   obtain⟨c,hc,rfl⟩:=List.mem_map.mp hy;cases e;rw[List.length_map,sizeLine_eq];have:=hsm.2 c hc;omega
  simp![spCheckC];refine⟨kn_ch,sz,hcb,?_⟩;obtain⟨t,ht⟩:=kd.kn;refine⟨t,ht,pyIs t "tuple",rfl,?_⟩
  by_cases htt:t = "tuple"
  ·subst htt;obtain⟨xs,rfl⟩:=Es ht;refine it1 (by decide) ?_
   have lch:Hl G (chD cs)=some cs.length:=by simp[chD,Hl]
   simp![lch];have k2:Q (.bl (decide (xs.length=cs.length)&&((A6 [xs,cs.map Ai]).all inB&&(A6 [xs,xs.drop 1]).all Ir))) G:=k
   by_cases hlen:xs.length=cs.length
   ·refine it1 (by simp[hlen]) ⟨[xs,cs.map Ai],rfl,fun p hp=>?_⟩
    rw[decide_eq_true hlen,Bool.true_and] at k2;have hs:=sd xs rfl;have h16:=hsm.1;have hzl:(A6 [xs,cs.map Ai]).length<sizeLine:=by
     rw[B3];refine Nat.lt_of_le_of_lt ?_ hs;simp only[Ci];omega
    refine D6 (fun z=>match z with|.tup [u,v]=>[some u,some v,some (chD cs),some (.tup xs)]|_=>[none,none,some (chD cs),some (.tup xs)]) (fun z=>.bl (inB z)) (fun _=>true) hzl (fun _=>rfl) (fun z hz=>?_) (fun z ys hzm hl R1 R2 g1 _=>?_) ?_
    ·obtain⟨u,v,rfl,_,_⟩:=Bz hz;refine⟨⟨[some u,some v],rfl,rfl⟩,fun G' R h=>?_⟩;simp![];exact h
    ·obtain⟨u,v,rfl,hu,hv⟩:=Bz hzm;obtain⟨c,hcm,rfl⟩:=List.mem_map.mp hv;have ku:Kn (Ab G p (.lst ys)) u:=Kn.new (kd.2 xs rfl u hu) hp;have eb:inB (.tup [u,Ai c])=(Ag 0 8 u&&decide (Ax u∈c)):=by
      show(Ag 0 8 u&&decide (Ax u∈(c.map D.int).map Ax))=_;rw[Gj]
     rw[eb] at g1;simp![Qx,hl,ku];cases hw:Ag 0 8 u with
     |false=>
      rw[hw] at g1;exact it1 (by decide) (Fg.of (g1 rfl))
     |true=>
      rw[hw] at g1;refine it0 rfl ?_;cases u with
      |int i=>
       refine Pq ⟨Aa,?_⟩;rw[B4];exact Fg.of (g1 rfl)
      |_=>cases hw
    ·refine⟨p,rfl,(A6 [xs,cs.map Ai]).map inB,by rw[Aa,Bb,List.map_map];rfl,_,rfl,?_⟩
     have ea:((A6 [xs,cs.map Ai]).map inB).all id=(A6 [xs,cs.map Ai]).all inB:=by simp[List.all_map]
     rw[ea];have sg:Sub G (Ab G p (.lst (((A6 [xs,cs.map Ai]).filter fun _=>true).map fun z=>.bl (inB z)))):=Sub.new hp;generalize Ab G p (.lst (((A6 [xs,cs.map Ai]).filter fun _=>true).map fun z=>.bl (inB z)))=G1 at *;cases hall:(A6 [xs,cs.map Ai]).all inB with
     |false=>
      rw[hall] at k2;exact it0 (by decide) ⟨G,sg,k2⟩
     |true=>
      rw[hall,Bool.true_and] at k2;have alln:∀x∈xs,∃i,x=.int i:=fun x hx=>by
       obtain⟨i,hi,e⟩:=List.getElem_of_mem hx;have hm:i<Ci [xs,cs.map Ai]:=by simp only[Ci,List.length_map];omega
       have z:=List.all_eq_true.mp hall (.tup (O6 [xs,cs.map Ai] i)) (List.mem_of_getElem? (Fk hm));have er:O6 [xs,cs.map Ai] i=[x,Ai (cs[i]'(by omega))]:=by
        simp[O6,List.getD,List.getElem?_eq_getElem hi,e,List.getElem?_eq_getElem (show i<cs.length by omega)]
       rw[er] at z;cases x with
       |int i=>exact⟨i,rfl⟩
       |_=>cases z
      rw[Lw];refine it1 (by decide) ⟨[xs,xs.drop 1],rfl,fun p2 hp2=>?_⟩
      have hz2:(A6 [xs,xs.drop 1]).length<sizeLine:=by
       rw[B3];refine Nat.lt_of_le_of_lt ?_ hs;simp only[Ci];omega
      refine D6 (fun z=>match z with|.tup [u,v]=>[some u,some v,some (chD cs),some (.tup xs)]|_=>[none,none,some (chD cs),some (.tup xs)]) (fun z=>.bl (Ir z)) (fun _=>true) hz2 (fun _=>rfl) (fun z hz=>?_) (fun z ys hzm hl R1 R2 g1 _=>?_) ?_
      ·obtain⟨u,v,rfl,_,_⟩:=Bz hz;refine⟨⟨[some u,some v],rfl,rfl⟩,fun G' R h=>?_⟩;simp![];exact h
      ·obtain⟨u,v,rfl,hu,hv⟩:=Bz hzm;obtain⟨i,rfl⟩:=alln u hu;obtain⟨j,rfl⟩:=alln v (List.mem_of_mem_drop hv);simp![hl];exact Fg.of (g1 rfl)
      ·refine⟨p2,rfl,(A6 [xs,xs.drop 1]).map Ir,by rw[Aa,Bb,List.map_map];rfl,?_⟩
       have e2:((A6 [xs,xs.drop 1]).map Ir).all id=(A6 [xs,xs.drop 1]).all Ir:=by simp[List.all_map]
       rw[e2];exact⟨G,sg.skip hp2,k2⟩
   ·refine it0 (by simp;omega) (Fq.of ?_)
    rw[decide_eq_false hlen] at k2;exact k2
  ·obtain⟨e,nt⟩:=Dh ht htt;rw[e];refine it0 (by decide) (Fq.of ?_)
   cases d with
   |tup xs=>exact absurd rfl (nt xs)
   |_=>exact k
def Cs(c:List Int)(t:Int):Nat→Int→Int
 |0,e=>e
 |n+1,e=>if e+t∈c then Cs c t n (e+t) else e
abbrev s_edge_of:Stmt:=top 102
abbrev T2:List Str:=["rows", "row", "step", "edge"]
abbrev Cp:List Str:=["rows", "row", "step"]
theorem sc_edge_of:FnScope T2 Cp (defScope s_edge_of):=⟨rfl,rfl,rfl,by decide +kernel,rfl,by decide +kernel,by decide +kernel⟩
def Ph:DSp:=fun ds G Q _=>∃(c:List Int) (r t:Int),ds=[Ai c,.int r,.int t]∧(t=1∨t = -1)∧(∀x∈c,0≤x∧x≤8)∧0≤r∧r≤8∧Q (.int (Cs c t 10 r)) G
theorem Zj{f:Addr}{fd:FuncData}(F:Fun K "edge_of" "edge_of" s_edge_of f fd)(T:Nums mg):FnOk P w K mg base CX0 1 f fd Cp (liftSp K Ph):=by
 refine okD F sc_edge_of (fun ds G Q E h=>?_) (fun cdv A outer s H XE ds G Q E hr h=>?_)
 ·obtain⟨_,_,_,rfl,_⟩:=h;rfl
 ·obtain⟨c,r,t,rfl,ht,hc,r0,r8,k⟩:=h;refine⟨_,#["d",#["i",3,sc_edge_of.nd,#["a",1]],#["d",(@qs_while _ _ _ _ _ _ PassesOwn.never (@qt_cmp _ _ _ _ _ _ _ _ (@o_inD _ _ hr) #["s",#["a",3],#["a",2]] #["a",0] (by with_unfolding_all rfl)) #["e",#["aS",3,sc_edge_of.nd,(@ia_add _),#["a",2]]]),#["e",#["g",#["a",3]]]]],?_⟩
  simp![U8];refine⟨fun m σ G'=>∃e,σ=[some (Ai c),some (.int r),some (.int t),some (.int e)]∧G'=G∧Cs c t 10 r=Cs c t m e∧0≤e∧e≤8∧(t=1→8-e<m)∧(t = -1→e<m),⟨10,r,rfl,rfl,rfl,r0,r8,fun _=>by omega,fun _=>by omega⟩,?_⟩
  rintro m σ G' ⟨e,rfl,rfl,he,e0,e8,h1,h2⟩;refine⟨.int e,rfl,.int t,rfl,?_⟩;show ∃d,_;refine⟨Ai c,rfl,Pq ⟨_,rfl,?_⟩⟩
  by_cases hm:e+t∈c
  ·refine it0 (by simp[hm]) ?_
   obtain⟨c0,c8⟩:=hc _ hm;cases m with
   |zero=>
    exfalso;rcases ht with z|z
    ·have:=h1 z;omega
    ·have:=h2 z;omega
   |succ m=>
    refine⟨fun σ' G2=>σ'=[some (Ai c),some (.int r),some (.int t),some (.int (e+t))]∧G2=G',?_,.int e,rfl,.int t,rfl,e,rfl,t,rfl,Fs.of ⟨rfl,rfl⟩⟩;rintro σ' G2 ⟨rfl,rfl⟩;refine⟨m,Nat.lt_succ_self m,e+t,rfl,rfl,?_,c0,c8,fun z=>?_,fun z=>?_⟩
    ·rw[he,Cs,if_pos hm]
    ·have:=h1 z;omega
    ·have:=h2 z;omega
  ·refine it1 (by simp[hm]) ⟨.int e,rfl,Fq.of ?_⟩
   have:Cs c t m e=e:=by
    cases m with
    |zero=>rfl
    |succ m=>rw[Cs,if_neg hm]
   rw[←this,←he];exact k
end
def freeC(col:List Int)(d:Int):List Int:=((List.range col.length).filter fun r=>!decide (col.getD r 0<d)).map fun(r:Nat)=>(r:Int)
theorem mem_freeC{col:List Int}{d x:Int}:x∈freeC col d↔0≤x∧x<col.length∧d≤col.getD x.toNat 0:=by
 unfold freeC;rw[List.mem_map];constructor
 ·rintro⟨r,hr,rfl⟩;obtain⟨h1,h2⟩:=List.mem_filter.mp hr;have h1:=List.mem_range.mp h1;have h2:d≤col.getD r 0:=by simpa using h2
  exact⟨by omega,by omega,by rw[Int.toNat_natCast];exact h2⟩
 ·rintro⟨h0,h1,h2⟩;obtain⟨r,rfl⟩:=Int.eq_ofNat_of_zero_le h0;rw[Int.toNat_natCast] at h2;exact⟨r,List.mem_filter.mpr ⟨List.mem_range.mpr (by omega),by simpa using h2⟩,rfl⟩
theorem Jv{col:List Int}{d:Int}:(freeC col d).Pairwise (· < ·):=by
 unfold freeC;refine List.Pairwise.map _ (R:=(· < ·)) (fun a b h=>?_) (List.Pairwise.filter _ List.pairwise_lt_range);omega
theorem K5{col:List Int}{d:Int}:(freeC col d).length≤col.length:=by
 unfold freeC;rw[List.length_map];exact Nat.le_trans (List.length_filter_le _ _) (by simp)
def Lb(m:Nat→Int)(cols:List Int):Nat→Int
 |0=>m 0
 |i+1=>if ((i+1:Nat):Int)∈cols then m (i+1) else Lb m cols i+1
def Vd(m e:Nat→Int)(cols:List Int)(n:Nat):Bool:=(List.range n).all fun i=>decide (Lb m cols (i+1)≤e (i+1))
def A3(m e:Nat→Int):Nat→Int×List Int
 |0=>(m 0,[])
 |i+1=>if (A3 m e i).1+1>e (i+1) then (m (i+1),(A3 m e i).2++[((i+1:Nat):Int)]) else ((A3 m e i).1+1,(A3 m e i).2)
theorem Fl{m e:Nat→Int}:∀{n:Nat},∀x∈(A3 m e n).2,1≤x∧x≤n
 |0,x,h=>by simp[A3] at h
 |n+1,x,h=>by
  rw[A3] at h
  split at h
  ·rcases List.mem_append.mp h with h|h
   ·have:=Fl (n:=n) x h;omega
   ·have:=List.mem_singleton.mp h;omega
  ·have:=Fl (n:=n) x h;omega
theorem Ev{m e:Nat→Int}:∀{n:Nat},(A3 m e n).2.Pairwise (· < ·)
 |0=>by simp[A3]
 |n+1=>by
  rw[A3]
  split
  ·refine List.pairwise_append.mpr ⟨Ev,by simp,fun a ha b hb=>?_⟩
   have:=Fl a ha
   have:=List.mem_singleton.mp hb
   omega
  ·exact Ev
theorem F9{m e:Nat→Int}:∀{n:Nat},(A3 m e n).2.length≤n
 |0=>by simp[A3]
 |n+1=>by
  have:=F9 (m:=m) (e:=e) (n:=n)
  rw[A3]
  split
  ·rw[List.length_append,List.length_singleton];omega
  ·show(A3 m e n).2.length≤_;omega
def ivl(lo:Int)(n:Nat):List Int:=(List.range n).map fun k:Nat=>lo+k
theorem mem_ivl{lo x:Int}{n:Nat}:x∈ivl lo n↔lo≤x∧x<lo+n:=by
 unfold ivl;rw[List.mem_map];constructor
 ·rintro⟨k,hk,rfl⟩
  have:=List.mem_range.mp hk
  omega
 ·rintro⟨h1,h2⟩;exact⟨(x-lo).toNat,List.mem_range.mpr (by omega),by omega⟩
theorem ivl_rise{lo:Int}{n:Nat}:(ivl lo n).Pairwise (· < ·):=by
 unfold ivl;refine List.Pairwise.map _ (R:=(· < ·)) (fun a b h=>?_) List.pairwise_lt_range;omega
theorem Zw{lo:Int}{n:Nat}:(ivl lo n).length=n:=by simp[ivl]
theorem Dj{s:List (List Int)}{d:Int}{c:Nat}:Cn s d c=freeC (s.getD c []) d:=rfl
theorem Jo:∀{c:List Int},c.Pairwise (· < ·)→B0 (c.map D.int)=true
 |[],_=>rfl
 |[x],_=>rfl
 |x::y::r,h=>by
  obtain⟨h1,h2⟩:=List.pairwise_cons.mp h;show(decide (x<y)&&B0 ((y::r).map D.int))=true;rw[Jo h2,decide_eq_true (h1 y (by simp))];rfl
theorem Rb{c:List Int}{lo hi:Int}(h:c.Pairwise (· < ·))(hb:∀x∈c,lo≤x∧x≤hi):Ep lo hi (Ai c)=true:=by
 show((c.map D.int).all (Ag lo hi)&&B0 (c.map D.int))=true;rw[Jo h,Bool.and_true,List.all_eq_true];intro x hx;obtain⟨i,hi,rfl⟩:=List.mem_map.mp hx;obtain⟨a,b⟩:=hb i hi;show(decide (lo≤i)&&decide (i≤_))=true;rw[decide_eq_true a,decide_eq_true b];rfl
theorem SeaOk.at{s:List (List Int)}{h:Nat}(ok:SeaOk s h){i:Nat}(hi:i<s.length):(s.getD i []).length=h∧∀x∈s.getD i [],0≤x∧x≤9:=by
 refine ok.col _ ?_;rw[List.getD_eq_getElem?_getD,List.getElem?_eq_getElem hi];exact List.getElem_mem hi
structure FairOk(s:List (List Int))(h:Nat)(d:Int)(ws:List Int):Prop where
 sea:SeaOk s h
 d1:1≤d
 d9:d≤9
 len:ws.length=s.length
 row:∀i:Nat,i<s.length→0≤ws.getD i 0∧ws.getD i 0<h∧d≤(s.getD i []).getD (ws.getD i 0).toNat 0
 step:∀i:Nat,i+1<s.length→ws.getD (i+1) 0-ws.getD i 0≤1∧ws.getD i 0-ws.getD (i+1) 0≤1
theorem D4{ws:List Int}{i:Nat}{r:Int}(h:ws[i]? = some r):ws.getD i 0=r:=by rw[List.getD_eq_getElem?_getD,h];rfl
theorem Fw{s:List (List Int)}{d:Int}{i:Nat}{c:List Int}(h:(Au s d)[i]? = some c):i<s.length∧c=Cn s d i:=by
 unfold Au at h;rw[List.getElem?_map] at h;obtain⟨j,hj,rfl⟩:=Option.map_eq_some_iff.mp h;obtain⟨h1,h2⟩:=List.getElem?_eq_some_iff.mp hj;simp at h1 h2;subst h2;exact⟨h1,rfl⟩
theorem Cv{s:List (List Int)}{d:Int}:(Au s d).length=s.length:=by simp[Au]
theorem FairOk.free{s:List (List Int)}{h:Nat}{d:Int}{ws:List Int}(ok:FairOk s h d ws){i:Nat}(hi:i<s.length):∀x∈Cn s d i,0≤x∧x≤8:=fun x hx=>by
 rw[Dj] at hx;obtain⟨h1,h2,_⟩:=mem_freeC.mp hx;rw[(ok.sea.at hi).1] at h2
 have:=ok.sea.high
 omega
theorem FairOk.way{s:List (List Int)}{h:Nat}{d:Int}{ws:List Int}(ok:FairOk s h d ws):WayOk (Au s d) ws:=by
 have hw:=ok.sea.wide;have hh:=ok.sea.high;have cm:∀c∈Au s d,∃i,i<s.length∧c=Cn s d i:=fun c hc=>by
  obtain⟨i,hi,e⟩:=List.getElem_of_mem hc;exact⟨i,Fw (List.getElem?_eq_some_iff.mpr ⟨hi,e⟩)⟩
 refine⟨?_,by rw[Cv];exact ok.len,⟨by rw[Cv];omega,fun c hc=>?_⟩,fun i r c hr hc=>?_,fun i r t hr ht=>?_⟩
 ·show(decide (2≤((Au s d).map Ai).length)&&decide (((Au s d).map Ai).length≤16)&&((Au s d).map Ai).all Ip)=true;rw[List.length_map,Cv,decide_eq_true hw.1,decide_eq_true hw.2,Bool.true_and,Bool.true_and,List.all_eq_true];intro x hx;obtain⟨c,hc,rfl⟩:=List.mem_map.mp hx;obtain⟨i,hi,rfl⟩:=cm c hc;exact Rb (by rw[Dj];exact Jv) (ok.free hi)
 ·obtain⟨i,hi,rfl⟩:=cm c hc;rw[Dj];refine Nat.le_trans K5 ?_;rw[(ok.sea.at hi).1];omega
 ·obtain⟨hi,rfl⟩:=Fw hc;have e:=D4 hr;obtain⟨a,b,g⟩:=ok.row i hi;rw[e] at a b g;have hl:=(ok.sea.at hi).1;refine⟨⟨a,by omega⟩,?_⟩
  rw[Dj];exact mem_freeC.mpr ⟨a,by rw[hl];exact b,g⟩
 ·have hi:i+1<s.length:=by
   have:=(List.getElem?_eq_some_iff.mp ht).1
   rw[ok.len] at this;exact this
  have:=ok.step i hi
  rw[D4 hr,D4 ht] at this;exact this
def A0(ws:List Int)(t:Int)(i:Nat):Int:=ws.getD i 0*t
def A4(s:List (List Int))(d:Int)(ws:List Int)(t:Int)(i:Nat):Int:=Cs (Cn s d i) t 10 (ws.getD i 0)*t
def Bj(s:List (List Int))(d:Int)(ws:List Int)(t:Int):List D:=(List.range s.length).map fun i=>.tup [.int (A0 ws t i),.int (A4 s d ws t i)]
theorem Fo{s:List (List Int)}{d:Int}{ws:List Int}{t:Int}:(Bj s d ws t).length=s.length:=by simp[Bj]
theorem Ff{s:List (List Int)}{d:Int}{ws:List Int}{t:Int}{i:Nat}(h:i<s.length):atI (Bj s d ws t) (i:Int)=some (.tup [.int (A0 ws t i),.int (A4 s d ws t i)]):=C1 (by simp[Bj,h])
theorem Kx{i0 n:Nat}{g:DTG}{tb:DTS}{D:DEnds}{σ:DSt}{G:Gp}(P:Nat→DSt→Gp→Prop)(h0:P 0 σ G)(hs:∀i σ G,i0+i<n→P i σ G→g (.int ((i0+i:Nat):Int)) σ G fun σ2 G2=>tb { D with nx:=Fs (P (i+1)),ct:=Fs (P (i+1)),bk:=D.nx } σ2 G2)(hd:∀σ G,P (n-i0) σ G→D.nx σ G):J4 (De (i0:Int) (n:Int)) (fun _=>True) g tb D σ G:=by
 have e:((n:Int)-(i0:Int)).toNat=n-i0:=by omega
 refine⟨P,h0,fun _ _ _ _ _=>trivial,fun i x σ G hx p=>?_,fun σ G p=>hd σ G (by rw[Bo,e] at p;exact p)⟩
 have hi:i<n-i0:=by
  have:=(List.getElem?_eq_some_iff.mp hx).1
  rw[Bo,e] at this;exact this
 rw[Ew (by rw[e];exact hi)] at hx
 cases hx;rw[show(i0:Int)+(i:Nat)=((i0+i:Nat):Int) by omega]
 exact hs i σ G (by omega) p

section
variable{P:Program}{w:World}{K:W.Frag}{mg:Str→Option Value}{base:Heap}
theorem near2{a b:Int}:Ui a b=true↔b-a≤1∧a-b≤1:=by
 unfold Ui;rw[decide_eq_true_eq];split<;>omega
theorem Abi{cs:List (List Int)}{ws:List Int}(h:WayOk cs ws):Eo cs (Ai ws)=true:=by
 show(decide ((ws.map D.int).length=cs.length)&&((A6 [ws.map D.int,cs.map Ai]).all inB&&(A6 [ws.map D.int,(ws.map D.int).drop 1]).all Ir))=true;simp only[Bool.and_eq_true,decide_eq_true_eq,List.all_eq_true];refine⟨by rw[List.length_map];exact h.len,fun z hz=>?_,fun z hz=>?_⟩
 ·obtain⟨i,u,v,e1,e2,rfl⟩:=Ld hz;rw[List.getElem?_map] at e1 e2;obtain⟨r,hr,rfl⟩:=Option.map_eq_some_iff.mp e1;obtain⟨c,hc,rfl⟩:=Option.map_eq_some_iff.mp e2;obtain⟨h1,h2⟩:=h.row i r c hr hc;show(Ag 0 8 (.int r)&&decide (r∈(c.map D.int).map Ax))=true;rw[Gj];simp[Ag,h1,h2]
 ·obtain⟨i,u,v,e1,e2,rfl⟩:=Ld hz;rw[List.getElem?_drop,List.getElem?_map] at e2;rw[List.getElem?_map] at e1;obtain⟨r,hr,rfl⟩:=Option.map_eq_some_iff.mp e1;obtain⟨t,ht,rfl⟩:=Option.map_eq_some_iff.mp e2;exact near2.mpr (h.step i r t hr (by rw[Nat.add_comm] at ht;exact ht))
end
section
variable{P:Program}{w:World}{K:W.Frag}{mg:Str→Option Value}{base:Heap}{C T0 aS:Addr}
abbrev Iy:List (Key×D):=[(.inr "upper",.int (-1)),(.inr "lower",.int 1)]
structure Sz(P:Program)(w:World)(K:W.Frag)(mg:Str→Option Value)(C aS:Addr):Prop extends Sy K mg C where
 STEPS_OUT:mg "STEPS_OUT" = some (.ref aS)
 K_STEPS_OUT:KD P w K aS Iy
def Al:Bool→Str×Int
 |true=>("upper",-1)
 |false=>("lower",1)
theorem Ru{c:List Int}{t:Int}(hc:∀x∈c,0≤x∧x≤8):∀{n:Nat} {r:Int},0≤r→r≤8→0≤Cs c t n r∧Cs c t n r≤8
 |0,r,h0,h8=>⟨h0,h8⟩
 |n+1,r,h0,h8=>by
  rw[Cs]
  split
  ·rename_i h;exact Ru hc (hc _ h).1 (hc _ h).2
  ·exact⟨h0,h8⟩
def Q0(t:Int):D→D
 |.tup [u,.tup c]=>.tup [.int (Ax u*t),.int (Cs (c.map Ax) t 10 (Ax u)*t)]
 |_=>.non
theorem Rr{c:List Int}:(c.map D.int).map Ax=c:=by rw[List.map_map];exact List.map_id c
theorem W7{s:List (List Int)}{d t:Int}{ws:List Int}(h:ws.length=s.length):(A6 [ws.map D.int,(Au s d).map Ai]).map (Q0 t)=Bj s d ws t:=by
 have e:Ci [ws.map D.int,(Au s d).map Ai]=s.length:=by simp only[Ci,List.length_map,Cv];omega
 unfold A6 Bj;rw[List.map_map,e];refine List.map_congr_left fun i hi=>?_;have hi:=List.mem_range.mp hi;have e1:(ws.map D.int).getD i .non=.int (ws.getD i 0):=by simp[List.getD_eq_getElem?_getD,show i<ws.length by omega]
 have e2:((Au s d).map Ai).getD i .non=Ai (Cn s d i):=by simp[List.getD_eq_getElem?_getD,Au,hi]
 show Q0 t (.tup [(ws.map D.int).getD i .non,((Au s d).map Ai).getD i .non])=_;rw[e1,e2];show D.tup [_,.int (Cs ((List.map D.int (Cn s d i)).map Ax) t 10 (ws.getD i 0)*t)]=_;rw[Rr];rfl
abbrev s_lane_of:Stmt:=top 103
abbrev Tz:List Str:=["sea", "draught", "fairway", "side", "channel", "step"]
abbrev p_lane_of:List Str:=["sea", "draught", "fairway", "side"]
theorem sc_lane_of:FnScope Tz p_lane_of (defScope s_lane_of):=⟨rfl,rfl,rfl,by decide +kernel,rfl,by decide +kernel,by decide +kernel⟩
theorem nd_lane_of_1:((["row", "rows"]:List Str)++(["sea", "draught", "fairway", "side", "channel", "step"]:List Str)).Nodup:=by decide +kernel
theorem Kn.sub{G G':Gp}{d:D}(h:Kn G d)(s:Sub G G'):Kn G' d:=by
 obtain⟨t,h⟩:=h;refine⟨t,?_⟩;cases d<;>first|exact h|skip
 rename_i a;simp only[A9] at h ⊢;cases e:G a with
 |none=>rw[e] at h;cases h
 |some o=>rw[e] at h;rw[s a o e];exact h
theorem KnT.sub{G G':Gp}(s:Sub G G'):∀{n:Nat} {d:D},KnT G n d→KnT G' n d
 |0,_,h=>Kn.sub h s
 |_+1,_,h=>⟨Kn.sub h.1 s,fun ds e x hx=>KnT.sub s (h.2 ds e x hx)⟩
theorem chanS{s:List (List Int)}{h:Nat}{d:Int}(ok:SeaOk s h):M7 (chD (Au s d))=true∧(Au s d).length≤16∧∀c∈Au s d,c.length≤9:=by
 have hw:=ok.wide;have hh:=ok.high;have cm:∀c∈Au s d,∃i,i<s.length∧c=Cn s d i:=fun c hc=>by
  obtain⟨i,hi,e⟩:=List.getElem_of_mem hc;exact⟨i,Fw (List.getElem?_eq_some_iff.mpr ⟨hi,e⟩)⟩
 refine⟨?_,by rw[Cv];omega,fun c hc=>?_⟩
 ·show(decide (2≤((Au s d).map Ai).length)&&decide (((Au s d).map Ai).length≤16)&&((Au s d).map Ai).all Ip)=true;rw[List.length_map,Cv,decide_eq_true hw.1,decide_eq_true hw.2,Bool.true_and,Bool.true_and,List.all_eq_true];intro x hx;obtain⟨c,hc,rfl⟩:=List.mem_map.mp hx;obtain⟨i,hi,rfl⟩:=cm c hc;refine Rb (by rw[Dj];exact Jv) fun x hx=>?_
  rw[Dj] at hx;obtain⟨h1,h2,_⟩:=mem_freeC.mp hx;rw[(ok.at hi).1] at h2;omega
 ·obtain⟨i,hi,rfl⟩:=cm c hc;rw[Dj];refine Nat.le_trans K5 ?_;rw[(ok.at hi).1];omega
theorem Abr{G:Gp}{d:D}{t:String}(ht:A9 G d=some t)(h:pyIs t "str" = true):∃x,d=.str x:=by
 cases d with
 |str x=>exact⟨x,rfl⟩
 |ref a=>
  simp only[A9] at ht
  split at ht<;>first|(cases ht;exact absurd h (by decide))|cases ht
 |ty n=>cases ht
 |lint ns=>cases ht
 |_=>cases ht;exact absurd h (by decide)
def spLaneX(CS CD CF CU T0:Addr)(q:Str):DSp:=fun ds G Q E=>∃a dd w u,ds=[a,dd,w,u]∧KnT G 2 a∧SzT a∧Kn G dd∧KnT G 1 w∧(∀xs,w=.tup xs→xs.length<sizeLine)∧Kn G u∧G T0=some (.tbl q)∧(Ch a=false→E (.ref CS) G)∧(Ch a=true→Ag 1 9 dd=false→E (.ref CD) G)∧
 ∀s h d,a=seaD s→SeaOk s h→dd=.int d→1≤d→d≤9→(Eo (Au s d) w=false→E (.ref CF) G)∧(Eo (Au s d) w=true→∃ws,w=Ai ws∧FairOk s h d ws∧((∀b,u≠.str (Al b).1)→E (.ref CU) G)∧∀b,u=.str (Al b).1→∀l,G l=none→Q (.ref l) (Ab G l (.lst (Bj s d ws (Al b).2))))
theorem Ze{f CS CD CF CU:Addr}{fd:FuncData}{q:Str}(F:Fun K "lane_of" "lane_of" s_lane_of f fd)(T:Sz P w K mg C aS)(O_NoFairway:ExcK K "NoFairway" CF)(O_NoSide:ExcK K "NoSide" CU)(Ais:Def P w K mg base (CX1 P w) 10 "channel_of" p_channel_of (spChannelX CS CD T0 q))(Ait:Def P w K mg base CX0 6 "is_way" p_is_way spWayA)(Aiu:Def P w K mg base CX0 1 "edge_of" Cp Ph):FnOk P w K mg base (CX1 P w) 11 f fd p_lane_of (liftSp K (spLaneX CS CD CF CU T0 q)):=by
 refine okX F sc_lane_of (fun ds G Q E h=>?_) (fun cdv A outer s H XE ds G Q E hr h hE=>?_)
 ·obtain⟨_,_,_,_,rfl,_⟩:=h;rfl
 ·obtain⟨sd,dd,wd,ud,rfl,kn,hz,kd,kw,zw,ku,hT,k0,k1,k⟩:=h;refine⟨_,#["d",#["i",4,sc_lane_of.nd,#["L",(Fx E),Ais,hr,(passX hE),#["c",#["a",0],#["aw",#["z",#["z",#["c",#["a",1],#["c",(@q_bl _ _ _ _),(@qa_nil _)]]]]]]]],#["d",#["H",#["j",#["h",#["f",Ait,hr,#["c",#["a",4],#["b",#["a",2]]]]]],#["e",#["R",hE,O_NoFairway]]],#["d",#["H",#["t",#["B",#["j",#["h",#["F",T,#["c",#["a",3],#["b",#["A","str",T]]]]]],#["C",(@qt_cmp _ _ _ _ _ _ _ _ (@o_mnotin _ _ _ T.K_STEPS_OUT) #["a",3] #["o",T.STEPS_OUT] (by with_unfolding_all rfl))]]],#["e",#["R",hE,O_NoSide]]],#["d",#["0",5,sc_lane_of.nd,#["aT",T.K_STEPS_OUT,#["o",T.STEPS_OUT],#["a",3]]],#["e",#["g",#["Y",["row", "rows"],["sea", "draught", "fairway", "side", "channel", "step"],T,#["c",#["a",2],#["b",#["a",4]]],#["v",2,#["n",#["l",0,nd_lane_of_1],#["w",#["l",1,nd_lane_of_1]]]],#["G",#["c",#["3",#["a",0],#["m",7]],#["b",#["3",#["f",Aiu,hr,#["c",#["a",1],#["c",#["a",0],#["b",#["m",7]]]]],#["m",7]]]]]]]]]]]],?_⟩
  simp![];refine⟨Nat.zero_le _,fun p hp=>?_⟩;have s1:Sub G (Ab G p (.lst [])):=Sub.new hp;have hp1:Ab G p (.lst []) p=some (.lst []):=Aa;generalize Ab G p (.lst [])=G1 at *;refine⟨sd,p,dd,rfl,KnT.sub s1 kn,hz,Kn.sub kd s1,hp1,s1 _ _ hT,fun hb=>⟨G,s1,k0 hb⟩,fun hb hd=>⟨G,s1,k1 hb hd⟩,fun s h d ea oks ed d1 d9=>?_⟩;subst ea ed;obtain⟨kf,kg⟩:=k s h d rfl oks rfl d1 d9;obtain⟨c1,c2⟩:=chanS (d:=d) oks;refine⟨Au s d,wd,rfl,c1,c2,KnT.sub s1 kw,zw,Eo (Au s d) wd,rfl,?_⟩;cases hwb:Eo (Au s d) wd with
  |false=>exact it0 (by decide) ⟨szl (by decide),G,s1,kf hwb⟩
  |true=>
   obtain⟨ws,rfl,ok,ku0,k⟩:=kg hwb;refine it1 (by decide) ⟨by decide,?_⟩
   obtain⟨t,ht⟩:=Kn.sub ku s1;refine⟨t,ht,pyIs t "str",rfl,?_⟩;cases hs:pyIs t "str" with
   |false=>exact it0 (by decide) ⟨szl (by decide),G,s1,ku0 fun b e=>by subst e;cases ht;revert hs;decide⟩
   |true=>
    obtain⟨x,rfl⟩:=Abr ht hs;refine it1 (by decide) ⟨_,rfl,?_⟩
    by_cases hx:∃u,x=(Al u).1
    ·obtain⟨u,rfl⟩:=hx;have kq:=k u rfl
     clear k
     have e1:F3 Iy (.inr (Al u).1)=some (.int (Al u).2):=by cases u<;>rfl
     have hx0:=e1;refine it1 (by rw[e1];simp) ?_
     have hto:(Al u).2=1∨(Al u).2 = -1:=by cases u<;>simp[Al]
     refine⟨_,rfl,_,e1,[ws.map D.int,(Au s d).map Ai],rfl,fun p1 hp1=>?_⟩
     clear e1 hx0 ht
     generalize (Al u).2=t at *;generalize (Al u).1=x at *;have hp1':G p1=none:=s1.none hp1;have hw:=ok.sea.wide;have hzl:(A6 [ws.map D.int,(Au s d).map Ai]).length<sizeLine:=by
      rw[B3,sizeLine_eq]
      have:=ok.len
      simp only[Ci,List.length_map];omega
     refine D6 (fun z=>match z with|.tup [u,v]=>[some u,some v,some (seaD s),some (.int d),some (Ai ws),some (.str x),some (chD (Au s d)),some (.int t)]|_=>[none,none,some (seaD s),some (.int d),some (Ai ws),some (.str x),some (chD (Au s d)),some (.int t)]) (Q0 t) (fun _=>true) hzl (fun _=>rfl) (fun z hz=>?_) (fun z ys hzm hl R1 R2 g1 _=>?_) ?_
     ·obtain⟨u,v,rfl,_,_⟩:=Bz hz;refine⟨⟨[some u,some v],rfl,rfl⟩,fun G' R h=>?_⟩;simp![];exact h
     ·obtain⟨i,u,v,hu,hv,rfl⟩:=Ld hzm;rw[List.getElem?_map] at hu hv;obtain⟨r,hr1,rfl⟩:=Option.map_eq_some_iff.mp hu;obtain⟨c,hc1,rfl⟩:=Option.map_eq_some_iff.mp hv;obtain⟨⟨r0,r8⟩,rc⟩:=ok.way.row i r c hr1 hc1;obtain⟨hi,rfl⟩:=Fw hc1;have hb:=ok.free hi;have g2:=g1 rfl;have ef:Q0 t (.tup [.int r,Ai (Cn s d i)])=.tup [.int (r*t),.int (Cs (Cn s d i) t 10 r*t)]:=by
       show D.tup [_,.int (Cs ((List.map D.int (Cn s d i)).map Ax) t 10 r*t)]=_;rw[Rr];rfl
      rw[ef] at g2;have he:=Ru (t:=t) (n:=10) hb r0 r8;simp![hl];exact⟨.inl ⟨by omega,by omega⟩,_,_,_,rfl,hto,hb,r0,r8,_,rfl,.inl ⟨by omega,by omega⟩,szl (by decide),Aa,by rw[B4];exact Fg.of g2⟩
     ·refine⟨_,Ia s1,?_⟩;rw[Bb,W7 ok.len];exact kq p1 hp1'
    ·refine it0 ?_ ⟨szl (by decide),G,s1,ku0 fun b e=>hx ⟨b,by cases e;rfl⟩⟩
     have hn:F3 Iy (.inr x)=none:=by
      unfold F3;rw[Option.map_eq_none_iff,List.find?_eq_none];intro q hq;simp only[Iy,List.mem_cons,List.not_mem_nil,or_false] at hq;rcases hq with rfl|rfl
      ·intro z;exact hx ⟨true,(by simpa using z:Str.ofString "upper" = x).symm⟩
      ·intro z;exact hx ⟨false,(by simpa using z:Str.ofString "lower" = x).symm⟩
     rw[hn];decide
structure ColsOk(n:Nat)(cs:List Int):Prop where
 rise:cs.Pairwise (· < ·)
 inn:∀x∈cs,1≤x∧x≤n-1
 len:cs.length≤16
def LnX(CS CD CF CU:Addr)(G:Gp)(E:DX)(a dd w u:D)(R:List (List Int)→Nat→Int→List Int→Bool→Prop):Prop:=KnT G 2 a∧SzT a∧Kn G dd∧KnT G 1 w∧(∀xs,w=.tup xs→xs.length<sizeLine)∧Kn G u∧(Ch a=false→E (.ref CS) G)∧(Ch a=true→Ag 1 9 dd=false→E (.ref CD) G)∧
 ∀s h d,a=seaD s→SeaOk s h→dd=.int d→1≤d→d≤9→(Eo (Au s d) w=false→E (.ref CF) G)∧(Eo (Au s d) w=true→∃ws,w=Ai ws∧FairOk s h d ws∧((∀b,u≠.str (Al b).1)→E (.ref CU) G)∧∀b,u=.str (Al b).1→R s h d ws b)
theorem LnX.lane{CS CD CF CU:Addr}{q:Str}{G:Gp}{E E':DX}{Q:DK}{a dd w u:D}{R:List (List Int)→Nat→Int→List Int→Bool→Prop}(L:LnX CS CD CF CU G E a dd w u R)(hT:G T0=some (.tbl q))(hE:∀c,E c G→E' c G)(hR:∀s h d ws b,a=seaD s→dd=.int d→w=Ai ws→u=.str (Al b).1→FairOk s h d ws→R s h d ws b→∀l,G l=none→Q (.ref l) (Ab G l (.lst (Bj s d ws (Al b).2)))):spLaneX CS CD CF CU T0 q [a,dd,w,u] G Q E':=by
 obtain⟨kn,hz,kd,kw,zw,ku,k0,k1,k⟩:=L;refine⟨a,dd,w,u,rfl,kn,hz,kd,kw,zw,ku,hT,fun hb=>hE _ (k0 hb),fun hb hd=>hE _ (k1 hb hd),fun s h d ea oks ed d1 d9=>?_⟩;obtain⟨kf,kg⟩:=k s h d ea oks ed d1 d9;refine⟨fun z=>hE _ (kf z),fun z=>?_⟩;obtain⟨ws,ew,ok,ku0,k⟩:=kg z;exact⟨ws,ew,ok,fun z=>hE _ (ku0 z),fun b eb l hl=>hR s h d ws b ea ed ew eb ok (k b eb) l hl⟩
abbrev s_keeps:Stmt:=top 104
abbrev Aaf:List Str:=["sea", "draught", "fairway", "side", "columns", "lane", "out", "column", "middle", "edge"]
abbrev p_keeps:List Str:=["sea", "draught", "fairway", "side", "columns"]
theorem sc_keeps:FnScope Aaf p_keeps (defScope s_keeps):=⟨rfl,rfl,rfl,by decide +kernel,rfl,by decide +kernel,by decide +kernel⟩
def spKeepsX(CS CD CF CU CK T0:Addr)(q:Str):DSp:=fun ds G Q E=>∃a dd w u c,ds=[a,dd,w,u,c]∧G T0=some (.tbl q)∧KnT G 1 c∧(∀xs,c=.tup xs→xs.length<sizeLine)∧LnX CS CD CF CU G E a dd w u fun s h d ws b=>(Ep 1 ((s.length:Int)-1) c=false→E (.ref CK) G)∧(Ep 1 ((s.length:Int)-1) c=true→∃cs,c=Ai cs∧ColsOk s.length cs∧∀v,Q (.bl v) G)
theorem Wz{f CS CD CF CU CK:Addr}{fd:FuncData}{q:Str}(F:Fun K "keeps" "keeps" s_keeps f fd)(T:Sz P w K mg C aS)(O_NoColumns:ExcK K "NoColumns" CK)(Ahy:Def P w K mg base (CX1 P w) 11 "lane_of" p_lane_of (spLaneX CS CD CF CU T0 q))(Ahz:Def P w K mg base CX0 2 "are_rising_within" Ap Dz):FnOk P w K mg base (CX1 P w) 12 f fd p_keeps (liftSp K (spKeepsX CS CD CF CU CK T0 q)):=by
 refine okX F sc_keeps (fun ds G Q E h=>?_) (fun cdv A outer s H XE ds G Q E hr h hE=>?_)
 ·obtain⟨_,_,_,_,_,rfl,_⟩:=h;rfl
 ·obtain⟨a,dd,wd,ud,c,rfl,hT,kc,zc,L⟩:=h;refine⟨_,#["d",#["i",5,sc_keeps.nd,#["L",(Fx E),Ahy,hr,(passX hE),#["c",#["a",0],#["c",#["a",1],#["c",#["a",2],#["b",#["a",3]]]]]]],#["d",#["H",#["j",#["h",#["f",Ahz,hr,#["c",#["a",4],#["z",#["b",#["T",#["q",T,#["b",#["a",5]]]]]]]]]],#["e",#["R",hE,O_NoColumns]]],#["d",#["i",6,sc_keeps.nd,#["p",#["p",#["a",5]]]],#["7",#["aU",PassesOwn.leaving,T,#["z",#["b",#["q",T,#["b",#["a",5]]]]],#["k",7,sc_keeps.nd],#["d",#["J",#["E",#["a",5],#["a",7]],#["v",2,#["n",#["k",8,sc_keeps.nd],#["w",#["k",9,sc_keeps.nd]]]]],#["d",#["i",6,sc_keeps.nd,#["am",(@qt_cmp _ _ _ _ _ _ _ _ (@o_inD _ _ hr) #["a",7] #["a",4] (by with_unfolding_all rfl)),#["a",8],#["W",#["a",6]]]],#["e",#["x",#["aj",#["a",6],#["a",9]]]]]]]]]]],?_⟩
  simp![];refine L.lane hT (fun _ z=>Fx.of z) fun s h d ws u ea ed ew eu ok kr l hl=>?_;subst ea ed ew eu;obtain⟨kr0,kr1⟩:=kr;have hw:=ok.sea.wide;refine⟨s.length,by rw[Ij Aa,Fo],c,1,_,rfl,KnT.sub (Sub.new hl) kc,zc,Ep 1 ((s.length:Int)-1) c,rfl,?_⟩
  cases hrb:Ep 1 ((s.length:Int)-1) c with
  |false=>exact it0 (by decide) ⟨szl (by decide),G,Sub.new hl,kr0 hrb⟩
  |true=>
   obtain⟨cs,rfl,co,k⟩:=kr1 hrb;refine it1 (by decide) ?_
   generalize (Al u).2=t at *;generalize (Al u).1=x at *;refine⟨_,by rw[Ba Aa];exact Ff (i:=0) (by omega),.int (A0 ws t 0),rfl,s.length,by rw[Ij Aa,Fo],by omega,by omega,?_⟩
   refine Kx (i0:=1) (n:=s.length) (fun i σ G'=>∃v1 v2 v3,σ=[some (seaD s),some (.int d),some (Ai ws),some (.str x),some (Ai cs),some (.ref l),some (.int (Lb (A0 ws t) cs i)),v1,v2,v3]∧G'=Ab G l (.lst (Bj s d ws t))∧∀j,j<i→Lb (A0 ws t) cs (j+1)≤A4 s d ws t (j+1)) ⟨none,none,none,rfl,rfl,fun j hj=>absurd hj (by omega)⟩ ?_ ?_
   ·rintro i σ G' hi ⟨v1,v2,v3,rfl,rfl,hj⟩;rw[Nat.add_comm 1 i] at hi ⊢;have ea:Dv (Ab G l (.lst (Bj s d ws t))) (.ref l) ((i+1:Nat):Int)=some (.tup [.int (A0 ws t (i+1)),.int (A4 s d ws t (i+1))]):=by rw[Ba Aa];exact Ff hi
    simp![ea];refine Pq ⟨_,rfl,?_⟩;have fin:∀o,Lb (A0 ws t) cs (i+1)=o→if A4 s d ws t (i+1)<o then Fq Q (.bl false) (Ab G l (.lst (Bj s d ws t))) else Fs (fun σ G'=>∃v1 v2 v3,σ=[some (seaD s),some (.int d),some (Ai ws),some (.str x),some (Ai cs),some (.ref l),some (.int (Lb (A0 ws t) cs (i+1))),v1,v2,v3]∧G'=Ab G l (.lst (Bj s d ws t))∧∀j,j<i+1→Lb (A0 ws t) cs (j+1)≤A4 s d ws t (j+1)) [some (seaD s),some (.int d),some (Ai ws),some (.str x),some (Ai cs),some (.ref l),some (.int o),some (.int ((i+1:Nat):Int)),some (.int (A0 ws t (i+1))),some (.int (A4 s d ws t (i+1)))] (Ab G l (.lst (Bj s d ws t))):=fun o eo=>by
     by_cases hb:A4 s d ws t (i+1)<o
     ·refine it0 hb ⟨G,Sub.new hl,?_⟩;exact k _
     ·refine it1 hb (Fs.of ⟨_,_,_,by rw[eo],rfl,fun j hj'=>?_⟩)
      by_cases z:j<i
      ·exact hj j z
      ·rw[show j=i by omega,eo];omega
    by_cases hm:((i+1:Nat):Int)∈cs
    ·refine it0 (by simpa using hm) (fin _ ?_)
     rw[Lb,if_pos hm]
    ·refine it1 (by simpa using hm) (fin _ ?_)
     rw[Lb,if_neg hm]
   ·rintro σ G' ⟨v1,v2,v3,rfl,rfl,hj⟩;simp![];refine⟨G,Sub.new hl,?_⟩
    have:Vd (A0 ws t) (A4 s d ws t) cs (s.length-1)=true:=by
     unfold Vd;rw[List.all_eq_true];intro i hi;exact decide_eq_true (hj i (List.mem_range.mp hi))
    exact k _
abbrev s_columns_wanted:Stmt:=top 105
abbrev Hb:List Str:=["lane", "wanted", "out", "column", "middle", "edge"]
abbrev Aw:List Str:=["lane"]
theorem sc_columns_wanted:FnScope Hb Aw (defScope s_columns_wanted):=⟨rfl,rfl,rfl,by decide +kernel,rfl,by decide +kernel,by decide +kernel⟩
def Fm:DSp:=fun ds G Q _=>∃l s h d ws t,ds=[.ref l]∧FairOk s h d ws∧G l=some (.lst (Bj s d ws t))∧∀p,G p=none→Q (.ref p) (Ab G p (.lst ((A3 (A0 ws t) (A4 s d ws t) (s.length-1)).2.map D.int)))
theorem Sv{f:Addr}{fd:FuncData}(F:Fun K "columns_wanted" "columns_wanted" s_columns_wanted f fd)(T:Sz P w K mg C aS):FnOk P w K mg base CX0 1 f fd Aw (liftSp K Fm):=by
 refine okD F sc_columns_wanted (fun ds G Q E h=>?_) (fun cdv A outer s H XE ds G Q E hr h=>?_)
 ·obtain⟨_,_,_,_,_,_,rfl,_⟩:=h;rfl
 ·obtain⟨l,s,h,d,ws,t,rfl,ok,hl,k⟩:=h;refine⟨_,#["d",#["S",1,sc_columns_wanted.nd],#["d",#["i",2,sc_columns_wanted.nd,#["p",#["p",#["a",0]]]],#["d",#["aV",T,#["z",#["b",#["q",T,#["b",#["a",0]]]]],#["k",3,sc_columns_wanted.nd],#["d",#["J",#["E",#["a",0],#["a",3]],#["v",2,#["n",#["k",4,sc_columns_wanted.nd],#["w",#["k",5,sc_columns_wanted.nd]]]]],#["d",#["aW",2,sc_columns_wanted.nd],#["e",#["U",#["aj",#["a",2],#["a",5]],#["d",#["u",#["M",#["a",1],#["a",3]]],#["e",#["i",2,sc_columns_wanted.nd,#["a",4]]]]]]]]],#["e",#["g",#["a",1]]]]]],?_⟩;simp![];have hw:=ok.sea.wide;refine⟨Nat.zero_le _,fun p hp=>?_⟩;have hl1:=Ah (u:=.lst []) hl hp;have npl:l≠p:=gne hl hp;refine⟨_,by rw[Ba hl1];exact Ff (i:=0) (by omega),.int (A0 ws t 0),rfl,s.length,by rw[Ij hl1,Fo],by omega,by omega,?_⟩
  refine Kx (i0:=1) (n:=s.length) (fun i σ G'=>∃v1 v2 v3,σ=[some (.ref l),some (.ref p),some (.int (A3 (A0 ws t) (A4 s d ws t) i).1),v1,v2,v3]∧G'=Ab G p (.lst ((A3 (A0 ws t) (A4 s d ws t) i).2.map D.int))) ⟨none,none,none,rfl,rfl⟩ ?_ ?_
  ·rintro i σ G' hi ⟨v1,v2,v3,rfl,rfl⟩;rw[Nat.add_comm 1 i] at hi ⊢;have ea:Dv (Ab G p (.lst ((A3 (A0 ws t) (A4 s d ws t) i).2.map D.int))) (.ref l) ((i+1:Nat):Int)=some (.tup [.int (A0 ws t (i+1)),.int (A4 s d ws t (i+1))]):=by rw[Ba (Ah hl hp)];exact Ff hi
   simp![ea];refine⟨_,?_,fun σ' G' m=>Fs.of m⟩
   by_cases hb:A4 s d ws t (i+1)<(A3 (A0 ws t) (A4 s d ws t) i).1+1
   ·refine it0 hb ⟨⟨_,rfl⟩,?_,Fs.of ⟨_,_,_,by rw[A3,if_pos hb],by rw[A3,if_pos hb,List.map_append];rfl⟩⟩
    rw[List.length_map,sizeLine_eq]
    have:=F9 (m:=A0 ws t) (e:=A4 s d ws t) (n:=i)
    omega
   ·refine it1 hb (Fs.of ⟨_,_,_,by rw[A3,if_neg hb],by rw[A3,if_neg hb]⟩)
  ·rintro σ G' ⟨v1,v2,v3,rfl,rfl⟩;simp![];exact Fq.of (k p hp)
abbrev s_least_columns:Stmt:=top 106
abbrev Hw:List Str:=["sea", "draught", "fairway", "side"]
abbrev p_least_columns:List Str:=["sea", "draught", "fairway", "side"]
theorem Gq:FnScope Hw p_least_columns (defScope s_least_columns):=⟨rfl,rfl,rfl,by decide +kernel,rfl,by decide +kernel,by decide +kernel⟩
def spLeastX(CS CD CF CU T0:Addr)(q:Str):DSp:=fun ds G Q E=>∃a dd w u,ds=[a,dd,w,u]∧G T0=some (.tbl q)∧LnX CS CD CF CU G E a dd w u fun _ _ _ _ _=>∀ns,Q (Ai ns) G
theorem Wy{f CS CD CF CU:Addr}{fd:FuncData}{q:Str}(F:Fun K "least_columns" "least_columns" s_least_columns f fd)(T:Sz P w K mg C aS)(Ahy:Def P w K mg base (CX1 P w) 11 "lane_of" p_lane_of (spLaneX CS CD CF CU T0 q))(Ah0:Def P w K mg base CX0 1 "columns_wanted" Aw Fm):FnOk P w K mg base (CX1 P w) 12 f fd p_least_columns (liftSp K (spLeastX CS CD CF CU T0 q)):=by
 refine okX F Gq (fun ds G Q E h=>?_) (fun cdv A outer s H XE ds G Q E hr h hE=>?_)
 ·obtain⟨_,_,_,_,rfl,_⟩:=h;rfl
 ·obtain⟨a,dd,wd,ud,rfl,hT,L⟩:=h;refine⟨_,#["e",#["g",#["N",T,#["b",#["f",Ah0,hr,#["b",#["L",(Fx E),Ahy,hr,(passX hE),#["c",#["a",0],#["c",#["a",1],#["c",#["a",2],#["b",#["a",3]]]]]]]]]]]],?_⟩;simp![];refine L.lane hT (fun _ z=>Fx.of z) fun s h d ws u ea ed ew eu ok k l hl=>?_;refine⟨l,s,h,d,ws,_,rfl,ok,Aa,fun p hp=>⟨_,Av Aa,?_⟩⟩;exact⟨G,(Sub.new hl).trans (Sub.new hp),k _⟩
theorem Xi{xs:List D}{j:Nat}:C4 xs none (some (j:Int))=xs.take j:=by
 simp only[C4,HT.sIx,if_neg (show ¬((j:Int)<0) by omega),List.drop_zero,Nat.sub_zero]
 by_cases h:j≤xs.length
 ·congr 1;omega
 ·rw[List.take_of_length_le (by omega),List.take_of_length_le (by omega)]
theorem ColsOk.sub{n:Nat}{cs ds:List Int}(h:ColsOk n cs)(s:ds.Sublist cs):ColsOk n ds:=⟨h.rise.sublist s,fun x hx=>h.inn x (s.mem hx),Nat.le_trans s.length_le h.len⟩
theorem Tj{m e:Nat→Int}{n:Nat}(h:2≤n∧n≤16):ColsOk n (A3 m e (n-1)).2∧(A3 m e (n-1)).2.length≤15:=by
 have:=F9 (m:=m) (e:=e) (n:=n-1)
 exact⟨⟨Ev,fun x hx=>by have:=Fl x hx;omega,by omega⟩,by omega⟩
def Iv(m e:Nat→Int)(t a:Int):Bool:=decide (e t.toNat<m (a-1).toNat+t-a+1)
def L1(m e:Nat→Int)(t:Int):List Int:=(ivl 1 t.toNat).filter (Iv m e t)
def optD:Option Int→D
 |none=>.non
 |some i=>.int i
def Ct(m e:Nat→Int)(t:Int):Option Int:=(L1 m e t).getLast?
theorem Nx:∀{l:List Int} {M:Int},l.Pairwise (· < ·)→M∈l→(∀a∈l,a≤M)→l.getLast? = some M
 |[],M,_,h,_=>by cases h
 |[x],M,_,h,_=>by rw[List.mem_singleton.mp h];rfl
 |x::y::r,M,h,hm,hM=>by
  obtain⟨h1,h2⟩:=List.pairwise_cons.mp h;have hm':M∈y::r:=by
   rcases List.mem_cons.mp hm with e|e
   ·have:=hM y (by simp);have:=h1 y (by simp);omega
   ·exact e
  rw[List.getLast?_cons_cons];exact Nx h2 hm' fun a ha=>hM a (List.mem_cons_of_mem _ ha)
theorem Od{m e:Nat→Int}{t:Int}:(L1 m e t).Pairwise (· < ·):=ivl_rise.filter _
abbrev LaneAt(G:Gp)(l:Addr)(s:List (List Int))(d:Int)(ws:List Int)(t:Int):Prop:=G l=some (.lst (Bj s d ws t))
theorem LaneAt.get{G:Gp}{l:Addr}{s:List (List Int)}{d:Int}{ws:List Int}{t:Int}(h:LaneAt G l s d ws t){i:Int}(h0:0≤i)(h1:i<s.length):Dv G (.ref l) i=some (.tup [.int (A0 ws t i.toNat),.int (A4 s d ws t i.toNat)]):=by
 obtain⟨k,rfl⟩:=Int.eq_ofNat_of_zero_le h0;rw[Ba h,Int.toNat_natCast];exact Ff (by omega)
abbrev s_can_be_wrong:Stmt:=top 107
abbrev J2:List Str:=["lane", "start", "end", "out"]
abbrev Bd:List Str:=["lane", "start", "end"]
theorem sc_can_be_wrong:FnScope J2 Bd (defScope s_can_be_wrong):=⟨rfl,rfl,rfl,by decide +kernel,rfl,by decide +kernel,by decide +kernel⟩
def L3:DSp:=fun ds G Q _=>∃l s d ws t a b,ds=[.ref l,.int a,.int b]∧LaneAt G l s d ws t∧1≤a∧a≤b∧b<s.length∧Q (.bl (Iv (A0 ws t) (A4 s d ws t) b a)) G
theorem Wo{f:Addr}{fd:FuncData}(F:Fun K "can_be_wrong" "can_be_wrong" s_can_be_wrong f fd)(T:Sz P w K mg C aS):FnOk P w K mg base CX0 1 f fd Bd (liftSp K L3):=by
 refine okD F sc_can_be_wrong (fun ds G Q E h=>?_) (fun cdv A outer s H XE ds G Q E hr h=>?_)
 ·obtain⟨_,_,_,_,_,_,_,rfl,_⟩:=h;rfl
 ·obtain⟨l,s,d,ws,t,a,b,rfl,hl,a1,ab,bn,k⟩:=h;refine⟨_,#["d",#["i",3,sc_can_be_wrong.nd,#["W",#["Q",(@o_sub _),#["s",#["p",#["E",#["a",0],#["T",#["a",1]]]],#["a",2]],#["a",1]]]],#["e",#["g",#["al",(@o_gt _),#["a",3],#["p",#["E",#["a",0],#["a",2]]]]]]],?_⟩;simp![];refine⟨_,hl.get (by omega) (by omega),.int _,R7,?_⟩
  rw[Dg];exact⟨_,rfl,_,hl.get (by omega) (by omega),.int _,atI1,_,rfl,Fq.of k⟩
abbrev s_start_of_stretch:Stmt:=top 108
abbrev Ez:List Str:=["lane", "end"]
abbrev p_start_of_stretch:List Str:=["lane", "end"]
theorem Ek:FnScope Ez p_start_of_stretch (defScope s_start_of_stretch):=⟨rfl,rfl,rfl,by decide +kernel,rfl,by decide +kernel,by decide +kernel⟩
theorem nd_start_of_stretch_1:((["start"]:List Str)++(["lane", "end"]:List Str)).Nodup:=by decide +kernel
def spStart:DSp:=fun ds G Q _=>∃l s h d ws t b,ds=[.ref l,.int b]∧FairOk s h d ws∧LaneAt G l s d ws t∧1≤b∧b<s.length∧Q (optD (Ct (A0 ws t) (A4 s d ws t) b)) G
theorem Wr{f:Addr}{fd:FuncData}(F:Fun K "start_of_stretch" "start_of_stretch" s_start_of_stretch f fd)(T:Sz P w K mg C aS)(Aiv:Def P w K mg base CX0 1 "can_be_wrong" Bd L3):FnOk P w K mg base CX0 2 f fd p_start_of_stretch (liftSp K spStart):=by
 refine okD F Ek (fun ds G Q E h=>?_) (fun cdv A outer s H XE ds G Q E hr h=>?_)
 ·obtain⟨_,_,_,_,_,_,_,rfl,_⟩:=h;rfl
 ·obtain⟨l,s,h,d,ws,t,b,rfl,ok,hl,b1,bn,k⟩:=h;have hw:=ok.sea.wide;refine⟨_,#["e",#["g",#["aX",T,#["aY",["start"],["lane", "end"],T,#["z",#["b",#["W",#["m",1]]]],#["l",0,nd_start_of_stretch_1],#["8",#["h",#["f",Aiv,hr,#["c",#["m",1],#["c",#["a",0],#["b",#["m",2]]]]]]],#["a",0]]]]],?_⟩;simp![];refine⟨by omega,by omega,fun p hp=>?_⟩
  obtain⟨b,rfl⟩:=Int.eq_ofNat_of_zero_le (show 0≤b by omega)
  have e1:D3.De 1 ((b:Int)+1)=(ivl 1 b).map D.int:=by
   unfold D3.De ivl;rw[List.map_map,show((b:Int)+1-1).toNat=b by omega];rfl
  rw[e1];have hz:((ivl 1 b).map D.int).length<sizeLine:=by rw[List.length_map,Zw,sizeLine_eq];omega
  refine A8 (fun x=>x) (fun x=>Iv (A0 ws t) (A4 s d ws t) b (Ax x)) hz (fun _=>trivial) (by decide) (fun x ys hx hl' R1 R2 g1 g2=>?_) ?_
  ·obtain⟨a,ha,rfl⟩:=List.mem_map.mp hx;have ha:=mem_ivl.mp ha;simp![hl'];refine⟨l,s,d,ws,t,a,b,rfl,Ah hl hp,by omega,by omega,bn,_,rfl,?_⟩
   cases z:Iv (A0 ws t) (A4 s d ws t) b a with
   |true=>exact it0 rfl ⟨Aa,by rw[B4];exact Fg.of (g1 z)⟩
   |false=>exact it1 (by decide) (Fg.of (g2 z))
  ·have e2:(((ivl 1 b).map D.int).filter fun x=>Iv (A0 ws t) (A4 s d ws t) b (Ax x)).map (fun x=>x)=(L1 (A0 ws t) (A4 s d ws t) b).map D.int:=by
    rw[List.map_id',List.filter_map];rfl
   rw[e2];refine⟨p,rfl,_,Aa,fun e0=>⟨G,Sub.new hp,?_⟩,fun M h1 h2=>⟨G,Sub.new hp,?_⟩⟩
   ·unfold Ct at k;rw[e0] at k;exact k
   ·unfold Ct at k;rw[Nx Od h1 h2] at k;exact k
def Ay(m e:Nat→Int)(n:Nat):D→Bool
 |.tup [.int a,.int b]=>decide (1≤b)&&decide (b≤(n:Int)-1)&&decide (1≤a)&&decide (a≤b)&&decide (Ct m e b=some a)
 |_=>false
theorem Oc{m e:Nat→Int}{n:Nat}{u v:D}:Ay m e n (.tup [u,v])=(Ag 1 ((n:Int)-1) v&&(Ag 1 (Ax v) u&&decide (Ct m e (Ax v)=some (Ax u)))):=by
 cases v with
 |int b=>
  cases u with
  |int a=>
   show(decide (1≤b)&&decide (b≤(n:Int)-1)&&decide (1≤a)&&decide (a≤b)&&decide (Ct m e b=some a))=((decide (1≤b)&&decide (b≤(n:Int)-1))&&((decide (1≤a)&&decide (a≤b))&&decide (Ct m e b=some a)));simp only[Bool.and_assoc]
  |_=>simp[Ay,Ag]
 |_=>cases u<;>simp[Ay,Ag]
theorem Hf{m e:Nat→Int}{n:Nat}{x:D}(h:∀u v,x≠.tup [u,v]):Ay m e n x=false:=by
 unfold Ay
 split
 ·rename_i a b;exact absurd rfl (h (.int a) (.int b))
 ·rfl
theorem Kr{lo hi:Int}{x:D}(h:Ag lo hi x=true):∃i,x=.int i∧lo≤i∧i≤hi:=by
 cases x with
 |int i=>simp[Ag] at h;exact⟨i,rfl,h⟩
 |_=>exact absurd (show false=true from h) Bool.false_ne_true
abbrev s_is_stretch:Stmt:=top 109
abbrev Mx:List Str:=["lane", "thing", "start", "end"]
abbrev Bp:List Str:=["lane", "thing"]
theorem sc_is_stretch:FnScope Mx Bp (defScope s_is_stretch):=⟨rfl,rfl,rfl,by decide +kernel,rfl,by decide +kernel,by decide +kernel⟩
def Gb:DSp:=fun ds G Q _=>∃l s h d ws t x,ds=[.ref l,x]∧FairOk s h d ws∧LaneAt G l s d ws t∧KnT G 1 x∧Q (.bl (Ay (A0 ws t) (A4 s d ws t) s.length x)) G
theorem P5{f:Addr}{fd:FuncData}(F:Fun K "is_stretch" "is_stretch" s_is_stretch f fd)(T:Sz P w K mg C aS)(Ahx:Def P w K mg base CX0 1 "is_whole_within" p_is_whole_within spWhole)(Ah1:Def P w K mg base CX0 2 "start_of_stretch" p_start_of_stretch spStart):FnOk P w K mg base CX0 3 f fd Bp (liftSp K Gb):=by
 refine okD F sc_is_stretch (fun ds G Q E h=>?_) (fun cdv A outer s H XE ds G Q E hr h=>?_)
 ·obtain⟨_,_,_,_,_,_,_,rfl,_⟩:=h;rfl
 ·obtain⟨l,s,h,d,ws,t,x,rfl,ok,hl,kn,k⟩:=h;have hw:=ok.sea.wide;obtain⟨ty,ht⟩:=kn.kn;refine⟨_,#["d",#["x",#["t",#["B",#["j",#["h",#["F",T,#["c",#["a",1],#["b",#["A","tuple",T]]]]]],#["C",#["ax",#["q",T,#["b",#["a",1]]]]]]]],#["d",#["J",#["a",1],#["v",2,#["n",#["k",2,sc_is_stretch.nd],#["w",#["k",3,sc_is_stretch.nd]]]]],#["d",#["x",#["t",#["B",#["j",#["h",#["f",Ahx,hr,#["c",#["a",3],#["z",#["b",#["T",#["q",T,#["b",#["a",0]]]]]]]]]],#["C",#["j",#["h",#["f",Ahx,hr,#["c",#["a",2],#["z",#["b",#["a",3]]]]]]]]]]],#["e",#["g",#["aq",#["a",2],#["f",Ah1,hr,#["c",#["a",0],#["b",#["a",3]]]]]]]]]],?_⟩;simp![ht];refine⟨pyIs ty "tuple",rfl,?_⟩
  by_cases htt:ty = "tuple"
  ·subst htt;obtain⟨xs,rfl⟩:=Es ht;refine it1 (by decide) ⟨xs.length,rfl,?_⟩
   by_cases h2:xs.length=2
   ·obtain⟨u,v,rfl⟩:∃u v,xs=[u,v]:=by
     match xs,h2 with
     |[u,v],_=>exact⟨u,v,rfl⟩
    have ku:Kn G u:=kn.2 _ rfl u (by simp)
    have kv:Kn G v:=kn.2 _ rfl v (by simp)
    refine it1 (by simp) ⟨_,rfl,rfl,_,_,rfl,_,_,rfl,rfl,s.length,by rw[Ij hl,Fo],v,1,_,rfl,kv,_,rfl,?_⟩
    rw[Oc] at k;cases z:Ag 1 ((s.length:Int)-1) v with
    |false=>rw[z] at k;exact it0 rfl (Fq.of k)
    |true=>
     rw[z,Bool.true_and] at k;obtain⟨b,rfl,b1,bn⟩:=Kr z;refine it1 (by decide) ⟨u,1,b,rfl,ku,_,rfl,?_⟩
     cases z2:Ag 1 b u with
     |false=>rw[show Ag 1 (Ax (.int b)) u=false from z2] at k;exact it0 rfl (Fq.of k)
     |true=>
      rw[show Ag 1 (Ax (.int b)) u=true from z2,Bool.true_and] at k;obtain⟨a,rfl,a1,ab⟩:=Kr z2;refine it1 (by decide) ⟨l,s,h,d,ws,t,b,rfl,ok,hl,b1,by omega,?_⟩
      cases z3:Ct (A0 ws t) (A4 s d ws t) b with
      |none=>
       rw[show Ct (A0 ws t) (A4 s d ws t) (Ax (.int b))=none from z3] at k;exact⟨false,rfl,Fq.of k⟩
      |some c=>
       rw[show Ct (A0 ws t) (A4 s d ws t) (Ax (.int b))=some c from z3] at k;refine⟨decide (a=c),rfl,Fq.of ?_⟩
       have:decide (some c=some (Ax (.int a)))=decide (a=c):=by
        rw[decide_eq_decide];exact⟨fun e=>(Option.some.inj e).symm,fun e=>by rw[e];rfl⟩
       rw[this] at k;exact k
   ·refine it0 (by simp;omega) (Fq.of ?_)
    rw[Hf (fun u v e=>by cases e;exact h2 rfl)] at k;exact k
  ·obtain⟨e,nt⟩:=Dh ht htt;rw[e];refine it0 (by decide) (Fq.of ?_)
   rw[Hf (fun u v=>nt _)] at k;exact k
def F8:D→Bool
 |.tup [.tup [_,.int b],.tup [.int a,_]]=>decide (b<a)
 |_=>false
def Ac4(m e:Nat→Int)(n:Nat):D→Bool
 |.tup xs=>xs.all (Ay m e n)&&(A6 [xs,xs.drop 1]).all F8
 |_=>false
theorem Py{m e:Nat→Int}{n:Nat}{x:D}(h:Ay m e n x=true):∃a b,x=.tup [.int a,.int b]:=by
 unfold Ay at h
 split at h
 ·exact⟨_,_,rfl⟩
 ·cases h
abbrev s_is_paper:Stmt:=top 110
abbrev Qs:List Str:=["sea", "draught", "fairway", "side", "thing", "lane"]
abbrev p_is_paper:List Str:=["sea", "draught", "fairway", "side", "thing"]
theorem sc_is_paper:FnScope Qs p_is_paper (defScope s_is_paper):=⟨rfl,rfl,rfl,by decide +kernel,rfl,by decide +kernel,by decide +kernel⟩
theorem nd_is_paper_1:((["stretch"]:List Str)++(["sea", "draught", "fairway", "side", "thing", "lane"]:List Str)).Nodup:=by decide +kernel
theorem nd_is_paper_2:((["ahead", "stretch"]:List Str)++(["sea", "draught", "fairway", "side", "thing", "lane"]:List Str)).Nodup:=by decide +kernel
def spPaperX(CS CD CF CU T0:Addr)(q:Str):DSp:=fun ds G Q E=>∃a dd w u x,ds=[a,dd,w,u,x]∧G T0=some (.tbl q)∧KnT G 2 x∧(∀xs,x=.tup xs→xs.length<sizeLine)∧LnX CS CD CF CU G E a dd w u fun _ _ _ _ _=>∀v,Q (.bl v) G
theorem Ww{f CS CD CF CU:Addr}{fd:FuncData}{q:Str}(F:Fun K "is_paper" "is_paper" s_is_paper f fd)(T:Sz P w K mg C aS)(Ahy:Def P w K mg base (CX1 P w) 11 "lane_of" p_lane_of (spLaneX CS CD CF CU T0 q))(Aiw:Def P w K mg base CX0 3 "is_stretch" Bp Gb):FnOk P w K mg base (CX1 P w) 12 f fd p_is_paper (liftSp K (spPaperX CS CD CF CU T0 q)):=by
 refine okX F sc_is_paper (fun ds G Q E h=>?_) (fun cdv A outer s H XE ds G Q E hr h hE=>?_)
 ·obtain⟨_,_,_,_,_,rfl,_⟩:=h;rfl
 ·obtain⟨a,dd,wd,ud,x,rfl,hT,kn,hz,L⟩:=h;refine⟨_,#["d",#["0",5,sc_is_paper.nd,#["L",(Fx E),Ahy,hr,(passX hE),#["c",#["a",0],#["c",#["a",1],#["c",#["a",2],#["b",#["a",3]]]]]]],#["d",#["x",#["t",#["B",#["j",#["h",#["F",T,#["c",#["a",4],#["b",#["A","tuple",T]]]]]],#["C",#["j",#["h",#["K",T,#["b",#["O",["stretch"],["sea", "draught", "fairway", "side", "thing", "lane"],#["a",4],#["l",0,nd_is_paper_1],#["f",Aiw,hr,#["c",#["m",6],#["b",#["a",0]]]]]]]]]]]]],#["e",#["g",#["K",T,#["b",#["Y",["ahead", "stretch"],["sea", "draught", "fairway", "side", "thing", "lane"],T,#["c",#["a",4],#["b",#["Z",#["a",4]]]],#["v",2,#["n",#["l",0,nd_is_paper_2],#["w",#["l",1,nd_is_paper_2]]]],#["ah",#["p",#["a",0]],#["p",#["a",1]]]]]]]]]],?_⟩;simp![];refine L.lane hT (fun _ z=>Fx.of z) fun s h d ws u ea ed ew eu ok k0 l hl=>?_;subst ea ed ew eu;have k:Q (.bl (Ac4 (A0 ws (Al u).2) (A4 s d ws (Al u).2) s.length x)) G:=k0 _;have sb1:Sub G (Ab G l (.lst (Bj s d ws (Al u).2))):=Sub.new hl;have vl:LaneAt (Ab G l (.lst (Bj s d ws (Al u).2))) l s d ws (Al u).2:=Aa;have kn1:KnT (Ab G l (.lst (Bj s d ws (Al u).2))) 2 x:=KnT.new hl kn;generalize Ab G l (.lst (Bj s d ws (Al u).2))=G1 at *;generalize (Al u).2=t at *;obtain⟨ty,ht⟩:=kn1.kn;refine⟨ty,ht,pyIs ty "tuple",rfl,?_⟩
  by_cases htt:ty = "tuple"
  ·subst htt;obtain⟨xs,rfl⟩:=Es ht;have k2:Q (.bl (xs.all (Ay (A0 ws t) (A4 s d ws t) s.length)&&(A6 [xs,xs.drop 1]).all F8)) G:=k;have hz1:=hz xs rfl;refine it1 (by decide) ⟨xs,rfl,fun p hp=>?_⟩
   refine A8 (fun x=>.bl (Ay (A0 ws t) (A4 s d ws t) s.length x)) (fun _=>true) hz1 (fun _=>rfl) (by decide) (fun x ys hx hl' R1 R2 g1 _=>?_) ?_
   ·have kx:KnT (Ab G1 p (.lst ys)) 1 x:=KnT.new hp (kn1.2 xs rfl x hx);simp![hl'];exact⟨l,s,h,d,ws,t,x,rfl,ok,Ah vl hp,kx,Aa,by rw[B4];exact Fg.of (g1 rfl)⟩
   ·refine⟨p,rfl,xs.map (Ay (A0 ws t) (A4 s d ws t) s.length),by rw[Aa,Bb,List.map_map];rfl,?_⟩
    have ea:(xs.map (Ay (A0 ws t) (A4 s d ws t) s.length)).all id=xs.all (Ay (A0 ws t) (A4 s d ws t) s.length):=by simp[List.all_map]
    refine⟨_,rfl,?_⟩;rw[ea];cases hc:xs.all (Ay (A0 ws t) (A4 s d ws t) s.length) with
    |false=>
     rw[hc] at k2;exact it0 rfl ⟨G,sb1.trans (Sub.new hp),by simpa using k2⟩
    |true=>
     rw[hc] at k2;have allI:∀x∈xs,∃a b,x=.tup [.int a,.int b]:=fun x hx=>Py (List.all_eq_true.mp hc x hx);refine it1 (by decide) ?_
     rw[Fb,Lw];have sg:Sub G (Ab G1 p (.lst ((xs.filter fun _=>true).map fun x=>.bl (Ay (A0 ws t) (A4 s d ws t) s.length x)))):=sb1.trans (Sub.new hp);generalize Ab G1 p (.lst ((xs.filter fun _=>true).map fun x=>.bl (Ay (A0 ws t) (A4 s d ws t) s.length x)))=G2 at *;refine⟨[xs,xs.drop 1],rfl,fun p2 hp2=>?_⟩;have hzl:(A6 [xs,xs.drop 1]).length<sizeLine:=by
      rw[B3];refine Nat.lt_of_le_of_lt ?_ hz1;simp only[Ci];omega
     generalize (Al u).1=sn at *;refine D6 (fun z=>match z with|.tup [u,v]=>[some u,some v,some (seaD s),some (.int d),some (Ai ws),some (.str sn),some (.tup xs),some (.ref l)]|_=>[none,none,some (seaD s),some (.int d),some (Ai ws),some (.str sn),some (.tup xs),some (.ref l)]) (fun z=>.bl (F8 z)) (fun _=>true) hzl (fun _=>rfl) (fun z hz=>?_) (fun z ys hzm hl' R1 R2 g1 _=>?_) ?_
     ·obtain⟨u,v,rfl,_,_⟩:=Bz hz;refine⟨⟨[some u,some v],rfl,rfl⟩,fun G' R h=>?_⟩;simp![];exact h
     ·obtain⟨u,v,rfl,hu,hv⟩:=Bz hzm;obtain⟨a1,b1,rfl⟩:=allI u hu;obtain⟨a2,b2,rfl⟩:=allI v (List.mem_of_mem_drop hv);simp![hl'];exact Fg.of (g1 rfl)
     ·refine⟨p2,rfl,(A6 [xs,xs.drop 1]).map F8,by rw[Aa,Bb,List.map_map];rfl,?_⟩
      have e2:((A6 [xs,xs.drop 1]).map F8).all id=(A6 [xs,xs.drop 1]).all F8:=by simp[List.all_map]
      rw[e2];exact⟨G,sg.skip hp2,by simpa using k2⟩
  ·obtain⟨e,nt⟩:=Dh ht htt;rw[e];refine it0 (by decide) ⟨G,sb1,?_⟩
   cases x with
   |tup xs=>exact absurd rfl (nt xs)
   |_=>exact k
abbrev s_paper_of:Stmt:=top 111
abbrev Qq:List Str:=["sea", "draught", "fairway", "side", "lane"]
abbrev Cb:List Str:=["sea", "draught", "fairway", "side"]
theorem sc_paper_of:FnScope Qq Cb (defScope s_paper_of):=⟨rfl,rfl,rfl,by decide +kernel,rfl,by decide +kernel,by decide +kernel⟩
theorem nd_paper_of_1:((["column"]:List Str)++(["sea", "draught", "fairway", "side", "lane"]:List Str)).Nodup:=by decide +kernel
def Vt(m e:Nat→Int)(c:Int):D:=.tup [optD (Ct m e c),.int c]
def Dk(CS CD CF CU T0:Addr)(q:Str):DSp:=fun ds G Q E=>∃a dd w u,ds=[a,dd,w,u]∧G T0=some (.tbl q)∧LnX CS CD CF CU G E a dd w u fun _ _ _ _ _=>∀xs,Q (.tup xs) G
theorem P6{f CS CD CF CU:Addr}{fd:FuncData}{q:Str}(F:Fun K "paper_of" "paper_of" s_paper_of f fd)(T:Sz P w K mg C aS)(Ahy:Def P w K mg base (CX1 P w) 11 "lane_of" p_lane_of (spLaneX CS CD CF CU T0 q))(Ah1:Def P w K mg base CX0 2 "start_of_stretch" p_start_of_stretch spStart)(Ah0:Def P w K mg base CX0 1 "columns_wanted" Aw Fm):FnOk P w K mg base (CX1 P w) 12 f fd Cb (liftSp K (Dk CS CD CF CU T0 q)):=by
 refine okX F sc_paper_of (fun ds G Q E h=>?_) (fun cdv A outer s H XE ds G Q E hr h hE=>?_)
 ·obtain⟨_,_,_,_,rfl,_⟩:=h;rfl
 ·obtain⟨a,dd,wd,ud,rfl,hT,L⟩:=h;refine⟨_,#["d",#["0",4,sc_paper_of.nd,#["L",(Fx E),Ahy,hr,(passX hE),#["c",#["a",0],#["c",#["a",1],#["c",#["a",2],#["b",#["a",3]]]]]]],#["e",#["g",#["N",T,#["b",#["O",["column"],["sea", "draught", "fairway", "side", "lane"],#["f",Ah0,hr,#["b",#["m",4]]],#["l",0,nd_paper_of_1],#["G",#["c",#["f",Ah1,hr,#["c",#["m",5],#["b",#["a",0]]]],#["b",#["a",0]]]]]]]]]],?_⟩;simp![];refine L.lane hT (fun _ z=>Fx.of z) fun s h d ws u ea ed ew eu ok k l hl=>?_;subst ea ed ew eu;have hw:=ok.sea.wide;refine⟨l,s,h,d,ws,_,rfl,ok,Aa,fun p hp=>?_⟩;have sb2:Sub G (Ab (Ab G l (.lst (Bj s d ws (Al u).2))) p (.lst ((A3 (A0 ws (Al u).2) (A4 s d ws (Al u).2) (s.length-1)).2.map D.int))):=(Sub.new hl).trans (Sub.new hp);have vl:LaneAt (Ab (Ab G l (.lst (Bj s d ws (Al u).2))) p (.lst ((A3 (A0 ws (Al u).2) (A4 s d ws (Al u).2) (s.length-1)).2.map D.int))) l s d ws (Al u).2:=Ah Aa hp;have vp:Ab (Ab G l (.lst (Bj s d ws (Al u).2))) p (.lst ((A3 (A0 ws (Al u).2) (A4 s d ws (Al u).2) (s.length-1)).2.map D.int)) p=some (.lst ((A3 (A0 ws (Al u).2) (A4 s d ws (Al u).2) (s.length-1)).2.map D.int)):=Aa;generalize Ab (Ab G l (.lst (Bj s d ws (Al u).2))) p (.lst ((A3 (A0 ws (Al u).2) (A4 s d ws (Al u).2) (s.length-1)).2.map D.int))=G2 at *;obtain⟨co,lL⟩:=Tj (m:=A0 ws (Al u).2) (e:=A4 s d ws (Al u).2) hw;generalize (A3 (A0 ws (Al u).2) (A4 s d ws (Al u).2) (s.length-1)).2=tL at *;generalize (Al u).2=t at *;refine⟨_,Av vp,fun p2 hp2=>?_⟩;have hz:(tL.map D.int).length<sizeLine:=by rw[List.length_map,sizeLine_eq];omega
  refine A8 (fun x=>Vt (A0 ws t) (A4 s d ws t) (Ax x)) (fun _=>true) hz (fun _=>Av (Ah vp hp2)) (by decide) (fun x ys hx hl' R1 R2 g1 _=>?_) ?_
  ·obtain⟨c,hc,rfl⟩:=List.mem_map.mp hx;have hc:=co.inn c hc;simp![hl'];exact⟨l,s,h,d,ws,t,c,rfl,ok,Ah vl hp2,hc.1,by omega,szl (by decide),Aa,by rw[B4];exact Fg.of (g1 rfl)⟩
  ·refine⟨_,Av Aa,G,sb2.trans (Sub.new hp2),?_⟩;rw[Bb,List.map_map];exact k _
end
section
variable{P:Program}{w:World}{K:W.Frag}{mg:Str→Option Value}{base:Heap}
structure PartF(s:List (List Int))(h:Nat)(d:Int)(ws:List Int)(i:Nat)(row:Int):Prop where
 sl:s.length=i
 wl:ws.length=i
 col:∀c∈s,c.length=h∧∀x∈c,0≤x∧x≤9
 rwo:∀j:Nat,j<i→0≤ws.getD j 0∧ws.getD j 0<h∧d≤(s.getD j []).getD (ws.getD j 0).toNat 0
 step:∀j:Nat,j+1<i→ws.getD (j+1) 0-ws.getD j 0≤1∧ws.getD j 0-ws.getD (j+1) 0≤1
 r0:0≤row
 r1:row<h
 last:∀j:Nat,j+1=i→ws.getD j 0=row
theorem N0{α:Type}{l:List α}{x z:α}{j:Nat}(h:j<l.length):(l++[x]).getD j z=l.getD j z:=by
 rw[List.getD_eq_getElem?_getD,List.getD_eq_getElem?_getD,List.getElem?_append_left h]
theorem N1{α:Type}{l:List α}{x z:α}:(l++[x]).getD l.length z=x:=by
 rw[List.getD_eq_getElem?_getD,List.getElem?_append_right (Nat.le_refl _),Nat.sub_self];rfl
theorem PartF.snoc{s:List (List Int)}{h:Nat}{d:Int}{ws:List Int}{i:Nat}{row row':Int}{c:List Int}(p:PartF s h d ws i row)(h1:row'-row≤1)(h2:row-row'≤1)(r0:0≤row')(r1:row'<h)(hc:c.length=h)(hx:∀x∈c,0≤x∧x≤9)(hd:d≤c.getD row'.toNat 0):PartF (s++[c]) h d (ws++[row']) (i+1) row':=by
 have e1:∀j,j<i→(ws++[row']).getD j 0=ws.getD j 0:=fun j hj=>N0 (by rw[p.wl];exact hj)
 have e2:(ws++[row']).getD i 0=row':=by rw[←p.wl];exact N1
 have e3:∀j,j<i→(s++[c]).getD j []=s.getD j []:=fun j hj=>N0 (by rw[p.sl];exact hj)
 have e4:(s++[c]).getD i []=c:=by rw[←p.sl];exact N1
 refine⟨by simp[p.sl],by simp[p.wl],fun x hx'=>?_,fun j hj=>?_,fun j hj=>?_,r0,r1,fun j hj=>?_⟩
 ·rcases List.mem_append.mp hx' with z|z
  ·exact p.col x z
  ·rw[List.mem_singleton.mp z];exact⟨hc,hx⟩
 ·by_cases z:j<i
  ·rw[e1 j z,e3 j z];exact p.rwo j z
  ·rw[show j=i by omega,e2,e4];exact⟨r0,r1,hd⟩
 ·by_cases z:j+1<i
  ·rw[e1 j (by omega),e1 (j+1) z];exact p.step j z
  ·rw[show j+1=i by omega,e2,e1 j (by omega),p.last j (by omega)];exact⟨h1,h2⟩
 ·rw[show j=i by omega,e2]
theorem PartF.ok{s:List (List Int)}{h:Nat}{d:Int}{ws:List Int}{i:Nat}{row:Int}(p:PartF s h d ws i row)(hi:2≤i∧i≤16)(hh:1≤h∧h≤9)(d1:1≤d)(d9:d≤9):FairOk s h d ws:=
 ⟨⟨by rw[p.sl];exact hi,hh,p.col⟩,d1,d9,by rw[p.wl,p.sl],fun j hj=>p.rwo j (by rw[←p.sl];exact hj),fun j hj=>p.step j (by rw[←p.sl];exact hj)⟩
abbrev s_L_fair:Stmt:=top 117
abbrev X1:List Str:=["_law_box_here", "_law_most", "_law_count", "_law_high", "_law_draught", "_law_row", "_law_rows", "_law_some", "_law_columns", "_law_column", "_law_depths", "_law_here", "_law_low"]
abbrev p_L_fair:List Str:=["_law_box_here", "_law_most"]
theorem sc_L_fair:FnScope X1 p_L_fair (defScope s_L_fair):=⟨rfl,rfl,rfl,by decide +kernel,rfl,by decide +kernel,by decide +kernel⟩
def spFair:DSp:=fun ds G Q _=>∃a mo,ds=[.ref a,.int mo]∧2≤mo∧mo≤16∧(∃b,G a=some (.lst [.int b]))∧∀s h d ws G',FairOk s h d ws→Step a G G'→Q (.tup [seaD s,.int d,Ai ws]) G'
theorem Zi{f:Addr}{fd:FuncData}(F:Fun K "_law_fair" "_law_fair" s_L_fair f fd)(T:Blt mg)(Ahw:Def P w K mg base CX0 1 "_law_take" p_L_take spTake):FnOk P w K mg base CX0 2 f fd p_L_fair (liftSp K spFair):=by
 refine okD F sc_L_fair (fun ds G Q E h=>?_) (fun cdv A outer s H XE ds G Q E hr h=>?_)
 ·obtain⟨a,_,rfl,_⟩:=h;rfl
 ·obtain⟨a,mo,rfl,mo2,mo16,hG,q⟩:=h;refine⟨_,#["d",#["ay",2,3,4,sc_L_fair.nd,#["c",#["aa",#["f",Ahw,hr,#["c",#["a",0],#["b",#["T",#["a",1]]]]]],#["c",#["aa",#["f",Ahw,hr,#["D",#["a",0]]]],#["b",#["aa",#["f",Ahw,hr,#["D",#["a",0]]]]]]]],#["d",#["ay",5,6,7,sc_L_fair.nd,#["c",#["f",Ahw,hr,#["c",#["a",0],#["b",#["a",3]]]],#["aw",#["b",#["aa",#["f",Ahw,hr,#["D",#["a",0]]]]]]]],#["d",#["S",8,sc_L_fair.nd],#["d",#["9",T,#["b",#["a",2]],#["k",9,sc_L_fair.nd],#["d",#["i",5,sc_L_fair.nd,#["az",T,#["c",#["T",#["a",3]],#["b",#["aA",T,#["z",#["b",#["T",#["s",#["a",5],#["f",Ahw,hr,#["D",#["a",0]]]]]]]]]]]],#["d",#["u",#["M",#["a",6],#["a",5]]],#["d",#["S",10,sc_L_fair.nd],#["d",#["9",T,#["b",#["a",3]],#["k",11,sc_L_fair.nd],#["d",#["i",12,sc_L_fair.nd,#["al",(@o_eq _),#["f",Ahw,hr,#["c",#["a",0],#["b",#["W",#["a",7]]]]],#["V"]]],#["e",#["u",#["M",#["a",10],#["am",#["h",#["a",12]],#["f",Ahw,hr,#["c",#["a",0],#["b",#["a",4]]]],#["s",#["a",4],#["f",Ahw,hr,#["c",#["a",0],#["b",#["aB",#["a",4]]]]]]]]]]]],#["d",#["J",#["s",#["a",4],#["f",Ahw,hr,#["c",#["a",0],#["b",#["aB",#["a",4]]]]]],#["ap",#["a",10],#["a",5],(@s_list _)]],#["e",#["u",#["M",#["a",8],#["N",T,#["b",#["a",10]]]]]]]]]]]],#["e",#["g",#["G",#["c",#["N",T,#["b",#["a",8]]],#["c",#["a",4],#["b",#["N",T,#["b",#["a",6]]]]]]]]]]]]],?_⟩;have sz0:0≤sizeLine:=Nat.zero_le _;simp![sz0];refine Bs hG (by omega) (by omega) fun n0 b1 n00 n01=>?_
  have s1:=(Step.refl hG).take b1;generalize Ab G a (.lst [.int b1])=G1 at *;rw[Dg];refine Bs s1.box (by decide) (by decide) fun h0 b2 h00 h01=>?_
  have s2:=s1.take b2;generalize Ab G1 a (.lst [.int b2])=G2 at *;rw[Dg];refine Bs s2.box (by decide) (by decide) fun d0 b3 d00 d01=>?_
  have s3:=s2.take b3;generalize Ab G2 a (.lst [.int b3])=G3 at *;rw[Dg];obtain⟨cnt,hcnt⟩:=Int.eq_ofNat_of_zero_le (show 0≤2+n0 by omega)
  obtain⟨h,hh⟩:=Int.eq_ofNat_of_zero_le (show 0≤1+h0 by omega)
  have hd1:1≤1+d0:=by omega
  have hd9:1+d0≤9:=by omega
  have c2:2≤cnt∧cnt≤16:=by omega
  have h19:1≤h∧h≤9:=by omega
  rw[hcnt,hh];generalize 1+d0=d at *;refine Bs (c:=(h:Int)) s3.box (by omega) (by omega) fun r0 b4 r00 r01=>?_
  have s4:=s3.take b4;generalize Ab G3 a (.lst [.int b4])=G4 at *;intro pr hpr;have npr:=Step.ne s4.box hpr;have gpr:=s4.back hpr;have s5:=s4.lay (o:=.lst []) hpr;have vr:Ab G4 pr (.lst []) pr=some (.lst []):=Aa;generalize Ab G4 pr (.lst [])=G5 at *;refine Bs s5.box (by decide) (by decide) fun m0 b6 m00 m01=>?_
  have s6:=s5.take b6;have vr:Ab G5 a (.lst [.int b6]) pr=some (.lst []):=by rw[Ad npr.symm];exact vr
  generalize Ab G5 a (.lst [.int b6])=G6 at *;rw[Dg];have sm0:0<1+m0+1:=by omega
  have sm1:1+m0+1<1073741824:=by omega
  generalize 1+m0=sm at *;intro pc hpc;have npc:=Step.ne s6.box hpc;have gpc:=s6.back hpc;have npp:pr≠pc:=gne vr hpc;have s7:=s6.lay (o:=.lst []) hpc;have vr:=Ah (u:=.lst []) vr hpc;have vc:Ab G6 pc (.lst []) pc=some (.lst []):=Aa;generalize Ab G6 pc (.lst [])=G7 at *;refine⟨_,rfl,by omega,by omega,?_⟩
  rw[Int.toNat_natCast];refine Bn (fun i σ G'=>∃row s ws v1 v2 v3 v4,σ=[some (.ref a),some (.int mo),some (.int (cnt:Nat)),some (.int (h:Nat)),some (.int d),some (.int row),some (.ref pr),some (.int sm),some (.ref pc),v1,v2,v3,v4]∧Step a G G'∧G' pr=some (.lst (ws.map D.int))∧G' pc=some (.lst (s.map Ai))∧PartF s h d ws i row) ⟨r0,[],[],none,none,none,none,rfl,s7,vr,vc,⟨rfl,rfl,fun c hc=>(by cases hc),fun j hj=>absurd hj (by omega),fun j hj=>absurd hj (by omega),r00,r01,fun j hj=>absurd hj (by omega)⟩⟩ ?_ ?_
  ·rintro i σ G8 hi ⟨row,s,ws,v1,v2,v3,v4,rfl,s8,vr,vc,pf⟩;simp![];refine Bs s8.box (by decide) (by decide) fun t0 b9 t00 t01=>?_
   have s9:=s8.take b9;have vr:Ab G8 a (.lst [.int b9]) pr=some (.lst (ws.map D.int)):=by rw[Ad npr.symm];exact vr
   have vc:Ab G8 a (.lst [.int b9]) pc=some (.lst (s.map Ai)):=by rw[Ad npc.symm];exact vc
   generalize Ab G8 a (.lst [.int b9])=G9 at *;rw[Dg];have hrow:∃row',(if (if row+t0-1>0 then row+t0-1 else 0)<(h:Int)-1 then (if row+t0-1>0 then row+t0-1 else 0) else (h:Int)-1)=row'∧row'-row≤1∧row-row'≤1∧0≤row'∧row'<h:=by
    have:=pf.r0
    have:=pf.r1
    refine⟨_,rfl,?_⟩
    by_cases z1:row+t0-1>0
    ·rw[if_pos z1]
     by_cases z2:row+t0-1<(h:Int)-1
     ·rw[if_pos z2];omega
     ·rw[if_neg z2];omega
    ·rw[if_neg z1]
     by_cases z2:0<(h:Int)-1
     ·rw[if_pos z2];omega
     ·rw[if_neg z2];omega
   obtain⟨row',er,q1,q2,q3,q4⟩:=hrow;simp![vr];rw[er];refine⟨⟨_,rfl⟩,by rw[List.length_map,pf.wl,sizeLine_eq];omega,Nat.zero_le _,?_⟩
   have s10:=s9.write (o:=.lst (ws.map D.int++[.int row'])) gpr npr;have vr:Ab G9 pr (.lst (ws.map D.int++[.int row'])) pr=some (.lst ((ws++[row']).map D.int)):=by rw[Aa,List.map_append];rfl
   have vc:Ab G9 pr (.lst (ws.map D.int++[.int row'])) pc=some (.lst (s.map Ai)):=by rw[Ad npp.symm];exact vc
   generalize Ab G9 pr (.lst (ws.map D.int++[.int row']))=G10 at *;intro pd hpd;have npd:=Step.ne s10.box hpd;have gpd:=s10.back hpd;have nrd:pr≠pd:=gne vr hpd;have ncd:pc≠pd:=gne vc hpd;have s11:=s10.lay (o:=.lst []) hpd;have vr:=Ah (u:=.lst []) vr hpd;have vc:=Ah (u:=.lst []) vc hpd;have vd:Ab G10 pd (.lst []) pd=some (.lst []):=Aa;generalize Ab G10 pd (.lst [])=G11 at *;refine⟨by omega,by omega,?_⟩
   rw[Int.toNat_natCast];refine Bn (fun j σ G'=>∃dl v3 v4,σ=[some (.ref a),some (.int mo),some (.int (cnt:Nat)),some (.int (h:Nat)),some (.int d),some (.int row'),some (.ref pr),some (.int sm),some (.ref pc),some (.int (i:Nat)),some (.ref pd),v3,v4]∧Step a G G'∧G' pr=some (.lst ((ws++[row']).map D.int))∧G' pc=some (.lst (s.map Ai))∧G' pd=some (.lst (dl.map D.int))∧dl.length=j∧∀x∈dl,0≤x∧x≤9) ⟨[],_,_,rfl,s11,vr,vc,vd,rfl,fun x hx=>by cases hx⟩ ?_ ?_
   ·rintro j σ G12 hj ⟨dl,v3,v4,rfl,s12,vr,vc,vd,hl,hx⟩;simp![];refine Bs s12.box (by omega) (by omega) fun t1 b13 t10 t11=>?_
    have s13:=s12.take b13;have vr:Ab G12 a (.lst [.int b13]) pr=some (.lst ((ws++[row']).map D.int)):=by rw[Ad npr.symm];exact vr
    have vc:Ab G12 a (.lst [.int b13]) pc=some (.lst (s.map Ai)):=by rw[Ad npc.symm];exact vc
    have vd:Ab G12 a (.lst [.int b13]) pd=some (.lst (dl.map D.int)):=by rw[Ad npd.symm];exact vd
    generalize Ab G12 a (.lst [.int b13])=G13 at *;have szd:(dl.map D.int).length<sizeLine:=by rw[List.length_map,hl,sizeLine_eq];omega
    have hx':∀x:Int,0≤x→x≤9→∀y∈dl++[x],0≤y∧y≤9:=fun x x0 x9 y hy=>by
     rcases List.mem_append.mp hy with z|z
     ·exact hx y z
     ·rw[List.mem_singleton.mp z];exact⟨x0,x9⟩
    simp![vd];refine⟨⟨_,rfl⟩,decide (t1=0),rfl,?_⟩
    by_cases z:t1=0
    ·refine it0 (by simpa using z) (Bs s13.box (by omega) (by omega) fun x b x0 x1=>?_)
     exact⟨_,by rw[Ad npd.symm];exact vd,szd,Fs.of ⟨dl++[x],_,_,rfl,(s13.take b).write gpd npd,by rw[Ad nrd,Ad npr.symm];exact vr,by rw[Ad ncd,Ad npc.symm];exact vc,by rw[Aa,List.map_append];rfl,by simp[hl],hx' x x0 (by omega)⟩⟩
    ·refine it1 (by simpa using z) (Bs s13.box (by omega) (by omega) fun x b x0 x1=>?_)
     rw[Dg];exact⟨_,by rw[Ad npd.symm];exact vd,szd,Fs.of ⟨dl++[d+x],_,_,rfl,(s13.take b).write gpd npd,by rw[Ad nrd,Ad npr.symm];exact vr,by rw[Ad ncd,Ad npc.symm];exact vc,by rw[Aa,List.map_append];rfl,by simp[hl],hx' (d+x) (by omega) (by omega)⟩⟩
   ·rintro σ G12 ⟨dl,v3,v4,rfl,s12,vr,vc,vd,hl,hx⟩;simp![];refine Bs s12.box (by omega) (by omega) fun t1 b13 t10 t11=>?_
    have s13:=s12.take b13;have vr:Ab G12 a (.lst [.int b13]) pr=some (.lst ((ws++[row']).map D.int)):=by rw[Ad npr.symm];exact vr
    have vc:Ab G12 a (.lst [.int b13]) pc=some (.lst (s.map Ai)):=by rw[Ad npc.symm];exact vc
    have vd:Ab G12 a (.lst [.int b13]) pd=some (.lst (dl.map D.int)):=by rw[Ad npd.symm];exact vd
    generalize Ab G12 a (.lst [.int b13])=G13 at *;rw[Dg];simp![vd];obtain⟨k,rfl⟩:=Int.eq_ofNat_of_zero_le q3;have hk:k<dl.length:=by omega
    refine⟨k,by unfold ixN;rw[if_pos (by omega),if_pos (by rw[List.length_map];omega)];simp,⟨_,by rw[Ad ncd];exact vc⟩,_,Av Aa,_,by rw[Ad ncd];exact vc,by rw[List.length_map,pf.sl,sizeLine_eq];omega,Fs.of ⟨(k:Nat),s++[dl.set k (d+t1)],ws++[((k:Nat):Int)],_,_,_,_,rfl,(s13.write gpd npd).write gpc npc,by rw[Ad npp,Ad nrd];exact vr,?_,pf.snoc q1 q2 q3 q4 (by simp[hl]) (fun x hx'=>?_) ?_⟩⟩
    ·rw[Aa,List.map_append,←List.map_set];rfl
    ·rcases List.mem_or_eq_of_mem_set hx' with z|z
     ·exact hx x z
     ·rw[z];omega
    ·simp[List.getD_eq_getElem?_getD,hk];omega
  ·rintro σ G8 ⟨row,s,ws,v1,v2,v3,v4,rfl,s8,vr,vc,pf⟩;simp![];exact⟨_,Av vc,_,Av vr,szl (by decide),Fq.of (q s h d ws G8 (pf.ok c2 h19 hd1 hd9) s8)⟩
abbrev Da:List Str:=["NoSea", "NoCell", "NoDraught", "NoDay", "NoNotices", "NoNumber", "NoMark", "NoChannel", "NoSightings", "NoFairway", "NoSide", "NoColumns", "NoLine", "There", "Nothing", "Unlike", "NoText", "TooMany"]
abbrev kindNames:List Str:=["sea", "cell", "draught", "day", "notices", "number", "mark", "channel", "sightings", "fairway", "side", "columns", "line", "there", "nothing"]
def E9(tbl:List (Str×Addr))(x:Str):Addr:=(tbl.lookup x).getD 0
structure Cls(K:W.Frag)(mg:Str→Option Value)(tbl:List (Str×Addr)):Prop where
 mg:∀x:Str,x∈Da→mg x=some (.ref (E9 tbl x))
 own:∀x:Str,x∈Da→OwnK K (E9 tbl x)
structure ExKind(K:W.Frag)(tbl:List (Str×Addr))(C:Addr)(i:Nat):Prop where
 ec:ExcCl K C
 ve:W.mroIn K C (.type "ValueError")=some true
 lt:i<15
 ms:∀(j:Nat) (x:Str),Da[j]? = some x→W.mroIn K C (.ref (E9 tbl x))=some (j == i)∧(C=E9 tbl x→(j == i)=true)
theorem isx{tbl:List (Str×Addr)}{G:Gp}{a C:Addr}{i:Nat}{Q:DK}(Z:Cls K mg tbl)(hG:G a=some (.any (excIs C)))(k:ExKind K tbl C i)(j:Nat){x:Str}(hj:Da[j]? = some x)(q:Q (.bl (j == i)) G):rIsE K [.ref a,.ref (E9 tbl x)] G Q:=
 ⟨a,C,_,_,rfl,hG,k.ec,Z.own x (List.mem_of_getElem? hj),(k.ms j x hj).1,(k.ms j x hj).2,q⟩
def fl(i:Nat):List Bool:=[0 == i,1 == i,2 == i,3 == i,4 == i,5 == i,6 == i,7 == i,8 == i,9 == i,10 == i,11 == i,12 == i,13 == i,14 == i,15 == i,16 == i,17 == i]
theorem Ad6:∀i,i<15→(fl i).count true=1:=by decide
theorem Aa2:∀i,i<15→(fl i)[i]? = some true∧∀m,m<i→(fl i)[m]? = some false:=by decide
theorem Kp{G:Gp}{p q:Addr}{xs ys zs:List D}{Q:DK}(hp:G p=some (.lst xs))(hq:G q=some (.lst ys))(hz:xs++ys=zs)(hl:xs.length+ys.length≤sizeLine)(k:∀r,G r=none→Q (.ref r) (Ab G r (.lst zs))):R8 (.ref p) (.ref q) G Q:=by
 subst hz;simp only[R8,hp,hq];exact⟨hl,k⟩
abbrev wq(i:Nat):List D:=[D.bl (0 == i),D.bl (1 == i),D.bl (2 == i),D.bl (3 == i),D.bl (4 == i),D.bl (5 == i),D.bl (6 == i),D.bl (7 == i),D.bl (8 == i),D.bl (9 == i),D.bl (10 == i),D.bl (11 == i),D.bl (12 == i),D.bl (13 == i),D.bl (14 == i),D.bl (15 == i),D.bl (16 == i),D.bl (17 == i)]
abbrev wp(i:Nat):List D:=[D.bl (0 == i),D.bl (1 == i),D.bl (2 == i),D.bl (3 == i),D.bl (4 == i),D.bl (5 == i),D.bl (6 == i),D.bl (7 == i),D.bl (8 == i),D.bl (9 == i),D.bl (10 == i),D.bl (11 == i),D.bl (12 == i),D.bl (13 == i)]
abbrev wo(i:Nat):List D:=[D.bl (0 == i),D.bl (1 == i),D.bl (2 == i),D.bl (3 == i),D.bl (4 == i),D.bl (5 == i),D.bl (6 == i),D.bl (7 == i),D.bl (8 == i),D.bl (9 == i)]
abbrev wn(i:Nat):List D:=[D.bl (0 == i),D.bl (1 == i),D.bl (2 == i),D.bl (3 == i),D.bl (4 == i),D.bl (5 == i),D.bl (6 == i)]
abbrev wa(i:Nat):List D:=[D.bl (0 == i),D.bl (1 == i),D.bl (2 == i),D.bl (3 == i)]
abbrev wb(i:Nat):List D:=[D.bl (4 == i),D.bl (5 == i),D.bl (6 == i)]
abbrev wc(i:Nat):List D:=[D.bl (7 == i),D.bl (8 == i),D.bl (9 == i)]
abbrev wd(i:Nat):List D:=[D.bl (10 == i),D.bl (11 == i),D.bl (12 == i),D.bl (13 == i)]
abbrev we(i:Nat):List D:=[D.bl (14 == i),D.bl (15 == i),D.bl (16 == i),D.bl (17 == i)]
abbrev wz:List D:=[D.str "sea",D.str "cell",D.str "draught",D.str "day",D.str "notices",D.str "number",D.str "mark",D.str "channel",D.str "sightings",D.str "fairway",D.str "side",D.str "columns",D.str "line",D.str "there",D.str "nothing"]
abbrev wx:List D:=[D.str "sea",D.str "cell",D.str "draught",D.str "day",D.str "notices",D.str "number",D.str "mark",D.str "channel",D.str "sightings",D.str "fairway"]
abbrev wy:List D:=[D.str "side",D.str "columns",D.str "line",D.str "there",D.str "nothing"]
abbrev s_L_which:Stmt:=top 118
abbrev T3:List Str:=["_law_e", "_law_marks", "_law_names"]
abbrev p_L_which:List Str:=["_law_e"]
theorem sc_L_which:FnScope T3 p_L_which (defScope s_L_which):=⟨rfl,rfl,rfl,by decide +kernel,rfl,by decide +kernel,by decide +kernel⟩
def Be(K:W.Frag)(tbl:List (Str×Addr)):DSp:=fun ds G Q _=>∃a C i,ds=[.ref a]∧G a=some (.any (excIs C))∧ExKind K tbl C i∧Q (.tup [.str (kindNames.getD i "")]) G
theorem Wq{tbl:List (Str×Addr)}{f:Addr}{fd:FuncData}(F:Fun K "_law_which" "_law_which" s_L_which f fd)(T:Blt mg)(Z:Cls K mg tbl):FnH P w K mg base CX0 1 f fd p_L_which (liftSp K (Be K tbl)):=by
 refine okH F sc_L_which (fun ds G Q E h=>?_) (fun cdv A outer s H XE ds G Q E hr h=>?_)
 ·obtain⟨a,C,i,rfl,_⟩:=h;rfl
 ·obtain⟨a,C,i,rfl,hG,hk,q⟩:=h;refine⟨_,#["d",#["i",1,sc_L_which.nd,#["I",#["c",#["r",T,#["c",#["a",0],#["b",#["o",(Z.mg "NoSea" (by decide))]]]],#["c",#["r",T,#["c",#["a",0],#["b",#["o",(Z.mg "NoCell" (by decide))]]]],#["c",#["r",T,#["c",#["a",0],#["b",#["o",(Z.mg "NoDraught" (by decide))]]]],#["b",#["r",T,#["c",#["a",0],#["b",#["o",(Z.mg "NoDay" (by decide))]]]]]]]]]],#["d",#["i",1,sc_L_which.nd,#["s",#["a",1],#["I",#["c",#["r",T,#["c",#["a",0],#["b",#["o",(Z.mg "NoNotices" (by decide))]]]],#["c",#["r",T,#["c",#["a",0],#["b",#["o",(Z.mg "NoNumber" (by decide))]]]],#["b",#["r",T,#["c",#["a",0],#["b",#["o",(Z.mg "NoMark" (by decide))]]]]]]]]]],#["d",#["i",1,sc_L_which.nd,#["s",#["a",1],#["I",#["c",#["r",T,#["c",#["a",0],#["b",#["o",(Z.mg "NoChannel" (by decide))]]]],#["c",#["r",T,#["c",#["a",0],#["b",#["o",(Z.mg "NoSightings" (by decide))]]]],#["b",#["r",T,#["c",#["a",0],#["b",#["o",(Z.mg "NoFairway" (by decide))]]]]]]]]]],#["d",#["i",1,sc_L_which.nd,#["s",#["a",1],#["I",#["c",#["r",T,#["c",#["a",0],#["b",#["o",(Z.mg "NoSide" (by decide))]]]],#["c",#["r",T,#["c",#["a",0],#["b",#["o",(Z.mg "NoColumns" (by decide))]]]],#["c",#["r",T,#["c",#["a",0],#["b",#["o",(Z.mg "NoLine" (by decide))]]]],#["b",#["r",T,#["c",#["a",0],#["b",#["o",(Z.mg "There" (by decide))]]]]]]]]]]],#["d",#["i",1,sc_L_which.nd,#["s",#["a",1],#["I",#["c",#["r",T,#["c",#["a",0],#["b",#["o",(Z.mg "Nothing" (by decide))]]]],#["c",#["r",T,#["c",#["a",0],#["b",#["o",(Z.mg "Unlike" (by decide))]]]],#["c",#["r",T,#["c",#["a",0],#["b",#["o",(Z.mg "NoText" (by decide))]]]],#["b",#["r",T,#["c",#["a",0],#["b",#["o",(Z.mg "TooMany" (by decide))]]]]]]]]]]],#["d",(@qs_if _ _ _ _ _ _ _ _ #["t",#["B",#["j",#["h",#["aZ",T,#["c",#["a",0],#["b",#["A","ValueError",T]]]]]],#["C",#["ax",#["a0",#["a",1],(@q_bl _ _ _ _)]]]]] #["e",#["g",#["a1"]]] (@qss_nil _)),#["d",#["an",#["h",#["p",#["a",1]]]],#["d",#["an",#["h",#["p",#["a",1]]]],#["d",#["an",#["h",#["p",#["a",1]]]],#["d",#["a2",2,sc_L_which.nd],#["e",#["g",#["G",#["b",#["E",#["a3",#["a",2]],#["a4",#["a",1],(@q_bl _ _ _ _)]]]]]]]]]]]]]]]],?_⟩
  simp![];have z4:4≤sizeLine:=szl (by decide)
  have z3:3≤sizeLine:=szl (by decide)
  refine isx Z hG hk 0 rfl ?_;refine isx Z hG hk 1 rfl ?_;refine isx Z hG hk 2 rfl ?_;refine isx Z hG hk 3 rfl ?_;refine⟨z4,fun p1 h1=>?_⟩;have b1:Ab G p1 (.lst (wa i)) p1=some (.lst (wa i)):=Aa;have e1:=Ah (u:=.lst (wa i)) hG h1;have s1:Sub G (Ab G p1 (.lst (wa i))):=(Sub.refl G).skip h1;generalize Ab G p1 (.lst (wa i))=G1 at *;have t1:=s1;refine isx Z e1 hk 4 rfl ?_;refine isx Z e1 hk 5 rfl ?_;refine isx Z e1 hk 6 rfl ?_;refine⟨z3,fun p2 h2=>?_⟩;have b2:Ab G1 p2 (.lst (wb i)) p2=some (.lst (wb i)):=Aa;have e2:=Ah (u:=.lst (wb i)) e1 h2;have a2:=Ah (u:=.lst (wb i)) b1 h2;have s2:Sub G (Ab G1 p2 (.lst (wb i))):=t1.skip h2;generalize Ab G1 p2 (.lst (wb i))=G2 at *;refine Kp (zs:=(wn i)) a2 b2 rfl (by simpa using szl (n:=7) (by decide)) fun r2 k2=>?_
  have c2:Ab G2 r2 (.lst (wn i)) r2=some (.lst (wn i)):=Aa;have d2:=Ah (u:=.lst (wn i)) e2 k2;have t2:Sub G (Ab G2 r2 (.lst (wn i))):=s2.skip k2;generalize Ab G2 r2 (.lst (wn i))=H2 at *;refine isx Z d2 hk 7 rfl ?_;refine isx Z d2 hk 8 rfl ?_;refine isx Z d2 hk 9 rfl ?_;refine⟨z3,fun p3 h3=>?_⟩;have b3:Ab H2 p3 (.lst (wc i)) p3=some (.lst (wc i)):=Aa;have e3:=Ah (u:=.lst (wc i)) d2 h3;have a3:=Ah (u:=.lst (wc i)) c2 h3;have s3:Sub G (Ab H2 p3 (.lst (wc i))):=t2.skip h3;generalize Ab H2 p3 (.lst (wc i))=G3 at *;refine Kp (zs:=(wo i)) a3 b3 rfl (by simpa using szl (n:=10) (by decide)) fun r3 k3=>?_
  have c3:Ab G3 r3 (.lst (wo i)) r3=some (.lst (wo i)):=Aa;have d3:=Ah (u:=.lst (wo i)) e3 k3;have t3:Sub G (Ab G3 r3 (.lst (wo i))):=s3.skip k3;generalize Ab G3 r3 (.lst (wo i))=H3 at *;refine isx Z d3 hk 10 rfl ?_;refine isx Z d3 hk 11 rfl ?_;refine isx Z d3 hk 12 rfl ?_;refine isx Z d3 hk 13 rfl ?_;refine⟨z4,fun p4 h4=>?_⟩;have b4:Ab H3 p4 (.lst (wd i)) p4=some (.lst (wd i)):=Aa;have e4:=Ah (u:=.lst (wd i)) d3 h4;have a4:=Ah (u:=.lst (wd i)) c3 h4;have s4:Sub G (Ab H3 p4 (.lst (wd i))):=t3.skip h4;generalize Ab H3 p4 (.lst (wd i))=G4 at *;refine Kp (zs:=(wp i)) a4 b4 rfl (by simpa using szl (n:=14) (by decide)) fun r4 k4=>?_
  have c4:Ab G4 r4 (.lst (wp i)) r4=some (.lst (wp i)):=Aa;have d4:=Ah (u:=.lst (wp i)) e4 k4;have t4:Sub G (Ab G4 r4 (.lst (wp i))):=s4.skip k4;generalize Ab G4 r4 (.lst (wp i))=H4 at *;refine isx Z d4 hk 14 rfl ?_;refine isx Z d4 hk 15 rfl ?_;refine isx Z d4 hk 16 rfl ?_;refine isx Z d4 hk 17 rfl ?_;refine⟨z4,fun p5 h5=>?_⟩;have b5:Ab H4 p5 (.lst (we i)) p5=some (.lst (we i)):=Aa;have e5:=Ah (u:=.lst (we i)) d4 h5;have a5:=Ah (u:=.lst (we i)) c4 h5;have s5:Sub G (Ab H4 p5 (.lst (we i))):=t4.skip h5;generalize Ab H4 p5 (.lst (we i))=G5 at *;refine Kp (zs:=(wq i)) a5 b5 rfl (by simpa using szl (n:=18) (by decide)) fun r5 k5=>?_
  have c5:Ab G5 r5 (.lst (wq i)) r5=some (.lst (wq i)):=Aa;have d5:=Ah (u:=.lst (wq i)) e5 k5;have t5:Sub G (Ab G5 r5 (.lst (wq i))):=s5.skip k5;generalize Ab G5 r5 (.lst (wq i))=H5 at *;have c6:H5 r5=some (.lst ((fl i).map D.bl)):=c5;refine⟨a,C,true,rfl,d5,hk.ec,hk.ve,true,rfl,it1 (by decide) ⟨r5,rfl,⟨_,c5⟩,fl i,c6,?_⟩⟩
  rw[Ad6 i hk.lt];have lt:=hk.lt;have f15:(15 == i)=false:=beq_eq_false_iff_ne.mpr (by omega)
  have f16:(16 == i)=false:=beq_eq_false_iff_ne.mpr (by omega)
  have f17:(17 == i)=false:=beq_eq_false_iff_ne.mpr (by omega)
  refine it1 (by decide) ⟨.bl (15 == i),by rw[Ba c5];rfl,false,by rw[f15];rfl,it1 (by decide) ⟨.bl (16 == i),by rw[Ba c5];rfl,false,by rw[f16];rfl,it1 (by decide) ⟨.bl (17 == i),by rw[Ba c5];rfl,false,by rw[f17];rfl,it1 (by decide) ?_⟩⟩⟩
  refine⟨szl (by decide),fun p6 h6=>?_⟩
  have b6:Ab H5 p6 (.lst wx) p6=some (.lst wx):=Aa;have a6:=Ah (u:=.lst wx) c6 h6;have s6:Sub G (Ab H5 p6 (.lst wx)):=t5.skip h6;generalize Ab H5 p6 (.lst wx)=G6 at *;refine⟨szl (by decide),fun p7 h7=>?_⟩
  have b7:Ab G6 p7 (.lst wy) p7=some (.lst wy):=Aa;have d7:=Ah (u:=.lst wy) b6 h7;have a7:=Ah (u:=.lst wy) a6 h7;have s7:Sub G (Ab G6 p7 (.lst wy)):=s6.skip h7;generalize Ab G6 p7 (.lst wy)=G7 at *;refine Kp (zs:=wz) d7 b7 rfl (by simpa using szl (n:=15) (by decide)) fun r8 k8=>?_
  have c8:Ab G7 r8 (.lst wz) r8=some (.lst wz):=Aa;have a8:=Ah (u:=.lst wz) a7 k8;have s8:Sub G (Ab G7 r8 (.lst wz)):=s7.skip k8;generalize Ab G7 r8 (.lst wz)=G8 at *;have nm:∀i,i<15→(kindNames.map D.str)[i]? = some (D.str (kindNames.getD i "")):=fun i hi=>by
   rw[List.getElem?_map,List.getD,List.getElem?_eq_getElem (show i<kindNames.length from hi)];rfl
  exact⟨r5,rfl,⟨_,a8⟩,fl i,a8,i,(Aa2 i lt).1,(Aa2 i lt).2,_,by rw[Ba c8];exact Vm (nm i lt),szl (by decide),G,s8,q⟩
abbrev s_L_said:Stmt:=top 119
abbrev X0:List Str:=["_law_call", "_law_e"]
abbrev Fn:List Str:=["_law_call"]
theorem Si:FnScope X0 Fn (defScope s_L_said):=⟨rfl,rfl,rfl,by decide +kernel,rfl,by decide +kernel,by decide +kernel⟩
theorem Zc{tbl:List (Str×Addr)}{f M:Addr}{fd:FuncData}{tm:List Value}{k kr:Nat}(F:Fun K "_law_said" "_law_said" s_L_said f fd)(hM:ExcK K "MarkError" M)(hmg:mg "MarkError" = some (.ref M))(hmM:mroK K M=some (.ref M::tm))(hB:tm.contains (.type "BaseException")=true){fw:Addr}{fdw:FuncData}(FW:FnH P w K mg base CX0 1 fw fdw p_L_which (liftSp K (Be K tbl)))(hmw:mg "_law_which" = some (.ref fw))(hkw:W.keepIn K (.ref fw)=true)(hbw:Binds K fdw p_L_which [])(hk1:3≤k)(hk2:kr≤k)(hms:mg "_law_said" = some (.ref f))(hbs:Binds K fd Fn []) :
  Said P w K mg base (k+1) kr "_law_said" M (Be K tbl):=by
 have kp:=F.kp;obtain⟨oc,od,kV,doc,pm,an,cdv,ct,osl,rfl,lk,hcd⟩:=F.ex;exact⟨f,_,_,Wu (cn:="_law_call") (mn:="MarkError") (en:="_law_e") (wn:="_law_which") lk hcd Si hM hmg hmM hB FW hmw hkw hbw hk1 hk2 rfl rfl (fun _ _=>rfl) (fun _ _=>rfl) (by decide) (by decide) (by decide) (by decide) (by decide) (by decide),hms,kp,hbs⟩
end
mutual
theorem L6{G G':Gp}(s:Sub G G'):∀{d:D} {p:PyData},RepD G d p→RepD G' d p
 |_,_,.non=>.non
 |_,_,.bl b=>.bl b
 |_,_,.int i=>.int i
 |_,_,.str x=>.str x
 |_,_,.tup r=>.tup (Jg s r)
 |_,_,.lst e r=>.lst (s _ _ e) (Jg s r)
 |_,_,.dct0 e=>.dct0 (s _ _ e)
theorem Jg{G G':Gp}(s:Sub G G'):∀{ds:List D} {ps:List PyData},RepDs G ds ps→RepDs G' ds ps
 |_,_,.nil=>.nil
 |_,_,.cons h t=>.cons (L6 s h) (Jg s t)
end
structure Sh(G:Gp)(b n:Nat)(d:D)(p:PyData):Prop where
 rep:RepD G d p
 ok:p.showable=true
 len:p.shown.length≤b
 dep:p.depth≤n
theorem L0:∀{ts:List Str} {b:Nat},(∀t∈ts,t.length≤b)→(ts.map (·.length)).sum≤ts.length*b
 |[],b,h=>Nat.zero_le _
 |x::r,b,h=>by
  have ih:=L0 (ts:=r) (b:=b) fun t ht=>h t (by simp[ht])
  have hx:=h x (by simp)
  rw[List.map_cons,List.sum_cons,List.length_cons,Nat.succ_mul];omega
theorem shs{G:Gp}{b n:Nat}:∀{ds:List D},(∀d∈ds,∃p,Sh G b n d p)→∃ps,RepDs G ds ps∧PyData.showableAll ps=true∧(∀t∈PyData.shownAll ps,t.length≤b)∧PyData.depthAll ps≤n∧(PyData.shownAll ps).length=ds.length
 |[],_=>⟨[],.nil,rfl,(fun t h=>by simp[PyData.shownAll] at h),Nat.zero_le _,rfl⟩
 |d::ds,h=>by
  obtain⟨p,hp⟩:=h d (by simp)
  obtain⟨ps,h1,h2,h3,h4,h5⟩:=shs (ds:=ds) fun x hx=>h x (by simp[hx])
  refine⟨p::ps,.cons hp.rep h1,?_,fun t ht=>?_,?_,?_⟩
  ·rw[PyData.showableAll,hp.ok,h2];rfl
  ·rw[PyData.shownAll] at ht;rcases List.mem_cons.mp ht with e|e
   ·rw[e];exact hp.len
   ·exact h3 t e
  ·rw[PyData.depthAll];exact Nat.max_le.mpr ⟨hp.dep,h4⟩
  ·rw[PyData.shownAll,List.length_cons,h5];rfl
theorem Abv{G:Gp}{b n c:Nat}{ds:List D}(h:∀d∈ds,∃p,Sh G b n d p)(hc:ds.length≤c):∃p,Sh G (c*(b+2)+103) (n+1) (.tup ds) p:=by
 obtain⟨ps,h1,h2,h3,h4,h5⟩:=shs h;refine⟨.tuple ps,.tup h1,by rw[PyData.showable];exact h2,?_,by rw[PyData.depth];omega⟩
 rw[PyData.shown];have hl:=tupleText_len_le (PyData.shownAll ps);have hs:=L0 h3;rw[h5] at hs hl;have hm:ds.length*(b+2)≤c*(b+2):=Nat.mul_le_mul_right _ hc
 have:ds.length*(b+2)=ds.length*b+2*ds.length:=by rw[Nat.mul_add];omega
 omega
theorem Abw{G:Gp}{b n c:Nat}{a:Addr}{ds:List D}(e:G a=some (.lst ds))(h:∀d∈ds,∃p,Sh G b n d p)(hc:ds.length≤c):∃p,Sh G (c*(b+2)+103) (n+1) (.ref a) p:=by
 obtain⟨ps,h1,h2,h3,h4,h5⟩:=shs h;refine⟨.list ps,.lst e h1,by rw[PyData.showable];exact h2,?_,by rw[PyData.depth];omega⟩
 rw[PyData.shown];have hl:=listText_len_le (PyData.shownAll ps);have hs:=L0 h3;rw[h5] at hs hl;have hm:ds.length*(b+2)≤c*(b+2):=Nat.mul_le_mul_right _ hc
 have:ds.length*(b+2)=ds.length*b+2*ds.length:=by rw[Nat.mul_add];omega
 omega
theorem Adq{i:Int}(h:i.natAbs<10 ^ 25):i.natAbs.log2<1920:=by
 by_cases h0:i.natAbs=0
 ·rw[h0];decide
 ·exact Nat.lt_of_lt_of_le ((Nat.log2_lt h0).mpr (Nat.lt_trans h (show 10 ^ 25<2 ^ 100 by decide))) (by decide)
theorem Sh.sub{G G':Gp}(s:Sub G G'){b n:Nat}{d:D}{p:PyData}(h:Sh G b n d p):Sh G' b n d p:=⟨L6 s h.rep,h.ok,h.len,h.dep⟩
theorem Aal{n:Nat}(h:n≤16000000):n≤sizeLine:=by rw[sizeLine_eq];omega
section
variable{P:Program}{w:World}{K:W.Frag}{mg:Str→Option Value}{base:Heap}
end
section
variable{P:Program}{w:World}{K:W.Frag}{mg:Str→Option Value}{base:Heap}{C T0 aS:Addr}
abbrev oddS:List Str:=["", "5", "up", "Upper", "upper", "lower"]
inductive Gx (G:Gp):Nat→D→Prop where
 |non {n}:Gx G n .non
 |bl {n} (b:Bool):Gx G n (.bl b)
 |int {n} (i:Int) (h:i.natAbs≤1000):Gx G n (.int i)
 |str {n} (x:Str) (h:x∈oddS):Gx G n (.str x)
 |tup {n} {ds:List D} (h:ds.length≤20) (r:∀d∈ds,Gx G n d):Gx G (n+1) (.tup ds)
 |lst {n} {a:Addr} {ds:List D} (e:G a=some (.lst ds)) (h:ds.length≤20) (r:∀d∈ds,Gx G n d):Gx G (n+1) (.ref a)
theorem Gx.sub{G G':Gp}(s:Sub G G'){n:Nat}{d:D}(h:Gx G n d):Gx G' n d:=by
 induction h with
 |non=>exact .non
 |bl b=>exact .bl b
 |int i h=>exact .int i h
 |str x h=>exact .str x h
 |tup h _ ih=>exact .tup h ih
 |lst e h _ ih=>exact .lst (s _ _ e) h ih
theorem Gx.kn{G:Gp}{n:Nat}{d:D}(h:Gx G n d):Kn G d:=by
 cases h with
 |non=>exact⟨_,rfl⟩
 |bl b=>exact⟨_,rfl⟩
 |int i h=>exact⟨_,rfl⟩
 |str x h=>exact⟨_,rfl⟩
 |tup h _=>exact⟨_,rfl⟩
 |lst e _ _=>exact⟨"list",by simp only[A9,e]⟩
theorem Gx.part{G:Gp}{n:Nat}{ds:List D}(h:Gx G n (.tup ds)):ds.length≤20∧∀d∈ds,∃m,Gx G m d:=by
 cases h with
 |tup h r=>exact⟨h,fun d hd=>⟨_,r d hd⟩⟩
theorem Gx.knT{G:Gp}:∀{m n:Nat} {d:D},Gx G n d→KnT G m d
 |0,_,_,h=>h.kn
 |m+1,_,_,h=>⟨h.kn,fun ds e x hx=>by
  subst e;obtain⟨_,g⟩:=h.part.2 x hx;exact g.knT⟩
theorem Gx.sz{G:Gp}{n:Nat}{d:D}(h:Gx G n d):SzT d:=fun xs e=>by
 subst e;obtain⟨hl,hr⟩:=h.part;refine⟨by rw[sizeLine_eq];omega,fun y hy ys e=>?_⟩
 subst e;obtain⟨_,g⟩:=hr _ hy
 have:=g.part.1
 rw[sizeLine_eq];omega
def gN:Nat→Nat
 |0=>100
 |n+1=>20*(gN n+2)+103
theorem Q3:∀n,100≤gN n
 |0=>Nat.le_refl _
 |n+1=>by rw[gN];omega
theorem Gx.sh{G:Gp}{n:Nat}{d:D}(h:Gx G n d):∃p,Sh G (gN n) (n+1) d p:=by
 induction h with
 |@non n=>exact⟨.none,.non,rfl,Nat.le_trans (by decide) (Q3 n),Nat.zero_le _⟩
 |@bl n b=>exact⟨.bool b,.bl b,rfl,Nat.le_trans (by cases b<;>decide) (Q3 n),Nat.zero_le _⟩
 |@int n i h=>
  refine⟨.int i,.int i,decide_eq_true (Adq (Nat.lt_of_le_of_lt h (by decide))),Nat.le_trans ?_ (Q3 n),Nat.zero_le _⟩
  have:=int_text_length_le10 (a:=i) (k:=25) (by decide) (Nat.lt_of_le_of_lt h (by decide))
  show(Str.ofString (toString i)).length≤100;rw[ofString_length];omega
 |@str n x h=>
  refine⟨.str x,.str x,rfl,Nat.le_trans ?_ (Q3 n),Nat.zero_le _⟩;show(reprText x).length≤100;simp only[oddS,List.mem_cons,List.not_mem_nil,or_false] at h;rcases h with rfl|rfl|rfl|rfl|rfl|rfl<;>decide +kernel
 |tup h _ ih=>exact Abv ih h
 |lst e h _ ih=>exact Abw e ih h
theorem Ls{G:Gp}{n:Nat}{c:List Int}(hl:c.length≤20)(h:∀x∈c,-10≤x∧x≤20):Gx G (n+1) (Ai c):=.tup (by rw[List.length_map];exact hl) fun d hd=>by
 obtain⟨i,hi,rfl⟩:=List.mem_map.mp hd
 have:=h i hi
 exact .int i (by omega)
structure ThOk(G:Gp)(s:List (List Int))(h:Nat)(d:Int)(ws:List Int)(f:Nat→Bool)(a dd w u c:D):Prop where
 ga:Gx G 2 a
 gd:Gx G 2 dd
 gw:Gx G 2 w
 gu:Gx G 2 u
 gc:Gx G 2 c
 a0:f 4=false→a=seaD s
 a1:f 4=true→Ch a=false
 d0:f 3=false→dd=.int d
 d1:f 3=true→Ag 1 9 dd=false
 w0:f 2=false→w=Ai ws
 w1:f 2=true→Eo (Au s d) w=false
 u0:f 1=false→∃b,u=.str (Al b).1
 u1:f 1=true→∀b,u≠.str (Al b).1
 c0:f 0=false→c=.tup [.int 1]
 c1:f 0=true→Ep 1 ((s.length:Int)-1) c=false
theorem ThOk.sub{G G':Gp}(sb:Sub G G'){s:List (List Int)}{h:Nat}{d:Int}{ws:List Int}{f:Nat→Bool}{a dd w u c:D}(t:ThOk G s h d ws f a dd w u c):ThOk G' s h d ws f a dd w u c:=
 { t with ga:=t.ga.sub sb,gd:=t.gd.sub sb,gw:=t.gw.sub sb,gu:=t.gu.sub sb,gc:=t.gc.sub sb }
theorem Q9{cs:List D}{x:D}(hx:x∈cs)(h:Er x=false∨Cy x≠Cy (cs.headD .non)):Ch (.tup cs)=false:=by
 cases e:Ch (.tup cs) with
 |false=>rfl
 |true=>
  simp only[Ch,Bool.and_eq_true,List.all_eq_true,decide_eq_true_eq] at e;rcases h with h|h
  ·rw[e.2.1 x hx] at h;cases h
  ·exact absurd (e.2.2 x hx) h
theorem X8{cs:List (List Int)}{ys:List D}(h:ys.length≠cs.length):Eo cs (.tup ys)=false:=by
 simp[Eo,h]
theorem Lx{cs:List (List Int)}{ys:List D}{i:Nat}{y:D}(hy:ys[i]? = some y)(h:Ag 0 8 y=false):Eo cs (.tup ys)=false:=by
 cases e:Eo cs (.tup ys) with
 |false=>rfl
 |true=>
  simp only[Eo,Bool.and_eq_true,List.all_eq_true,decide_eq_true_eq] at e;obtain⟨hi,hy⟩:=List.getElem?_eq_some_iff.mp hy;have hl:i<Ci [ys,cs.map Ai]:=by simp only[Ci,List.length_map];omega
  have:=Fk hl
  have:=e.2.1 _ (List.mem_of_getElem? this)
  have e1:ys.getD i .non=y:=by rw[List.getD_eq_getElem?_getD,List.getElem?_eq_getElem hi,hy];rfl
  have e2:∃c,(cs.map Ai).getD i .non=Ai c:=by
   refine⟨cs[i]'(by omega),?_⟩
   rw[List.getD_eq_getElem?_getD,List.getElem?_map,List.getElem?_eq_getElem (by omega)];rfl
  obtain⟨c,e2⟩:=e2;have this:inB (.tup [ys.getD i .non,(cs.map Ai).getD i .non])=true:=this;rw[e1,e2] at this;have this:(Ag 0 8 y&&decide (Ax y∈(c.map D.int).map Ax))=true:=this;rw[h] at this;cases this
theorem Ry{xs:List D}:C4 xs none (some (-1))=xs.dropLast:=by
 simp only[C4,HT.sIx,if_pos (show(-1:Int)<0 by decide),List.drop_zero,Nat.sub_zero,List.dropLast_eq_take]
 congr 1;omega
abbrev wdN:List Str:=["columns", "side", "fairway", "draught", "sea"]
def F4(f:Nat→Bool)(i:Nat):Nat→Bool:=fun j=>if j=i then true else f j
theorem R9{f:Nat→Bool}{i:Nat}:F4 f i i=true:=if_pos rfl
theorem Q4{f:Nat→Bool}{i j:Nat}(h:j≠i):F4 f i j=f j:=if_neg h
theorem ThOk.setC{G:Gp}{s:List (List Int)}{h:Nat}{d:Int}{ws:List Int}{f:Nat→Bool}{a dd w u c c':D}(t:ThOk G s h d ws f a dd w u c)(g:Gx G 2 c')(hb:Ep 1 ((s.length:Int)-1) c'=false):ThOk G s h d ws (F4 f 0) a dd w u c':=⟨t.ga,t.gd,t.gw,t.gu,g,t.a0,t.a1,t.d0,t.d1,t.w0,t.w1,t.u0,t.u1,(fun z=>by cases(show true=false from z)),(fun _=>hb)⟩
theorem ThOk.setU{G:Gp}{s:List (List Int)}{h:Nat}{d:Int}{ws:List Int}{f:Nat→Bool}{a dd w u c u':D}(t:ThOk G s h d ws f a dd w u c)(g:Gx G 2 u')(hb:∀b,u'≠.str (Al b).1):ThOk G s h d ws (F4 f 1) a dd w u' c:=⟨t.ga,t.gd,t.gw,g,t.gc,t.a0,t.a1,t.d0,t.d1,t.w0,t.w1,(fun z=>by cases(show true=false from z)),(fun _=>hb),t.c0,t.c1⟩
theorem ThOk.setW{G:Gp}{s:List (List Int)}{h:Nat}{d:Int}{ws:List Int}{f:Nat→Bool}{a dd w u c w':D}(t:ThOk G s h d ws f a dd w u c)(g:Gx G 2 w')(hb:Eo (Au s d) w'=false):ThOk G s h d ws (F4 f 2) a dd w' u c:=⟨t.ga,t.gd,g,t.gu,t.gc,t.a0,t.a1,t.d0,t.d1,(fun z=>by cases(show true=false from z)),(fun _=>hb),t.u0,t.u1,t.c0,t.c1⟩
theorem ThOk.setD{G:Gp}{s:List (List Int)}{h:Nat}{d:Int}{ws:List Int}{f:Nat→Bool}{a dd w u c dd':D}(t:ThOk G s h d ws f a dd w u c)(g:Gx G 2 dd')(hb:Ag 1 9 dd'=false):ThOk G s h d ws (F4 f 3) a dd' w u c:=⟨t.ga,g,t.gw,t.gu,t.gc,t.a0,t.a1,(fun z=>by cases(show true=false from z)),(fun _=>hb),t.w0,t.w1,t.u0,t.u1,t.c0,t.c1⟩
theorem ThOk.setA{G:Gp}{s:List (List Int)}{h:Nat}{d:Int}{ws:List Int}{f:Nat→Bool}{a dd w u c a':D}(t:ThOk G s h d ws f a dd w u c)(g:Gx G 2 a')(hb:Ch a'=false):ThOk G s h d ws (F4 f 4) a' dd w u c:=⟨g,t.gd,t.gw,t.gu,t.gc,(fun z=>by cases(show true=false from z)),(fun _=>hb),t.d0,t.d1,t.w0,t.w1,t.u0,t.u1,t.c0,t.c1⟩
theorem pick_go{b p:Addr}{G:Gp}{ls:List D}{n:Int}{R:D→Gp→Prop}(hG:∃n,G b=some (.lst [.int n]))(hp:G p=none)(hn:n=ls.length)(h0:0<n)(h1:n<1073741824)(k:∀d∈ls,∀G',Step b G G'→Sub (hid (Ab G p (.lst ls)) b) (hid G' b)→R d G'):spTake [.ref b,.int n] (Ab G p (.lst ls)) (fun y G2=>∃i,y=D.int i∧∃d,Dv G2 (.ref p) i=some d∧R d G2) noX:=by
 have s1:=(Step.refl hG).lay (o:=.lst ls) hp;have nb:=Step.ne hG hp;refine Bs s1.box h0 h1 fun r m r0 r1=>?_;obtain⟨d,hd,hm⟩:=R0 (xs:=ls) r0 (by omega)
 refine⟨r,rfl,d,?_,k d hm _ (s1.take m) (by rw[C0];exact Sub.refl _)⟩
 rw[Ba (ds:=ls) (by rw[Ad nb.symm];exact Aa)];exact hd
theorem Cz{G:Gp}{a b:Addr}{o:GO}(n:a≠b)(e:G b=some o):hid G a b=some o:=by unfold hid;rw[if_neg n.symm];exact e
theorem Abx{t r:DTS}{D:DEnds}{σ:DSt}{G:Gp}(h:t { D with nx:=r D } σ G):O9 t r D σ G:=h
theorem Fc{tc:DTT}{t u r:DTS}{D:DEnds}{σ:DSt}{G:Gp}(M:DSt→Gp→Prop)(h1:tc σ G fun b G1=>if b=true then t { nx:=Fs M,rt:=D.rt,bk:=D.bk,ct:=D.ct } σ G1 else u { nx:=Fs M,rt:=D.rt,bk:=D.bk,ct:=D.ct } σ G1)(h2:∀σ' G',M σ' G'→r D σ' G'):O9 (nIfM tc t u) r D σ G:=⟨M,h1,h2⟩
abbrev s_L_put_bad:Stmt:=top 122
abbrev O5:List Str:=["_law_box_here", "_law_things", "_law_word", "_law_sea", "_law_draught", "_law_fairway", "_law_side", "_law_columns", "_law_wrong"]
abbrev p_L_put_bad:List Str:=["_law_box_here", "_law_things", "_law_word"]
theorem sc_L_put_bad:FnScope O5 p_L_put_bad (defScope s_L_put_bad):=⟨rfl,rfl,rfl,by decide +kernel,rfl,by decide +kernel,by decide +kernel⟩
def spPut:DSp:=fun ds G Q _=>∃b a dd w u c s h d ws f i x X,ds=[.ref b,.tup [a,dd,w,u,c],.str x]∧wdN[i]? = some x∧(∃n,G b=some (.lst [.int n]))∧FairOk s h d ws∧ThOk X s h d ws f a dd w u c∧(∀j,i≤j→f j=false)∧
 ∀a' dd' w' u' c' G',Step b G G'→(∀X',Sub X X'→Sub (nw G G') X'→ThOk X' s h d ws (F4 f i) a' dd' w' u' c')→Q (.tup [a',dd',w',u',c']) G'
theorem Adf{f:Addr}{fd:FuncData}(F:Fun K "_law_put_bad" "_law_put_bad" s_L_put_bad f fd)(T:Nums mg)(Ahw:Def P w K mg base CX0 1 "_law_take" p_L_take spTake):FnOk P w K mg base CX0 2 f fd p_L_put_bad (liftSp K spPut):=by
 refine okD F sc_L_put_bad (fun ds G Q E h=>?_) (fun cdv A outer s H XE ds G Q E hr h=>?_)
 ·obtain⟨_,_,_,_,_,_,_,_,_,_,_,_,_,_,rfl,_⟩:=h;rfl
 ·obtain⟨b,a,dd,wd,u,c,sa,h,d,ws,fl,i,x,X,rfl,hx,hG,ok,th,hf,q⟩:=h;refine⟨_,#["d",#["J",#["a",1],#["v",5,#["n",#["k",3,sc_L_put_bad.nd],#["n",#["k",4,sc_L_put_bad.nd],#["n",#["k",5,sc_L_put_bad.nd],#["n",#["k",6,sc_L_put_bad.nd],#["w",#["k",7,sc_L_put_bad.nd]]]]]]]],#["d",#["U",#["1",#["a",2]],#["d",#["i",8,sc_L_put_bad.nd,#["I",#["c",(@q_non _ _ _),#["c",(@q_slice _ _ _ _ _ _ _ _ _ #["a",3] (@qo_none _) (@qo_some _ _ _ #["V"])),#["c",#["aC",T,#["b",#["a",3]]],#["c",#["s",#["ab",#["a",3]],#["G",#["b",#["aD",#["p",#["a",3]]]]]],#["b",#["s",#["ab",#["a",3]],#["G",#["b",#["Q",(@o_repU _),#["a5"],#["q",T,#["b",#["p",#["a",3]]]]]]]]]]]]]]],#["e",#["i",3,sc_L_put_bad.nd,#["E",#["a",8],#["f",Ahw,hr,#["D",#["a",0]]]]]]]],#["d",#["U",#["1",#["a",2]],#["e",#["i",4,sc_L_put_bad.nd,#["a6",#["f",Ahw,hr,#["D",#["a",0]]]]]]],#["d",#["U",#["1",#["a",2]],#["d",#["i",8,sc_L_put_bad.nd,#["I",#["c",#["Z",#["a",5]],#["c",#["aC",T,#["b",#["a",5]]],#["c",#["aD",#["ab",#["a",5]]],#["c",#["Q",(@o_addD _),#["ab",#["a",5]],#["G",#["a7"]]],#["c",#["Q",(@o_addD _),#["a8"],#["Z",#["a",5]]],#["c",(@q_non _ _ _),(@qa_nil _)]]]]]]]],#["e",#["i",5,sc_L_put_bad.nd,#["E",#["a",8],#["f",Ahw,hr,#["D",#["a",0]]]]]]]],#["d",#["U",#["1",#["a",2]],#["e",#["i",6,sc_L_put_bad.nd,#["a9",#["f",Ahw,hr,#["D",#["a",0]]]]]]],#["d",#["U",#["1",#["a",2]],#["e",#["i",7,sc_L_put_bad.nd,#["ba",#["f",Ahw,hr,#["D",#["a",0]]]]]]],#["e",#["g",#["G",#["c",#["a",3],#["c",#["a",4],#["c",#["a",5],#["c",#["a",6],#["b",#["a",7]]]]]]]]]]]]]]],?_⟩;have sz:∀{n},n≤100→n≤sizeLine:=fun h=>szl (by omega)
  have hw:=ok.sea.wide;have tst:∀j y,wdN[j]? = some y→(x=y↔i=j):=fun j y hy=>by
   have nd:wdN.Nodup:=by decide
   refine⟨fun e=>?_,fun e=>by subst e;rw[hx] at hy;cases hy;rfl⟩
   subst e;obtain⟨h1,e1⟩:=List.getElem?_eq_some_iff.mp hx;obtain⟨h2,e2⟩:=List.getElem?_eq_some_iff.mp hy;exact(List.getElem_inj nd).mp (e1.trans e2.symm)
  have hi:i<wdN.length:=(List.getElem?_eq_some_iff.mp hx).1;have hi:i<5:=hi
  let Mid:Nat→DSt→Gp→Prop:=fun j σ' G'=>∃a' dd' w' u' c' v,σ'=[some (.ref b),some (.tup [a,dd,wd,u,c]),some (.str x),some a',some dd',some w',some u',some c',v]∧Step b G G'∧(j≤i→∀X',Sub X X'→Sub (nw G G') X'→ThOk X' sa h d ws (F4 fl i) a' dd' w' u' c')∧(i<j→a'=a∧dd'=dd∧w'=wd∧u'=u∧c'=c∧G=G')
  have fin:∀{a' dd' w' u' c' v G'},Step b G G'→(∀X',Sub X X'→Sub (nw G G') X'→ThOk X' sa h d ws (F4 fl i) a' dd' w' u' c')→Fs (Mid i) [some (.ref b),some (.tup [a,dd,wd,u,c]),some (.str x),some a',some dd',some w',some u',some c',v] G':=fun st th=>Fs.of ⟨_,_,_,_,_,_,rfl,st,fun _=>th,fun z=>absurd z (Nat.lt_irrefl _)⟩;refine Abx ?_;simp only[F5,Hk,B9,List.map_cons,List.map_nil,List.length_cons,List.length_nil,Nat.zero_add,Nat.reduceAdd,Nat.reduceSub,List.replicate,List.cons_append,List.nil_append,List.getElem?_cons_succ,List.getElem?_cons_zero,Option.some.injEq,mTup,Uk,C5,mNil,List.set_cons_succ,List.set_cons_zero,exists_eq_left',D.tup.injEq,List.cons.injEq,and_assoc,exists_and_left,true_and];refine Fc (Mid 4) ?_ ?_
  ·simp only[E6,nOp,Hk,List.getElem?_cons_succ,List.getElem?_cons_zero,Option.some.injEq,nC,dEq,eqS,D.bl.injEq,O9,F5,Pa,E7,nSl,Ig,Qz,D.int.injEq,nCB,E5,List.cons.injEq,and_true,X6,O8,dIx,List.length_cons,List.length_nil,Nat.zero_add,Nat.reduceAdd,C5,List.set_cons_succ,List.set_cons_zero,Dt,exists_eq_left',Int.reduceNeg,Iu,decide_eq_true_eq]
   by_cases hj:i=4
   ·subst hj;refine it0 ((tst 4 "sea" rfl).mpr rfl) ?_;obtain rfl:=th.a0 (hf 4 (by decide))
    obtain⟨k0,r,rfl⟩:∃k0 r,sa=k0::r:=by
     cases sa with
     |nil=>simp at hw
     |cons x r=>exact⟨x,r,rfl⟩
    have es:seaD (k0::r)=.tup (.tup (k0.map D.int)::r.map Ai):=rfl;simp only[es,Ny,Option.some.injEq,Int.reduceNeg,Nz,R7,exists_eq_left',Ro,Fb,Pt,List.length_cons,List.length_nil,Nat.zero_add];have hk:=ok.sea.col k0 (by simp)
    have hh:=ok.sea.high;have kl:(k0.map D.int).length=h:=by rw[List.length_map];exact hk.1
    have hr:∀c∈r,c.length=h∧∀x∈c,0≤x∧x≤9:=fun c hc=>ok.sea.col c (by simp[hc])
    have lr:1≤r.length∧r.length≤15:=by simp only[List.length_cons] at hw;omega
    have ei:C4 (D.tup (k0.map D.int)::r.map Ai) none (some (-1))=D.tup (k0.map D.int)::r.dropLast.map Ai:=by
     rw[Ry];cases r with
     |nil=>simp at lr
     |cons x r=>simp[List.dropLast_cons_of_ne_nil,List.map_dropLast]
    have et:C4 (D.tup (k0.map D.int)::r.map Ai) none (some 1)=[D.tup (k0.map D.int)]:=by rw[show(some (1:Int))=some ((1:Nat):Int) from rfl,Xi];rfl
    simp only[ei,et];intro p hp;refine⟨sz (by decide),sz (by simp;omega),sz (by decide),sz (by simp;omega),sz (by decide),[.int 10],_,rfl,rfl,by simp,by omega,by simp;omega,sz (by simp;omega),sz (by decide),sz (by simp;omega),sz (by decide),fun p1 hp1=>?_⟩
    have s1:=(Step.refl hG).lay (o:=.lst (D.tup (k0.map D.int)::r.map Ai)) hp;have nb:=Step.ne hG hp;have g1:Ab G p (.lst (D.tup (k0.map D.int)::r.map Ai)) p=some (.lst (D.tup (k0.map D.int)::r.map Ai)):=Aa;generalize Ab G p (.lst (D.tup (k0.map D.int)::r.map Ai))=G1 at *;refine pick_go s1.box hp1 rfl (by decide) (by decide) fun c' hc G2 st sb=>fin (s1.trans st) fun X' hX hN=>?_
    have th2:=th.sub hX;have gk:∀{n},Gx X' (n+1) (.tup (k0.map D.int)):=Ls (by omega) fun x hx=>by have:=hk.2 x hx;omega
    have gr:∀{n} {cs:List (List Int)},(∀c∈cs,c∈r)→∀y∈cs.map Ai,Gx X' (n+1) y:=fun h y hy=>by
     obtain⟨c,hc,rfl⟩:=List.mem_map.mp hy
     have:=hr c (h c hc)
     exact Ls (by omega) fun x hx=>by have:=this.2 x hx;omega
    have d1:∀x∈r.dropLast,x∈r:=fun x hx=>List.mem_of_mem_take (by rw[←List.dropLast_eq_take];exact hx)
    have gl:∀{y:D},Gx X' 1 y→Gx X' 2 (.tup (D.tup (k0.map D.int)::(r.dropLast.map Ai++[y]))):=fun g=>.tup (by simp;omega) fun y hy=>(List.mem_cons.mp hy).elim (fun z=>by rw[z];exact gk) fun hy=>(List.mem_append.mp hy).elim (gr d1 y) fun z=>by rw[List.mem_singleton.mp z];exact g
    simp only[List.mem_cons,List.not_mem_nil,or_false] at hc;rcases hc with rfl|rfl|rfl|rfl|rfl
    ·exact th2.setA .non rfl
    ·exact th2.setA (.tup (by simp) fun y hy=>by rw[List.mem_singleton.mp hy];exact gk) rfl
    ·exact th2.setA (.lst (hN _ _ (Eu hp (hid_sub _ _ (sb _ _ (Cz nb (Ah g1 hp1)))))) (by simp;omega) fun y hy=>(List.mem_cons.mp hy).elim (fun z=>by rw[z];exact gk) (gr (fun _ h=>h) y)) rfl
    ·refine th2.setA (gl (.tup (by simp;omega) fun y hy=>(List.mem_append.mp hy).elim (fun hy=>?_) fun z=>by rw[List.mem_singleton.mp z];exact .int _ (by decide))) (Q9 (x:=.tup (k0.map D.int++[.int 1])) (by simp) (.inr (by simp[Cy])))
     obtain⟨i,hi,rfl⟩:=List.mem_map.mp hy
     have:=hk.2 i hi
     exact .int i (by omega)
    ·have lf:(List.replicate (((k0.map D.int).length:Nat):Int).toNat [D.int 10]).flatten.length≤9:=by simp;omega
     have mf:∀y∈(List.replicate (((k0.map D.int).length:Nat):Int).toNat [D.int 10]).flatten,y=.int 10:=fun y hy=>by
      obtain⟨l,h1,h2⟩:=List.mem_flatten.mp hy;rw[List.eq_of_mem_replicate h1] at h2;exact List.mem_singleton.mp h2
     have nf : .int 10∈(List.replicate (((k0.map D.int).length:Nat):Int).toNat [D.int 10]).flatten:=List.mem_flatten.mpr ⟨[.int 10],List.mem_replicate.mpr ⟨by omega,rfl⟩,by simp⟩
     generalize (List.replicate (((k0.map D.int).length:Nat):Int).toNat [D.int 10]).flatten=zs at *;refine th2.setA (gl (.tup (by omega) fun y hy=>by rw[mf y hy];exact .int _ (by decide))) (Q9 (x:=.tup zs) (by simp) (.inl ?_))
     have:zs.all (Ag 0 9)=false:=by
      cases e:zs.all (Ag 0 9) with
      |false=>rfl
      |true=>exact absurd (List.all_eq_true.mp e _ nf) (by decide)
     simp only[Er,this,Bool.and_false]
   ·exact it1 (fun e=>hj ((tst 4 "sea" rfl).mp e)) (Fs.of ⟨_,_,_,_,_,_,rfl,Step.refl hG,fun z=>by omega,fun _=>⟨rfl,rfl,rfl,rfl,rfl,rfl⟩⟩)
  rintro σ' G' ⟨a',dd',w',u',c',v,rfl,st,hd,ho⟩;refine Fc (Mid 3) ?_ ?_
  ·simp only[E6,nOp,Hk,List.getElem?_cons_succ,List.getElem?_cons_zero,Option.some.injEq,nC,dEq,eqS,D.bl.injEq,F5,Pa,E7,X6,D.int.injEq,E5,List.length_cons,List.length_nil,Nat.zero_add,Nat.reduceAdd,Dt,dIx,C5,List.set_cons_succ,List.set_cons_zero,exists_eq_left',Int.reduceNeg,Iu,decide_eq_true_eq]
   by_cases hj:i=3
   ·subst hj;obtain⟨rfl,rfl,rfl,rfl,rfl,rfl⟩:=ho (by decide)
    refine it0 ((tst 3 "draught" rfl).mpr rfl) ?_;refine⟨sz (by decide),fun p1 hp1=>?_⟩
    refine pick_go hG hp1 rfl (by decide) (by decide) fun c' hc G2 st sb=>fin st fun X' hX hN=>?_
    have th2:=th.sub hX;simp only[List.mem_cons,List.not_mem_nil,or_false] at hc;rcases hc with rfl|rfl|rfl|rfl|rfl|rfl
    ·exact th2.setD (.int _ (by decide)) rfl
    ·exact th2.setD (.int _ (by decide)) rfl
    ·exact th2.setD (.bl _) rfl
    ·exact th2.setD .non rfl
    ·exact th2.setD (.str _ (by simp)) rfl
    ·exact th2.setD (.int _ (by decide)) rfl
   ·exact it1 (fun e=>hj ((tst 3 "draught" rfl).mp e)) (Fs.of ⟨_,_,_,_,_,_,rfl,st,fun z=>hd (by omega),fun z=>ho (by omega)⟩)
  clear st hd ho
  rintro σ' G' ⟨a',dd',w',u',c',v,rfl,st,hd,ho⟩;refine Fc (Mid 2) ?_ ?_
  ·simp only[E6,nOp,Hk,List.getElem?_cons_succ,List.getElem?_cons_zero,Option.some.injEq,nC,dEq,eqS,D.bl.injEq,O9,F5,Pa,E7,nSl,Qz,D.int.injEq,Ig,nCB,E5,List.cons.injEq,and_true,X6,O8,List.length_cons,List.length_nil,Nat.zero_add,Nat.reduceAdd,C5,List.set_cons_succ,List.set_cons_zero,Dt,dIx,exists_eq_left',Int.reduceNeg,Iu,decide_eq_true_eq]
   by_cases hj:i=2
   ·subst hj;obtain⟨rfl,rfl,rfl,rfl,rfl,rfl⟩:=ho (by decide)
    refine it0 ((tst 2 "fairway" rfl).mpr rfl) ?_;obtain rfl:=th.w0 (hf 2 (by decide))
    simp only[Ai,Ny,Option.some.injEq,Int.reduceNeg,Fb,Pt,List.length_cons,List.length_nil,Nat.zero_add,List.cons_append,List.nil_append,exists_eq_left'];have el:∀(lo hi:Option Int),(C4 (ws.map D.int) lo hi).length≤16:=fun lo hi=>by
     have:=ok.len
     simp only[C4,List.length_take,List.length_drop,List.length_map];omega
    have ei:C4 (ws.map D.int) none (some (-1))=ws.dropLast.map D.int:=by rw[Ry,List.map_dropLast]
    have et:C4 (ws.map D.int) (some 1) none=(ws.drop 1).map D.int:=by rw[Lw,List.map_drop]
    have l2:2≤ws.length:=by rw[ok.len];exact hw.1
    have l16:ws.length≤16:=by rw[ok.len];exact hw.2
    have hm:∀x∈ws,-10≤x∧x≤20:=fun x hx=>by
     obtain⟨i,hi,rfl⟩:=List.getElem_of_mem hx
     have:=ok.row i (by rw[←ok.len];exact hi)
     rw[D4 (List.getElem?_eq_getElem hi)] at this
     have:=ok.sea.high
     omega
    have cl:(Au sa d).length=ws.length:=by rw[Cv,ok.len]
    rw[ei,et];intro p hp;refine⟨sz (by decide),sz (by simp;omega),sz (by decide),sz (by simp;omega),sz (by decide),sz (by simp;omega),sz (by decide),fun p1 hp1=>?_⟩
    have s1:=(Step.refl hG).lay (o:=.lst (ws.map D.int)) hp;have nb:=Step.ne hG hp;have g1:Ab G p (.lst (ws.map D.int)) p=some (.lst (ws.map D.int)):=Aa;generalize Ab G p (.lst (ws.map D.int))=G1 at *;refine pick_go s1.box hp1 rfl (by decide) (by decide) fun c' hc G2 st sb=>fin (s1.trans st) fun X' hX hN=>?_
    have th2:=th.sub hX;have gr:∀{n} {c:List Int},(∀x∈c,x∈ws)→c.length≤16→∀y∈c.map D.int,Gx X' n y:=fun h _ y hy=>by
     obtain⟨i,hi,rfl⟩:=List.mem_map.mp hy
     have:=hm i (h i hi)
     exact .int i (by omega)
    have d1:∀x∈ws.dropLast,x∈ws:=fun x hx=>List.mem_of_mem_take (by rw[←List.dropLast_eq_take];exact hx)
    have d2:∀x∈ws.drop 1,x∈ws:=fun x hx=>List.mem_of_mem_drop hx;have la:∀{y:D},(ws.dropLast.map D.int++[y])[ws.dropLast.length]? = some y:=fun {y}=>by
     rw[List.getElem?_append_right (by simp)];simp
    simp only[List.mem_cons,List.not_mem_nil,or_false] at hc;rcases hc with rfl|rfl|rfl|rfl|rfl|rfl
    ·exact th2.setW (.tup (by simp;omega) (gr d2 (by simp;omega))) (X8 (by simp;omega))
    ·exact th2.setW (.lst (hN _ _ (Eu hp (hid_sub _ _ (sb _ _ (Cz nb (Ah g1 hp1)))))) (by simp;omega) (gr (fun _ h=>h) l16)) rfl
    ·exact th2.setW (.tup (by simp;omega) fun y hy=>(List.mem_append.mp hy).elim (gr d1 (by simp;omega) y) fun z=>by rw[List.mem_singleton.mp z];exact .int _ (by decide)) (Lx la rfl)
    ·exact th2.setW (.tup (by simp;omega) fun y hy=>(List.mem_append.mp hy).elim (gr d1 (by simp;omega) y) fun z=>by rw[List.mem_singleton.mp z];exact .int _ (by decide)) (Lx la rfl)
    ·exact th2.setW (.tup (by simp;omega) fun y hy=>(List.mem_cons.mp hy).elim (fun z=>by rw[z];exact .bl _) (gr d2 (by simp;omega) y)) (Lx (i:=0) rfl rfl)
    ·exact th2.setW .non rfl
   ·exact it1 (fun e=>hj ((tst 2 "fairway" rfl).mp e)) (Fs.of ⟨_,_,_,_,_,_,rfl,st,fun z=>hd (by omega),fun z=>ho (by omega)⟩)
  clear st hd ho
  rintro σ' G' ⟨a',dd',w',u',c',v,rfl,st,hd,ho⟩;refine Fc (Mid 1) ?_ ?_
  ·simp only[E6,nOp,Hk,List.getElem?_cons_succ,List.getElem?_cons_zero,Option.some.injEq,nC,dEq,eqS,D.bl.injEq,F5,Pa,E7,O8,E5,List.length_cons,List.length_nil,Nat.zero_add,Nat.reduceAdd,Dt,dIx,C5,List.set_cons_succ,List.set_cons_zero,exists_eq_left',Iu,decide_eq_true_eq]
   by_cases hj:i=1
   ·subst hj;obtain⟨rfl,rfl,rfl,rfl,rfl,rfl⟩:=ho (by decide)
    refine it0 ((tst 1 "side" rfl).mpr rfl) ?_;refine⟨sz (by decide),sz (by decide),fun p1 hp1=>?_⟩
    refine pick_go hG hp1 rfl (by decide) (by decide) fun c' hc G2 st sb=>fin st fun X' hX hN=>?_
    have th2:=th.sub hX;simp only[List.mem_cons,List.not_mem_nil,or_false] at hc;rcases hc with rfl|rfl|rfl|rfl|rfl|rfl
    ·exact th2.setU (.str _ (by simp)) fun b e=>by cases b<;>cases e
    ·exact th2.setU (.str _ (by simp)) fun b e=>by cases b<;>cases e
    ·exact th2.setU .non fun b e=>by cases e
    ·exact th2.setU (.int _ (by decide)) fun b e=>by cases e
    ·exact th2.setU (.tup (by simp) fun d hd=>by rw[List.mem_singleton.mp hd];exact .str _ (by simp)) fun b e=>by cases e
    ·exact th2.setU (.str _ (by simp)) fun b e=>by cases b<;>cases e
   ·exact it1 (fun e=>hj ((tst 1 "side" rfl).mp e)) (Fs.of ⟨_,_,_,_,_,_,rfl,st,fun z=>hd (by omega),fun z=>ho (by omega)⟩)
  clear st hd ho
  rintro σ' G' ⟨a',dd',w',u',c',v,rfl,st,hd,ho⟩;refine Fc (Mid 0) ?_ ?_
  ·simp only[E6,nOp,Hk,List.getElem?_cons_succ,List.getElem?_cons_zero,Option.some.injEq,nC,dEq,eqS,D.bl.injEq,F5,Pa,E7,O8,E5,List.length_cons,List.length_nil,Nat.zero_add,Nat.reduceAdd,Dt,dIx,C5,List.set_cons_succ,List.set_cons_zero,exists_eq_left',Iu,decide_eq_true_eq]
   by_cases hj:i=0
   ·subst hj;obtain⟨rfl,rfl,rfl,rfl,rfl,rfl⟩:=ho (by decide)
    refine it0 ((tst 0 "columns" rfl).mpr rfl) ?_;refine⟨sz (by decide),sz (by decide),sz (by decide),sz (by decide),fun p hp=>⟨sz (by decide),sz (by decide),fun p1 hp1=>?_⟩⟩
    have s1:=(Step.refl hG).lay (o:=.lst [.int 1]) hp;have nb:=Step.ne hG hp;have g1:Ab G p (.lst [.int 1]) p=some (.lst [.int 1]):=Aa;generalize Ab G p (.lst [.int 1])=G1 at *;refine pick_go s1.box hp1 rfl (by decide) (by decide) fun c' hc G2 st sb=>fin (s1.trans st) fun X' hX hN=>?_
    have th2:=th.sub hX;simp only[List.mem_cons,List.not_mem_nil,or_false] at hc;rcases hc with rfl|rfl|rfl|rfl|rfl|rfl
    ·exact th2.setC (.tup (by simp) fun d hd=>by rw[List.mem_singleton.mp hd];exact .int _ (by decide)) (by simp[Ep,Ag])
    ·exact th2.setC (.tup (by simp) fun d hd=>by rw[List.mem_singleton.mp hd];exact .int _ (by decide)) (by simp[Ep,Ag];omega)
    ·exact th2.setC (.tup (by simp) fun d hd=>by rw[show d=.int 1 by simpa using hd];exact .int _ (by decide)) (by simp[Ep,Ag,B0,Ax])
    ·exact th2.setC (.lst (hN _ _ (Eu hp (hid_sub _ _ (sb _ _ (Cz nb (Ah g1 hp1)))))) (by simp) fun d hd=>by rw[List.mem_singleton.mp hd];exact .int _ (by decide)) rfl
    ·exact th2.setC (.tup (by simp) fun d hd=>by rw[List.mem_singleton.mp hd];exact .bl _) (by simp[Ep,Ag])
    ·exact th2.setC .non rfl
   ·exact it1 (fun e=>hj ((tst 0 "columns" rfl).mp e)) (Fs.of ⟨_,_,_,_,_,_,rfl,st,fun z=>hd (by omega),fun z=>ho (by omega)⟩)
  clear st hd ho
  rintro σ' G' ⟨a',dd',w',u',c',v,rfl,st,hd,ho⟩;simp only[nRet,O8,E7,Hk,List.getElem?_cons_succ,List.getElem?_cons_zero,Option.some.injEq,E5,List.length_cons,List.length_nil,Nat.zero_add,Nat.reduceAdd,exists_eq_left'];exact⟨sz (by decide),Fq.of (q _ _ _ _ _ _ st (hd (Nat.zero_le _)))⟩
end
section
variable{P:Program}{w:World}{K:W.Frag}{mg:Str→Option Value}{base:Heap}{C T0 T1 aS M:Addr}{tbl:List (Str×Addr)}
def Vj:D→List Int
 |.tup xs=>xs.map Ax
 |_=>[]
theorem Yj{s s':List (List Int)}(h:seaD s=seaD s'):s=s':=by
 have h:s.map Ai=s'.map Ai:=by injection h
 have e:∀s:List (List Int),(s.map Ai).map Vj=s:=fun s=>by
  rw[List.map_map]
  conv=>rhs;rw[←List.map_id s]
  refine List.map_congr_left fun c _=>?_;exact Gj c
 have:=congrArg (List.map Vj) h
 rwa [e,e] at this
theorem Nc{s:List (List Int)}{h:Nat}(ok:SeaOk s h):Ch (seaD s)=true:=by
 have hw:=ok.wide;have hh:=ok.high;obtain⟨k0,r,rfl⟩:∃k0 r,s=k0::r:=by
  cases s with
  |nil=>simp at hw
  |cons x r=>exact⟨x,r,rfl⟩
 have e:((k0::r).map Ai).headD .non=Ai k0:=rfl;have l0:Cy (Ai k0)=h:=by show(k0.map D.int).length=h;rw[List.length_map];exact(ok.col k0 (by simp)).1
 show(decide (2≤((k0::r).map Ai).length)&&decide (((k0::r).map Ai).length≤16)&&(((k0::r).map Ai).all Er&&((k0::r).map Ai).all fun c=>decide (Cy c=Cy (((k0::r).map Ai).headD .non))))=true;rw[List.length_map,decide_eq_true hw.1,decide_eq_true hw.2,e,l0,Bool.true_and,Bool.true_and,Bool.and_eq_true,List.all_eq_true,List.all_eq_true];refine⟨fun x hx=>?_,fun x hx=>?_⟩
 ·obtain⟨c,hc,rfl⟩:=List.mem_map.mp hx
  have:=ok.col c hc
  show(decide (1≤(c.map D.int).length)&&decide ((c.map D.int).length≤9)&&(c.map D.int).all (Ag 0 9))=true;rw[List.length_map,this.1,decide_eq_true hh.1,decide_eq_true hh.2,Bool.true_and,Bool.true_and,List.all_eq_true];intro x hx;obtain⟨i,hi,rfl⟩:=List.mem_map.mp hx
  have:=this.2 i hi
  simp only[Ag,decide_eq_true this.1,decide_eq_true this.2,Bool.true_and]
 ·obtain⟨c,hc,rfl⟩:=List.mem_map.mp hx;refine decide_eq_true ?_;show(c.map D.int).length=h;rw[List.length_map];exact(ok.col c hc).1
theorem ThOk.ln{G:Gp}{s:List (List Int)}{h:Nat}{d:Int}{ws:List Int}{f:Nat→Bool}{a dd w u c:D}{E:DX}{CS CD CF CU:Addr}{R:List (List Int)→Nat→Int→List Int→Bool→Prop}(t:ThOk G s h d ws f a dd w u c)(ok:FairOk s h d ws)(e4:f 4=true→E (.ref CS) G)(e3:f 4=false→f 3=true→E (.ref CD) G)(e2:f 4=false→f 3=false→f 2=true→E (.ref CF) G)(e1:f 4=false→f 3=false→f 2=false→f 1=true→E (.ref CU) G)(hR:f 4=false→f 3=false→f 2=false→f 1=false→∀b,R s h d ws b):LnX CS CD CF CU G E a dd w u R:=by
 have hd:=Nc ok.sea;refine⟨t.ga.knT,t.ga.sz,t.gd.kn,t.gw.knT,fun xs e=>(t.gw.sz xs e).1,t.gu.kn,fun z=>?_,fun z z2=>?_,fun s' h' d' ea oks ed q1 q9=>?_⟩
 ·cases hf:f 4 with
  |true=>exact e4 hf
  |false=>rw[t.a0 hf,hd] at z;cases z
 ·cases hf:f 4 with
  |true=>rw[t.a1 hf] at z;cases z
  |false=>
   cases hf3:f 3 with
   |true=>exact e3 hf hf3
   |false=>
    rw[t.d0 hf3] at z2;have o1:=ok.d1;have o9:=ok.d9;simp only[Ag,decide_eq_true o1,decide_eq_true o9] at z2;cases z2
 ·have f4:f 4=false:=by
   cases hf:f 4 with
   |false=>rfl
   |true=>
    have:=t.a1 hf
    rw[ea,Nc oks] at this;cases this
  have f3:f 3=false:=by
   cases hf:f 3 with
   |false=>rfl
   |true=>
    have:=t.d1 hf
    rw[ed] at this;simp only[Ag,decide_eq_true q1,decide_eq_true q9] at this;cases this
  obtain rfl:=Yj ((t.a0 f4).symm.trans ea)
  have:=(t.d0 f3).symm.trans ed
  cases this;have hh:h'=h:=by
   have hw:=ok.sea.wide;cases s with
   |nil=>simp at hw
   |cons x r=>rw[←(ok.sea.col x (by simp)).1,←(oks.col x (by simp)).1]
  subst hh;have wo:=Abi ok.way;refine⟨fun z=>?_,fun z=>?_⟩
  ·cases hf:f 2 with
   |true=>exact e2 f4 f3 hf
   |false=>rw[t.w0 hf,wo] at z;cases z
  ·have f2:f 2=false:=by
    cases hf:f 2 with
    |false=>rfl
    |true=>rw[t.w1 hf] at z;cases z
   refine⟨ws,t.w0 f2,ok,fun zu=>?_,fun b eb=>?_⟩
   ·cases hf:f 1 with
    |true=>exact e1 f4 f3 f2 hf
    |false=>
     obtain⟨b,eb⟩:=t.u0 hf;exact absurd eb (zu b)
   ·have f1:f 1=false:=by
     cases hf:f 1 with
     |false=>rfl
     |true=>exact absurd eb (t.u1 hf b)
    exact hR f4 f3 f2 f1 b
end
section
variable{P:Program}{w:World}{K:W.Frag}{mg:Str→Option Value}{base:Heap}{T0 T1 M:Addr}{tbl:List (Str×Addr)}
structure Chx(K:W.Frag)(tbl:List (Str×Addr))(M C:Addr)(x:Str)(i:Nat):Prop where
 exk:ExcK K x C
 mro:∃tl,mroK K C=some (.ref C::tl)∧(Value.ref C::tl).contains (.ref M)=true
 kind:ExKind K tbl C i
structure Cx5(K:W.Frag)(tbl:List (Str×Addr))(M CS CD CF CU CK:Addr):Prop where
 s:Chx K tbl M CS "NoSea" 0
 d:Chx K tbl M CD "NoDraught" 2
 f:Chx K tbl M CF "NoFairway" 9
 u:Chx K tbl M CU "NoSide" 10
 k:Chx K tbl M CK "NoColumns" 11
theorem Ix{G:Gp}{Q:DK}{C:Addr}{x:Str}{i:Nat}(B:Chx K tbl M C x i)(k:∀a,G a=none→Q (.tup [.str (kindNames.getD i "")]) (Ab G a (.any (excIs C)))):whX K M (Be K tbl) Q (.ref C) G:=by
 obtain⟨tl,h1,h2⟩:=B.mro;exact⟨C,_,tl,rfl,B.exk,h1,h2,fun a ha=>⟨a,C,i,rfl,Aa,B.kind,k a ha⟩⟩
def duF(f:Nat→Bool)(five:Bool):Option Nat:=if f 4 then some 0 else if f 3 then some 2 else if f 2 then some 9 else if f 1 then some 10 else if five&&f 0 then some 11 else none
def FoundIs(G:Gp):Option Nat→D→Prop
 |some i,d=>d=.tup [.str (kindNames.getD i "")]
 |none,d=>∃r vs,d=.ref r∧G r=some (.lst vs)
theorem FoundIs.sub{G G':Gp}(s:Sub G G'):∀{o:Option Nat} {d:D},FoundIs G o d→FoundIs G' o d
 |some _,_,h=>h
 |none,_,⟨r,vs,e,h⟩=>⟨r,vs,e,s _ _ h⟩
theorem Lf{G:Gp}{Q:DK}{f:Nat→Bool}{five:Bool}{CS CD CF CU CK:Addr}(B:Cx5 K tbl M CS CD CF CU CK)(k:∀x G',Sub G G'→FoundIs (nw G G') (duF f five) x→Q x G') :
  (f 4=true→whX K M (Be K tbl) Q (.ref CS) G)∧(f 4=false→f 3=true→whX K M (Be K tbl) Q (.ref CD) G)∧(f 4=false→f 3=false→f 2=true→whX K M (Be K tbl) Q (.ref CF) G)∧(f 4=false→f 3=false→f 2=false→f 1=true→whX K M (Be K tbl) Q (.ref CU) G)∧
  (five=true→f 4=false→f 3=false→f 2=false→f 1=false→f 0=true→whX K M (Be K tbl) Q (.ref CK) G):=
 ⟨fun h4=>Ix B.s fun a ha=>k _ _ (Sub.new ha) (by rw[duF,h4];rfl),fun h4 h3=>Ix B.d fun a ha=>k _ _ (Sub.new ha) (by rw[duF,h4,h3];rfl),fun h4 h3 h2=>Ix B.f fun a ha=>k _ _ (Sub.new ha) (by rw[duF,h4,h3,h2];rfl),fun h4 h3 h2 h1=>Ix B.u fun a ha=>k _ _ (Sub.new ha) (by rw[duF,h4,h3,h2,h1];rfl),fun h5 h4 h3 h2 h1 h0=>Ix B.k fun a ha=>k _ _ (Sub.new ha) (by rw[duF,h4,h3,h2,h1,h0,h5];rfl)⟩
section
variable{G:Gp}{Q:DK}{f:Nat→Bool}{CS CD CF CU CK:Addr}{q0 q1:Str}{tA:DTA}{σ:DSt}{s:List (List Int)}{h:Nat}{d:Int}{ws:List Int}{a dd wd u c:D}{idx:List Nat}
theorem P3(B:Cx5 K tbl M CS CD CF CU CK)(hT1:G T1=some (.tbl q1))(hT0:G T0=some (.tbl q0))(t:ThOk G s h d ws f a dd wd u c)(ok:FairOk s h d ws)(hm:(idx.map fun i=>(σ[i]?).join)=[some a,some dd,some wd,some u,some c])(hA:∀Q',Q' [a,dd,wd,u,c] G→tA [some a,some dd,some wd,some u,some c] G Q')(k:∀x G',Sub G G'→FoundIs (nw G G') (duF f true) x→Q x G'):M6 K M (Be K tbl) T1 q1 idx (fun E=>Dt (spKeepsX CS CD CF CU CK T0 q0) E tA) σ G Q:=by
 refine⟨hT1,?_⟩;rw[hm];obtain⟨k4,k3,k2,k1,k0⟩:=Lf (f:=f) (five:=true) B k;refine hA _ ⟨a,dd,wd,u,c,rfl,hT0,t.gc.knT,fun xs e=>(t.gc.sz xs e).1,t.ln ok k4 k3 k2 k1 fun h4 h3 h2 h1 b=>⟨fun z=>?_,fun z=>?_⟩⟩
 ·refine k0 rfl h4 h3 h2 h1 ?_;cases hf:f 0 with
  |true=>rfl
  |false=>
   rw[t.c0 hf] at z;have hw:=ok.sea.wide
   have:Ep 1 ((s.length:Int)-1) (.tup [.int 1])=true:=by simp[Ep,Ag,B0];omega
   rw[this] at z;cases z
 ·have f0:f 0=false:=by
   cases hf:f 0 with
   |false=>rfl
   |true=>rw[t.c1 hf] at z;cases z
  have hw:=ok.sea.wide;exact⟨[1],t.c0 f0,⟨List.pairwise_singleton _ _,fun x hx=>by rw[List.mem_singleton.mp hx];omega,by simp⟩,fun v=>⟨szl (by decide),fun p hp=>k _ _ (Sub.new hp) (by rw[duF,h4,h3,h2,h1,f0];exact⟨p,_,rfl,Eu hp Aa⟩)⟩⟩
theorem P2(B:Cx5 K tbl M CS CD CF CU CK)(hT1:G T1=some (.tbl q1))(hT0:G T0=some (.tbl q0))(t:ThOk G s h d ws f a dd wd u c)(ok:FairOk s h d ws)(hm:(idx.map fun i=>(σ[i]?).join)=[some a,some dd,some wd,some u])(hA:∀Q',Q' [a,dd,wd,u] G→tA [some a,some dd,some wd,some u] G Q')(k:∀x G',Sub G G'→FoundIs (nw G G') (duF f false) x→Q x G'):M6 K M (Be K tbl) T1 q1 idx (fun E=>Dt (spLeastX CS CD CF CU T0 q0) E tA) σ G Q:=by
 refine⟨hT1,?_⟩;rw[hm];obtain⟨k4,k3,k2,k1,_⟩:=Lf (f:=f) (five:=false) B k;exact hA _ ⟨a,dd,wd,u,rfl,hT0,t.ln ok k4 k3 k2 k1 fun h4 h3 h2 h1 b v=>⟨szl (by decide),fun p hp=>k _ _ (Sub.new hp) (by rw[duF,h4,h3,h2,h1];exact⟨p,_,rfl,Eu hp Aa⟩)⟩⟩
theorem P1(B:Cx5 K tbl M CS CD CF CU CK)(hT1:G T1=some (.tbl q1))(hT0:G T0=some (.tbl q0))(t:ThOk G s h d ws f a dd wd u c)(ok:FairOk s h d ws)(hm:(idx.map fun i=>(σ[i]?).join)=[some a,some dd,some wd,some u,some c])(hA:∀Q',Q' [a,dd,wd,u,c] G→tA [some a,some dd,some wd,some u,some c] G Q')(k:∀x G',Sub G G'→FoundIs (nw G G') (duF f false) x→Q x G'):M6 K M (Be K tbl) T1 q1 idx (fun E=>Dt (spPaperX CS CD CF CU T0 q0) E tA) σ G Q:=by
 refine⟨hT1,?_⟩;rw[hm];obtain⟨k4,k3,k2,k1,_⟩:=Lf (f:=f) (five:=false) B k;exact hA _ ⟨a,dd,wd,u,c,rfl,hT0,t.gc.knT,fun xs e=>(t.gc.sz xs e).1,t.ln ok k4 k3 k2 k1 fun h4 h3 h2 h1 b v=>⟨szl (by decide),fun p hp=>k _ _ (Sub.new hp) (by rw[duF,h4,h3,h2,h1];exact⟨p,_,rfl,Eu hp Aa⟩)⟩⟩
theorem Mp(B:Cx5 K tbl M CS CD CF CU CK)(hT1:G T1=some (.tbl q1))(hT0:G T0=some (.tbl q0))(t:ThOk G s h d ws f a dd wd u c)(ok:FairOk s h d ws)(hm:(idx.map fun i=>(σ[i]?).join)=[some a,some dd,some wd,some u])(hA:∀Q',Q' [a,dd,wd,u] G→tA [some a,some dd,some wd,some u] G Q')(k:∀x G',Sub G G'→FoundIs (nw G G') (duF f false) x→Q x G'):M6 K M (Be K tbl) T1 q1 idx (fun E=>Dt (Dk CS CD CF CU T0 q0) E tA) σ G Q:=by
 refine⟨hT1,?_⟩;rw[hm];obtain⟨k4,k3,k2,k1,_⟩:=Lf (f:=f) (five:=false) B k;exact hA _ ⟨a,dd,wd,u,rfl,hT0,t.ln ok k4 k3 k2 k1 fun h4 h3 h2 h1 b v=>⟨szl (by decide),fun p hp=>k _ _ (Sub.new hp) (by rw[duF,h4,h3,h2,h1];exact⟨p,_,rfl,Eu hp Aa⟩)⟩⟩
end
theorem T9{G G':Gp}{p:Addr}{o:GO}(s:Sub G G')(hp:G p=none):Sub G (Ab G' p o):=fun b u e=>by
 rw[Ad (gne e hp)];exact s b u e
theorem Ck{A B:Gp}(s:Sub A B){p:Addr}:Sub (hid A p) (hid B p):=fun b o h=>by
 unfold hid at h ⊢
 split at h
 ·cases h
 ·rename_i e;rw[if_neg e];exact s b o h
theorem L9{G G':Gp}{p:Addr}{o:GO}(h:G p=some o):Sub (nw G G') (hid G' p):=fun b u e=>by
 obtain⟨h1,h2⟩:=Uh e;exact Cz (fun z=>by subst z;rw[h] at h1;cases h1) h2
def Aej(G:Gp)(f:Nat→Bool)(xs:List D):Prop:=∃x0 x1 x2 x3,xs=[x0,x1,x2,x3]∧FoundIs G (duF f true) x0∧FoundIs G (duF f false) x1∧FoundIs G (duF f false) x2∧FoundIs G (duF f false) x3
abbrev qC:Str:="_law_calls" ++ ".<locals>." ++ "<lambda>"
abbrev s_L_calls:Stmt:=top 120
abbrev K9:List Str:=["_law_things", "_law_sea", "_law_draught", "_law_fairway", "_law_side", "_law_columns", "_law_calls_here"]
abbrev p_L_calls:List Str:=["_law_things"]
theorem sc_L_calls:FnScope K9 p_L_calls (defScope s_L_calls):=⟨rfl,rfl,rfl,by decide +kernel,rfl,by decide +kernel,by decide +kernel⟩
def spCalls(T0 T1:Addr)(q0:Str):DSp:=fun ds G Q _=>∃a dd w u c s h d ws f,ds=[.tup [a,dd,w,u,c]]∧FairOk s h d ws∧ThOk G s h d ws f a dd w u c∧G T0=some (.tbl q0)∧G T1=some (.tbl qC)∧∀p xs G',Sub G G'→G' p=some (.lst xs)→Aej G' f xs→Q (.ref p) G'
theorem W1{f c0 CS CD CF CU CK:Addr}{fd:FuncData}{q0:Str}(F:Fun K "_law_calls" "_law_calls" s_L_calls f fd)(T:Nums mg)(hfc:fd.code=.ref c0)(hC:W.codeHdIn K c0 T1=true)(B:Cx5 K tbl M CS CD CF CU CK)(S_said:Said P w K mg base 15 14 "_law_said" M (Be K tbl))(Aix:Def P w K mg base (CX1 P w) 12 "keeps" p_keeps (spKeepsX CS CD CF CU CK T0 q0))(Aiy:Def P w K mg base (CX1 P w) 12 "least_columns" p_least_columns (spLeastX CS CD CF CU T0 q0))(Aiz:Def P w K mg base (CX1 P w) 12 "is_paper" p_is_paper (spPaperX CS CD CF CU T0 q0))(Ai0:Def P w K mg base (CX1 P w) 12 "paper_of" Cb (Dk CS CD CF CU T0 q0)) :
  FnOk P w K mg base CX0 16 f fd p_L_calls (liftSp K (spCalls T0 T1 q0)):=by
 refine okDc F hfc sc_L_calls (fun ds G Q E h=>?_) (fun A outer s H XE ds G Q E hr h=>?_)
 ·obtain⟨_,_,_,_,_,_,_,_,_,_,rfl,_⟩:=h;rfl
 ·have hcode:(Cw CX0 P w K mg base K9 "_law_calls" (defScope s_L_calls) f (.ref c0) A outer s H XE).nox.env.code=.ref c0:=rfl;obtain⟨a,dd,wd,u,c,sa,h,d,ws,fl,rfl,ok,th,hT0,hT1,k⟩:=h;refine⟨_,#["d",#["J",#["a",0],#["v",5,#["n",#["2",1,sc_L_calls.nd],#["n",#["2",2,sc_L_calls.nd],#["n",#["2",3,sc_L_calls.nd],#["n",#["2",4,sc_L_calls.nd],#["w",#["2",5,sc_L_calls.nd]]]]]]]],#["d",#["i",6,sc_L_calls.nd,#["I",#["b",#["ac",["_law_sea", "_law_draught", "_law_fairway", "_law_side", "_law_columns"],[1,2,3,4,5],S_said,hr,hcode,hC,(fun _=>rfl),(fun E f c A outer s H hr=>(@q_call _ _ _ _ _ _ _ _ E _ _ _ Aix (L2.Room.mono (hr.deeper _) (by decide)) (passL (fun _ _ _ z=>z)) (@qa_consP _ _ _ _ _ (@q_v3 _ _ 0 _ (by exact⟨rfl,rfl,rfl,rfl⟩)) (@qa_consP _ _ _ _ _ (@q_v3 _ _ 1 _ (by exact⟨rfl,rfl,rfl,rfl⟩)) (@qa_consP _ _ _ _ _ (@q_v3 _ _ 2 _ (by exact⟨rfl,rfl,rfl,rfl⟩)) (@qa_consP _ _ _ _ _ (@q_v3 _ _ 3 _ (by exact⟨rfl,rfl,rfl,rfl⟩)) (@qa_consP _ _ _ _ _ (@q_v3 _ _ 4 _ (by exact⟨rfl,rfl,rfl,rfl⟩)) (@qa_nil _) (by rfl)) (by rfl)) (by rfl)) (by rfl)) (by rfl)) (by rfl) (by decide) (by rfl) (by rfl))),(And.intro rfl (And.intro rfl (And.intro rfl (And.intro rfl (And.intro rfl trivial))))),(And.intro (And.intro rfl (And.intro rfl rfl)) (And.intro (And.intro rfl (And.intro rfl rfl)) (And.intro (And.intro rfl (And.intro rfl rfl)) (And.intro (And.intro rfl (And.intro rfl rfl)) (And.intro (And.intro rfl (And.intro rfl rfl)) trivial))))),(LamScope.mk rfl rfl rfl (by decide +kernel)),(fun _ _ _ _ _=>rfl)]]]],#["d",#["u",#["M",#["a",6],#["ac",["_law_sea", "_law_draught", "_law_fairway", "_law_side"],[1,2,3,4],S_said,hr,hcode,hC,(fun _=>rfl),(fun E f c A outer s H hr=>(@q_call _ _ _ _ _ _ _ _ E _ _ _ Aiy (L2.Room.mono (hr.deeper _) (by decide)) (passL (fun _ _ _ z=>z)) (@qa_consP _ _ _ _ _ (@q_v3 _ _ 0 _ (by exact⟨rfl,rfl,rfl,rfl⟩)) (@qa_consP _ _ _ _ _ (@q_v3 _ _ 1 _ (by exact⟨rfl,rfl,rfl,rfl⟩)) (@qa_consP _ _ _ _ _ (@q_v3 _ _ 2 _ (by exact⟨rfl,rfl,rfl,rfl⟩)) (@qa_consP _ _ _ _ _ (@q_v3 _ _ 3 _ (by exact⟨rfl,rfl,rfl,rfl⟩)) (@qa_nil _) (by rfl)) (by rfl)) (by rfl)) (by rfl)) (by rfl) (by decide) (by rfl) (by rfl))),(And.intro rfl (And.intro rfl (And.intro rfl (And.intro rfl trivial)))),(And.intro (And.intro rfl (And.intro rfl rfl)) (And.intro (And.intro rfl (And.intro rfl rfl)) (And.intro (And.intro rfl (And.intro rfl rfl)) (And.intro (And.intro rfl (And.intro rfl rfl)) trivial)))),(LamScope.mk rfl rfl rfl (by decide +kernel)),(fun _ _ _ _ _=>rfl)]]],#["d",#["u",#["M",#["a",6],#["ac",["_law_sea", "_law_draught", "_law_fairway", "_law_side", "_law_columns"],[1,2,3,4,5],S_said,hr,hcode,hC,(fun _=>rfl),(fun E f c A outer s H hr=>(@q_call _ _ _ _ _ _ _ _ E _ _ _ Aiz (L2.Room.mono (hr.deeper _) (by decide)) (passL (fun _ _ _ z=>z)) (@qa_consP _ _ _ _ _ (@q_v3 _ _ 0 _ (by exact⟨rfl,rfl,rfl,rfl⟩)) (@qa_consP _ _ _ _ _ (@q_v3 _ _ 1 _ (by exact⟨rfl,rfl,rfl,rfl⟩)) (@qa_consP _ _ _ _ _ (@q_v3 _ _ 2 _ (by exact⟨rfl,rfl,rfl,rfl⟩)) (@qa_consP _ _ _ _ _ (@q_v3 _ _ 3 _ (by exact⟨rfl,rfl,rfl,rfl⟩)) (@qa_consP _ _ _ _ _ (@q_v3 _ _ 4 _ (by exact⟨rfl,rfl,rfl,rfl⟩)) (@qa_nil _) (by rfl)) (by rfl)) (by rfl)) (by rfl)) (by rfl)) (by rfl) (by decide) (by rfl) (by rfl))),(And.intro rfl (And.intro rfl (And.intro rfl (And.intro rfl (And.intro rfl trivial))))),(And.intro (And.intro rfl (And.intro rfl rfl)) (And.intro (And.intro rfl (And.intro rfl rfl)) (And.intro (And.intro rfl (And.intro rfl rfl)) (And.intro (And.intro rfl (And.intro rfl rfl)) (And.intro (And.intro rfl (And.intro rfl rfl)) trivial))))),(LamScope.mk rfl rfl rfl (by decide +kernel)),(fun _ _ _ _ _=>rfl)]]],#["d",#["u",#["M",#["a",6],#["ac",["_law_sea", "_law_draught", "_law_fairway", "_law_side"],[1,2,3,4],S_said,hr,hcode,hC,(fun _=>rfl),(fun E f c A outer s H hr=>(@q_call _ _ _ _ _ _ _ _ E _ _ _ Ai0 (L2.Room.mono (hr.deeper _) (by decide)) (passL (fun _ _ _ z=>z)) (@qa_consP _ _ _ _ _ (@q_v3 _ _ 0 _ (by exact⟨rfl,rfl,rfl,rfl⟩)) (@qa_consP _ _ _ _ _ (@q_v3 _ _ 1 _ (by exact⟨rfl,rfl,rfl,rfl⟩)) (@qa_consP _ _ _ _ _ (@q_v3 _ _ 2 _ (by exact⟨rfl,rfl,rfl,rfl⟩)) (@qa_consP _ _ _ _ _ (@q_v3 _ _ 3 _ (by exact⟨rfl,rfl,rfl,rfl⟩)) (@qa_nil _) (by rfl)) (by rfl)) (by rfl)) (by rfl)) (by rfl) (by decide) (by rfl) (by rfl))),(And.intro rfl (And.intro rfl (And.intro rfl (And.intro rfl trivial)))),(And.intro (And.intro rfl (And.intro rfl rfl)) (And.intro (And.intro rfl (And.intro rfl rfl)) (And.intro (And.intro rfl (And.intro rfl rfl)) (And.intro (And.intro rfl (And.intro rfl rfl)) trivial)))),(LamScope.mk rfl rfl rfl (by decide +kernel)),(fun _ _ _ _ _=>rfl)]]],#["e",#["g",#["a",6]]]]]]]],?_⟩
  have szn:∀n,n<20→n<sizeLine:=fun n h=>Nat.lt_of_le_of_lt (show n≤100 by omega) (Kt (by decide))
  simp![];refine P3 B hT1 hT0 th ok rfl (fun Q' h=>by simp![];exact h) fun x0 G0 s0 f0=>⟨szl (by decide),fun p hp=>⟨⟨_,rfl⟩,?_⟩⟩
  have p0:G p=none:=s0.none hp;have s1:Sub G (Ab G0 p (.lst [x0])):=s0.skip hp;have e1:Ab G0 p (.lst [x0]) p=some (.lst [x0]):=Aa;have f0:FoundIs (hid (Ab G0 p (.lst [x0])) p) (duF fl true) x0:=f0.sub fun b o e=>by
   rw[C0]
   have:=(Uh e).2
   exact Cz (fun z=>by subst z;rw[hp] at this;cases this) this
  generalize Ab G0 p (.lst [x0])=G1 at *;refine P2 B (s1 _ _ hT1) (s1 _ _ hT0) (th.sub s1) ok rfl (fun Q' h=>by simp![];exact h) fun x1 G2 s2 f1=>⟨_,s2 _ _ e1,szn _ (by simp),⟨_,rfl⟩,?_⟩
  have f1:=f1.sub (L9 e1);have f0:=f0.sub (Ck s2);rw[←C0 (o:=.lst ([x0]++[x1]))] at f0 f1;have s3:Sub G (Ab G2 p (.lst ([x0]++[x1]))):=T9 (s1.trans s2) p0;have e3:Ab G2 p (.lst ([x0]++[x1])) p=some (.lst [x0,x1]):=Aa;generalize Ab G2 p (.lst ([x0]++[x1]))=G3 at *;refine P1 B (s3 _ _ hT1) (s3 _ _ hT0) (th.sub s3) ok rfl (fun Q' h=>by simp![];exact h) fun x2 G4 s4 f2=>⟨_,s4 _ _ e3,szn _ (by simp),⟨_,rfl⟩,?_⟩
  have f2:=f2.sub (L9 e3);have f1:=f1.sub (Ck s4);have f0:=f0.sub (Ck s4);rw[←C0 (o:=.lst ([x0,x1]++[x2]))] at f0 f1 f2;have s5:Sub G (Ab G4 p (.lst ([x0,x1]++[x2]))):=T9 (s3.trans s4) p0;have e5:Ab G4 p (.lst ([x0,x1]++[x2])) p=some (.lst [x0,x1,x2]):=Aa;generalize Ab G4 p (.lst ([x0,x1]++[x2]))=G5 at *;refine Mp B (s5 _ _ hT1) (s5 _ _ hT0) (th.sub s5) ok rfl (fun Q' h=>by simp![];exact h) fun x3 G6 s6 f3=>⟨_,s6 _ _ e5,szn _ (by simp),?_⟩
  have f3:=f3.sub (L9 e5);have f2:=f2.sub (Ck s6);have f1:=f1.sub (Ck s6);have f0:=f0.sub (Ck s6);rw[←C0 (o:=.lst ([x0,x1,x2]++[x3]))] at f0 f1 f2 f3;have s7:Sub G (Ab G6 p (.lst ([x0,x1,x2]++[x3]))):=T9 (s5.trans s6) p0;have e7:Ab G6 p (.lst ([x0,x1,x2]++[x3])) p=some (.lst [x0,x1,x2,x3]):=Aa;generalize Ab G6 p (.lst ([x0,x1,x2]++[x3]))=G7 at *;exact Fq.of (k p _ G7 s7 e7 ⟨x0,x1,x2,x3,rfl,f0.sub hid_sub,f1.sub hid_sub,f2.sub hid_sub,f3.sub hid_sub⟩)
end
section
variable{P:Program}{w:World}{K:W.Frag}{mg:Str→Option Value}{base:Heap}
theorem Nf{G:Gp}:∀{ns:List Str},RepDs G (ns.map D.str) (ns.map PyData.str)
 |[]=>.nil
 |n::r=>.cons (.str n) Nf
theorem Nu:∀{ns:List Str},(∀x∈ns,PyData.canLay0 (.str x)=true)→PyData.canLayAll0 (ns.map PyData.str)=true
 |[],_=>rfl
 |n::r,h=>by rw[List.map_cons,PyData.canLayAll0,Nu fun x hx=>h x (by simp[hx]),h n (by simp)];rfl
theorem N5:∀ns:List Str,PyData.depthAll (ns.map PyData.str)=0
 |[]=>rfl
 |n::r=>by rw[List.map_cons,PyData.depthAll,N5 r];rfl
theorem N8(i:Str):∀ns:List Str,((ns.map PyData.str).any fun y=>PyData.eqv y (.str i))=decide (i∈ns)
 |[]=>by simp
 |n::r=>by
  rw[List.map_cons,List.any_cons,N8 i r];show((n == i)||decide (i∈r))=_
  by_cases h:n=i
  ·subst h;simp
  ·have h':¬i=n:=fun e=>h e.symm;simp[h,h']
theorem Zx{G:Gp}{i:Str}{b:Addr}{ns:List Str}{neg:Bool}{Q:DK}(hb:G b=some (.lst (ns.map D.str)))(hi:PyData.canLay0 (.str i)=true)(hn:∀x∈ns,PyData.canLay0 (.str x)=true)(h:Q (.bl (if neg then !decide (i∈ns) else decide (i∈ns))) G):dInD neg (.str i) (.ref b) G Q:=
 ⟨.str i,ns.map PyData.str,.str i,.inl (.lst hb Nf),hi,Nu hn,by rw[N5];exact Nat.le_trans (show 1+min 0 _≤1 by omega) (by decide),by rw[N8];exact h⟩
def B8(f:Nat→Bool)(n:Nat):List Str:=((List.range n).filter f).map fun i=>wdN.getD i ""
abbrev fiveW:List Str:=["sea", "draught", "fairway", "side", "columns"]
abbrev fourW:List Str:=["sea", "draught", "fairway", "side"]
def Pc:Option Str→D
 |some x=>.tup [.str x]
 |none=>.non
def duS(f:Nat→Bool)(b:Bool):D:=Pc ((duF f b).map fun i=>kindNames.getD i "")
def Df(f:Nat→Bool)(wl:List Str):Option Str:=(wl.filter fun x=>decide (x∈B8 f 5)).head?
theorem Ad7(f:Nat→Bool):Pc (Df f fiveW)=duS f true:=by
 unfold Df duS B8 duF;rw[show List.range 5=[0,1,2,3,4] from rfl];simp only[List.filter_cons,List.filter_nil];cases f 0<;>cases f 1<;>cases f 2<;>cases f 3<;>cases f 4<;>rfl
theorem Ps(f:Nat→Bool):Pc (Df f fourW)=duS f false:=by
 unfold Df duS B8 duF;rw[show List.range 5=[0,1,2,3,4] from rfl];simp only[List.filter_cons,List.filter_nil];cases f 0<;>cases f 1<;>cases f 2<;>cases f 3<;>cases f 4<;>rfl
theorem Nw:∀x∈fiveW,PyData.canLay0 (.str x)=true:=by
 intro x hx;simp only[fiveW,List.mem_cons,List.not_mem_nil,or_false] at hx;rcases hx with rfl|rfl|rfl|rfl|rfl<;>decide +kernel
theorem Xu{f:Nat→Bool}:∀x∈B8 f 5,x∈fiveW:=by
 intro x hx;obtain⟨i,hi,rfl⟩:=List.mem_map.mp hx;have hi:i<5:=List.mem_range.mp (List.mem_filter.mp hi).1
 match i,hi with
 |0,_=>decide
 |1,_=>decide
 |2,_=>decide
 |3,_=>decide
 |4,_=>decide
def Ua:D→Str
 |.str x=>x
 |_=>""
abbrev s_L_due:Stmt:=top 121
abbrev Aah:List Str:=["_law_bad", "_law_found", "_law_words", "_law_some"]
abbrev Ee:List Str:=["_law_bad"]
theorem sc_L_due:FnScope Aah Ee (defScope s_L_due):=⟨rfl,rfl,rfl,by decide +kernel,rfl,by decide +kernel,by decide +kernel⟩
theorem nd_L_due_1:((["_law_word"]:List Str)++(["_law_bad", "_law_found", "_law_words", "_law_some"]:List Str)).Nodup:=by decide +kernel
def Ub:DSp:=fun ds G Q _=>∃b f,ds=[.ref b]∧G b=some (.lst ((B8 f 5).map D.str))∧∀p G',Sub G G'→G' p=some (.lst [duS f true,duS f false,duS f false,duS f false])→Q (.ref p) G'
theorem Adi{f:Addr}{fd:FuncData}(F:Fun K "_law_due" "_law_due" s_L_due f fd)(T:Nums mg):FnOk P w K mg base CX0 1 f fd Ee (liftSp K Ub):=by
 refine okD F sc_L_due (fun ds G Q E h=>?_) (fun cdv A outer s H XE ds G Q E hr h=>?_)
 ·obtain⟨_,_,rfl,_⟩:=h;rfl
 ·obtain⟨b,fl,rfl,hb,k⟩:=h;refine⟨_,#["d",#["S",1,sc_L_due.nd],#["d",#["bb",#["k",2,sc_L_due.nd],#["d",#["bc",["_law_word"],["_law_bad", "_law_found", "_law_words", "_law_some"],3,#["a",2],#["l",0,nd_L_due_1],#["8",(@qt_cmp _ _ _ _ _ _ _ _ (@o_inD _ _ hr) #["a",0] #["m",1] (by with_unfolding_all rfl))],#["G",#["b",#["a",0]]],sc_L_due.nd,(by first|exact .inl rfl|exact .inr rfl),(by first|exact .inl rfl|exact .inr rfl)],#["e",#["u",#["M",#["a",1],#["am",#["P",(@o_neE _ _ hr),#["a",3],#["ak"]],#["p",#["a",3]],(@q_non _ _ _)]]]]]],#["e",#["g",#["a",1]]]]],?_⟩
  have sz:∀{n},n≤100→n≤sizeLine:=fun h=>szl (by omega)
  have sz0:=sz (n:=0) (by decide)
  have sz1:=sz (n:=1) (by decide)
  have sz4:=sz (n:=4) (by decide)
  have sz5:=sz (n:=5) (by decide)
  simp![sz0,sz5,sz1,sz4];intro pf hf;have s0:Sub G (Ab G pf (.lst [])):=Sub.new hf;have f0:Ab G pf (.lst []) pf=some (.lst []):=Aa;have hb0:=Ah (u:=.lst []) hb hf;have nbf:b≠pf:=gne hb hf;generalize Ab G pf (.lst [])=G0 at *;intro p1 h1;have s1:=s0.trans (Sub.new (o:=.lst (fiveW.map D.str)) h1);have f1:=Ah (u:=.lst (fiveW.map D.str)) f0 h1;have b1:=Ah (u:=.lst (fiveW.map D.str)) hb0 h1;have a1:Ab G0 p1 (.lst (fiveW.map D.str)) p1=some (.lst (fiveW.map D.str)):=Aa;have n1:pf≠p1:=gne f0 h1;rw[show [D.str "sea",D.str "draught",D.str "fairway",D.str "side",D.str "columns"]=fiveW.map D.str from rfl];generalize Ab G0 p1 (.lst (fiveW.map D.str))=G1 at *;intro p2 h2;have s2:=s1.trans (Sub.new (o:=.lst [.ref p1]) h2);have f2:=Ah (u:=.lst [.ref p1]) f1 h2;have b2:=Ah (u:=.lst [.ref p1]) b1 h2;have a2:=Ah (u:=.lst [.ref p1]) a1 h2;have c2:Ab G1 p2 (.lst [.ref p1]) p2=some (.lst [.ref p1]):=Aa;generalize Ab G1 p2 (.lst [.ref p1])=G2 at *;intro p3 h3;have s3:=s2.trans (Sub.new (o:=.lst (fourW.map D.str)) h3);have f3:=Ah (u:=.lst (fourW.map D.str)) f2 h3;have b3:=Ah (u:=.lst (fourW.map D.str)) b2 h3;have a3:=Ah (u:=.lst (fourW.map D.str)) a2 h3;have c3:=Ah (u:=.lst (fourW.map D.str)) c2 h3;have d3:Ab G2 p3 (.lst (fourW.map D.str)) p3=some (.lst (fourW.map D.str)):=Aa;have n3:pf≠p3:=gne f2 h3;rw[show [D.str "sea",D.str "draught",D.str "fairway",D.str "side"]=fourW.map D.str from rfl];generalize Ab G2 p3 (.lst (fourW.map D.str))=G3 at *;intro p4 h4;have s4:=s3.trans (Sub.new (o:=.lst [.ref p3]) h4);have f4:=Ah (u:=.lst [.ref p3]) f3 h4;have b4:=Ah (u:=.lst [.ref p3]) b3 h4;have a4:=Ah (u:=.lst [.ref p3]) a3 h4;have c4:=Ah (u:=.lst [.ref p3]) c3 h4;have d4:=Ah (u:=.lst [.ref p3]) d3 h4;have e4:Ab G3 p4 (.lst [.ref p3]) p4=some (.lst [.ref p3]):=Aa;generalize Ab G3 p4 (.lst [.ref p3])=G4 at *;refine⟨p4,3,rfl,rfl,[.ref p3],e4,by decide,sz (by simp),by decide,fun p5 h5=>?_⟩
  have s5:=s4.trans (Sub.new (o:=.lst (List.replicate (3:Int).toNat [D.ref p3]).flatten) h5);have f5:=Ah (u:=.lst (List.replicate (3:Int).toNat [D.ref p3]).flatten) f4 h5;have b5:=Ah (u:=.lst (List.replicate (3:Int).toNat [D.ref p3]).flatten) b4 h5;have a5:=Ah (u:=.lst (List.replicate (3:Int).toNat [D.ref p3]).flatten) a4 h5;have c5:=Ah (u:=.lst (List.replicate (3:Int).toNat [D.ref p3]).flatten) c4 h5;have d5:=Ah (u:=.lst (List.replicate (3:Int).toNat [D.ref p3]).flatten) d4 h5;have e5:Ab G4 p5 (.lst (List.replicate (3:Int).toNat [D.ref p3]).flatten) p5=some (.lst [.ref p3,.ref p3,.ref p3]):=Aa;generalize Ab G4 p5 (.lst (List.replicate (3:Int).toNat [D.ref p3]).flatten)=G5 at *;refine Kp (zs:=[.ref p1,.ref p3,.ref p3,.ref p3]) c5 e5 rfl (sz (by simp)) fun p6 h6=>?_
  have s6:=s5.trans (Sub.new (o:=.lst [.ref p1,.ref p3,.ref p3,.ref p3]) h6);have f6:=Ah (u:=.lst [.ref p1,.ref p3,.ref p3,.ref p3]) f5 h6;have b6:=Ah (u:=.lst [.ref p1,.ref p3,.ref p3,.ref p3]) b5 h6;have a6:=Ah (u:=.lst [.ref p1,.ref p3,.ref p3,.ref p3]) a5 h6;have d6:=Ah (u:=.lst [.ref p1,.ref p3,.ref p3,.ref p3]) d5 h6;have e6:Ab G5 p6 (.lst [.ref p1,.ref p3,.ref p3,.ref p3]) p6=some (.lst [.ref p1,.ref p3,.ref p3,.ref p3]):=Aa;have n6:pf≠p6:=gne f5 h6;generalize Ab G5 p6 (.lst [.ref p1,.ref p3,.ref p3,.ref p3])=G6 at *;refine⟨_,Av e6,?_⟩;have hs:∀{G':Gp} {q:Addr} {o:GO},Sub (hid G6 pf) (hid G' pf)→pf≠q→G6 q=some o→G' q=some o:=fun sb n e=>hid_sub _ _ (sb _ _ (Cz n e));refine Gf (fun i σ G'=>∃v1 v2,σ=[some (.ref b),some (.ref pf),v1,v2]∧Sub (hid G6 pf) (hid G' pf)∧G' pf=some (.lst ([duS fl true,duS fl false,duS fl false,duS fl false].take i))) ⟨none,none,rfl,Sub.refl _,f6⟩ (fun i σ G' _ ⟨_,_,_,sb,_⟩=>Av (hs sb n6 e6)) ?_ ?_
  ·rintro i x σ G7 hx ⟨v1,v2,rfl,sb,f7⟩;obtain⟨q,wl,rfl,gq,⟨hwl,mwl⟩,nq,ed⟩:∃q wl,x=.ref q∧G7 q=some (.lst (wl.map D.str))∧(wl.length≤5∧∀t∈wl,t∈fiveW)∧pf≠q∧[duS fl true,duS fl false,duS fl false,duS fl false].take (i+1)=[duS fl true,duS fl false,duS fl false,duS fl false].take i++[Pc (Df fl wl)]:=by
    match i with
    |0=>cases hx;exact⟨p1,fiveW,rfl,hs sb n1 a6,⟨by decide,by decide⟩,n1,by rw[Ad7];rfl⟩
    |1=>cases hx;exact⟨p3,fourW,rfl,hs sb n3 d6,⟨by decide,by decide⟩,n3,by rw[Ps];rfl⟩
    |2=>cases hx;exact⟨p3,fourW,rfl,hs sb n3 d6,⟨by decide,by decide⟩,n3,by rw[Ps];rfl⟩
    |3=>cases hx;exact⟨p3,fourW,rfl,hs sb n3 d6,⟨by decide,by decide⟩,n3,by rw[Ps];rfl⟩
    |i+4=>cases hx
   have hi:i<4:=(List.getElem?_eq_some_iff.mp hx).1;have b7:=hs sb nbf.symm b6;simp![sz0];refine⟨_,Av gq,fun p hp=>?_⟩;refine A8 (fun x=>.tup [x]) (fun x=>decide (Ua x∈B8 fl 5)) (by rw[List.length_map,sizeLine_eq];omega) (fun _=>Av (Ah gq hp)) (by decide) (fun x ys hx hl R1 R2 g1 g2=>?_) ?_
   ·obtain⟨t,ht,rfl⟩:=List.mem_map.mp hx;simp![sz1,hl];refine Zx (Ah b7 hp) (Nw t (mwl t ht)) (fun x hx=>Nw x (Xu x hx)) ⟨_,rfl,?_⟩
    by_cases hm:t∈B8 fl 5
    ·exact it0 (by simpa using hm) ⟨Aa,by rw[B4];exact Fg.of (g1 (decide_eq_true hm))⟩
    ·exact it1 (by simpa using hm) (Fg.of (g2 (decide_eq_false hm)))
   ·have el:∃ls,List.map (fun x=>D.tup [x]) (List.filter (fun x=>decide (Ua x∈B8 fl 5)) (List.map D.str wl))=ls∧((ls=[]∧Df fl wl=none)∨∃t r,ls=.tup [.str t]::r∧Df fl wl=some t):=by
     refine⟨_,rfl,?_⟩;rw[List.filter_map,List.map_map];unfold Df;rw[show((fun x=>decide (Ua x∈B8 fl 5)) ∘ D.str)=fun x=>decide (x∈B8 fl 5) from rfl];cases List.filter (fun x=>decide (x∈B8 fl 5)) wl with
     |nil=>exact .inl ⟨rfl,rfl⟩
     |cons t r=>exact .inr ⟨t,_,rfl,rfl⟩
    obtain⟨ls,els,hls⟩:=el;rw[els];have npf:pf≠p:=gne f7 hp;have f8:=Ah (u:=.lst ls) f7 hp;have s8:Sub (hid G6 pf) (hid (Ab G7 p (.lst ls)) pf):=sb.trans (by rw[Ik npf];exact Sub.new (D2 hp))
    have e8:Ab G7 p (.lst ls) p=some (.lst ls):=Aa;generalize Ab G7 p (.lst ls)=G8 at *;refine⟨⟨_,f8⟩,fun p9 hp9=>?_⟩;have np9:pf≠p9:=gne f8 hp9;have f9:=Ah (u:=.lst []) f8 hp9;have s9:Sub (hid G6 pf) (hid (Ab G8 p9 (.lst [])) pf):=s8.trans (by rw[Ik np9];exact Sub.new (D2 hp9))
    have e9:=Ah (u:=.lst []) e8 hp9;generalize Ab G8 p9 (.lst [])=G9 at *;have fin:∀y,y=Pc (Df fl wl)→∃ds,G9 pf=some (.lst ds)∧ds.length<sizeLine∧Fs (fun σ G'=>∃v1 v2,σ=[some (.ref b),some (.ref pf),v1,v2]∧Sub (hid G6 pf) (hid G' pf)∧G' pf=some (.lst ([duS fl true,duS fl false,duS fl false,duS fl false].take (i+1)))) [some (.ref b),some (.ref pf),some (.ref q),some (.ref p)] (Ab G9 pf (.lst (ds++[y]))):=fun y ey=>
     ⟨_,f9,by rw[List.length_take,sizeLine_eq];omega,Fs.of ⟨_,_,rfl,by rw[C0];exact s9,by rw[Aa,ed,ey]⟩⟩
    refine⟨p,rfl,ls,e9,?_⟩;rcases hls with ⟨rfl,en⟩|⟨t,r,rfl,es⟩
    ·exact it1 (by decide) (fin _ (by rw[en];rfl))
    ·exact it0 rfl ⟨.tup [.str t],by rw[Ba e9,R7],fin _ (by rw[es];rfl)⟩
  ·rintro σ G7 ⟨v1,v2,rfl,sb,f7⟩;simp![];refine Fq.of (k pf G7 (fun q o e=>?_) f7)
   have:q≠pf:=gne e hf
   exact hs sb this.symm (s6 _ _ e)
end
section
variable{P:Program}{w:World}{K:W.Frag}{mg:Str→Option Value}{base:Heap}{T0 T1 M:Addr}{tbl:List (Str×Addr)}
theorem Step.of_sub{a:Addr}{G G1 G2:Gp}(x:Step a G G1)(s:Sub G1 G2):Step a G G2:=by
 obtain⟨b,hb⟩:=x.box;exact⟨⟨b,s _ _ hb⟩,x.sub.trans (Ck s)⟩
theorem hid2{G:Gp}{a p:Addr}{o:GO}:hid (hid (Ab G p o) a) p=hid (hid G a) p:=by
 funext b;unfold hid Ab
 by_cases e:b=p
 ·simp only[if_pos e]
 ·simp only[if_neg e]
theorem Xt{f:Nat→Bool}{n:Nat}(h:f n=false):B8 f (n+1)=B8 f n:=by
 unfold B8;rw[List.range_succ,List.filter_append];simp[h]
theorem Aac{f:Nat→Bool}{n:Nat}{x:Str}(hx:wdN[n]? = some x):B8 (F4 f n) (n+1)=B8 f n++[x]:=by
 have e:(List.range n).filter (F4 f n)=(List.range n).filter f:=List.filter_congr fun i hi=>Q4 (by have:=List.mem_range.mp hi;omega)
 unfold B8;rw[List.range_succ,List.filter_append,e,List.map_append];simp[R9,List.getD_eq_getElem?_getD,hx]
theorem W9(i:Nat):PyData.canLay0 (.str (kindNames.getD i ""))=true:=by
 have h:∀x∈(Str.ofString "")::kindNames,PyData.canLay0 (.str x)=true:=by decide +kernel
 refine h _ ?_;rw[List.getD_eq_getElem?_getD];cases e:kindNames[i]? with
 |none=>simp
 |some x=>exact List.mem_cons_of_mem _ (List.mem_of_getElem? e)
abbrev s_L_right:Stmt:=top 123
abbrev T4:List Str:=["_law_box_here", "_law_good", "_law_turn", "_law_things", "_law_bad", "_law_word", "_law_kept", "_law_found", "_law_one", "_law_due_here"]
abbrev Cq:List Str:=["_law_box_here"]
theorem sc_L_right:FnScope T4 Cq (defScope s_L_right):=⟨rfl,rfl,rfl,by decide +kernel,rfl,by decide +kernel,by decide +kernel⟩
def L4(T0 T1:Addr)(q0:Str):DSp:=fun ds G Q _=>∃a,ds=[.ref a]∧(∃b,G a=some (.lst [.int b]))∧G T0=some (.tbl q0)∧G T1=some (.tbl qC)∧∀G',Step a G G'→Q (.bl true) G'
theorem Wv{f:Addr}{fd:FuncData}{q0:Str}(F:Fun K "_law_right" "_law_right" s_L_right f fd)(T:Nums mg)(Ahw:Def P w K mg base CX0 1 "_law_take" p_L_take spTake)(Ai1:Def P w K mg base CX0 2 "_law_fair" p_L_fair spFair)(Ai2:Def P w K mg base CX0 2 "_law_put_bad" p_L_put_bad spPut)(Ai3:Def P w K mg base CX0 16 "_law_calls" p_L_calls (spCalls T0 T1 q0))(Ai4:Def P w K mg base CX0 1 "_law_due" Ee Ub) :
  FnOk P w K mg base CX0 17 f fd Cq (liftSp K (L4 T0 T1 q0)):=by
 refine okD F sc_L_right (fun ds G Q E h=>?_) (fun cdv A outer s H XE ds G Q E hr h=>?_)
 ·obtain⟨_,rfl,_⟩:=h;rfl
 ·obtain⟨a,rfl,hG,hT0,hT1,q⟩:=h;refine⟨_,#["d",#["i",1,sc_L_right.nd,#["s",#["f",Ai1,hr,#["D",#["a",0]]],#["G",#["bd",#["be",#["f",Ahw,hr,#["D",#["a",0]]]]]]]],#["7",#["af",T,#["k",2,sc_L_right.nd],#["d",#["aE",3,4,sc_L_right.nd,#["c",#["a",1],#["c",#["ak"],(@qa_nil _)]]],#["d",#["bf",#["k",5,sc_L_right.nd],#["e",#["H",#["ae",#["f",Ahw,hr,#["D",#["a",0]]]],#["d",#["u",#["M",#["a",4],#["a",5]]],#["e",#["i",3,sc_L_right.nd,#["f",Ai2,hr,#["c",#["a",0],#["c",#["a",3],#["b",#["a",5]]]]]]]]]]],#["d",#["aE",6,7,sc_L_right.nd,#["c",#["aF",(@c_repr _ _ hr),T,#["b",#["a",3]]],#["b",#["f",Ai3,hr,#["b",#["a",3]]]]]],#["d",#["bg",T,#["c",#["a",7],#["b",#["f",Ai4,hr,#["b",#["a",4]]]]],#["v",2,#["n",#["k",8,sc_L_right.nd],#["w",#["k",9,sc_L_right.nd]]]],#["e",#["x",#["t",#["B",#["t",#["5",#["P",(@o_isN _),#["a",9],(@q_non _ _ _)],#["6",#["j",#["h",#["F",T,#["c",#["a",8],#["b",#["A","list",T]]]]]]]]],#["C",#["t",#["5",#["P",(@o_notN _),#["a",9],(@q_non _ _ _)],#["6",#["P",(@o_neD _ _ hr),#["a",8],#["a",9]]]]]]]]]]],#["e",#["x",#["av",#["aF",(@c_repr _ _ hr),T,#["b",#["a",3]]],#["a",6]]]]]]]]]]],?_⟩;have sz:∀{n},n≤100→n≤sizeLine:=fun h=>szl (by omega)
  have sz0:=sz (n:=0) (by decide)
  have sz1:=sz (n:=1) (by decide)
  have sz2:=sz (n:=2) (by decide)
  have sz5:=sz (n:=5) (by decide)
  simp![sz2,sz1];refine⟨a,16,rfl,by decide,by decide,hG,fun sa h d ws G1 ok st1=>?_⟩
  intro pz hpz;refine pick_go st1.box hpz rfl (by decide) (by decide) fun u hu G2 st2 sb2=>?_
  obtain⟨b,rfl⟩:∃b,u=.str (Al b).1:=by
   simp only[List.mem_cons,List.not_mem_nil,or_false] at hu;rcases hu with rfl|rfl
   ·exact⟨true,rfl⟩
   ·exact⟨false,rfl⟩
  have st3:=st1.trans st2;have hw:=ok.sea.wide;have hh:=ok.sea.high;have nT0:a≠T0:=fun e=>by obtain⟨b,hb⟩:=hG;rw[e,hT0] at hb;cases hb
  have nT1:a≠T1:=fun e=>by obtain⟨b,hb⟩:=hG;rw[e,hT1] at hb;cases hb
  rw[Pt];refine⟨sz (by simp),?_⟩
  have th0:∀X:Gp,ThOk X sa h d ws (fun _=>false) (seaD sa) (.int d) (Ai ws) (.str (Al b).1) (.tup [.int 1]):=fun X=>by
   have d1:=ok.d1;have d9:=ok.d9;refine⟨.tup (by rw[List.length_map];omega) fun x hx=>?_,.int _ (by omega),Ls (by rw[ok.len];omega) fun x hx=>?_,.str _ (by cases b<;>simp[Al]),.tup (by simp) fun x hx=>by rw[List.mem_singleton.mp hx];exact .int _ (by decide),fun _=>rfl,fun z=>(by cases z),fun _=>rfl,fun z=>(by cases z),fun _=>rfl,fun z=>(by cases z),fun _=>⟨b,rfl⟩,fun z=>(by cases z),fun _=>rfl,fun z=>(by cases z)⟩
   ·obtain⟨c,hc,rfl⟩:=List.mem_map.mp hx
    have:=ok.sea.col c hc
    exact Ls (by omega) fun x hx=>by have:=this.2 x hx;omega
   ·obtain⟨i,hi,rfl⟩:=List.getElem_of_mem hx
    have:=ok.row i (by rw[←ok.len];exact hi)
    rw[D4 (List.getElem?_eq_getElem hi)] at this;omega
  simp only[List.cons_append,List.nil_append];generalize (Al b).1=side at *;generalize hgd:D.tup [seaD sa,.int d,Ai ws,.str side,.tup [.int 1]]=gd;refine Bn (n:=12) (fun i σ G'=>∃v2 v3 v4 v5 v6 v7 v8 v9,σ=[some (.ref a),some gd,v2,v3,v4,v5,v6,v7,v8,v9]∧Step a G G') ⟨none,none,none,none,none,none,none,none,rfl,st3⟩ ?_ ?_
  ·rintro i σ G3 hi ⟨v2,v3,v4,v5,v6,v7,v8,v9,rfl,st⟩;simp![sz0,sz5];intro pb hpb;have nb:=Step.ne st.box hpb;have s4:=(Step.refl st.box).lay (o:=.lst []) hpb;have b4:Ab G3 pb (.lst []) pb=some (.lst []):=Aa;generalize Ab G3 pb (.lst [])=G4 at *;intro pw hpw;have nw4:=Step.ne s4.box hpw;have nbw:pb≠pw:=gne b4 hpw;have s5:=s4.lay (o:=.lst (wdN.map D.str)) hpw;have b5:=Ah (u:=.lst (wdN.map D.str)) b4 hpw;have w5:Ab G4 pw (.lst (wdN.map D.str)) pw=some (.lst (wdN.map D.str)):=Aa;rw[show [D.str "columns",D.str "side",D.str "fairway",D.str "draught",D.str "sea"]=wdN.map D.str from rfl];generalize Ab G4 pw (.lst (wdN.map D.str))=G5 at *;refine⟨_,Av w5,?_⟩;refine Gf (fun j σ G'=>∃v5 aa dd wd u c fl,σ=[some (.ref a),some gd,some (.int (i:Nat)),some (.tup [aa,dd,wd,u,c]),some (.ref pb),v5,v6,v7,v8,v9]∧Step a G3 G'∧ThOk (hid (hid G' a) pb) sa h d ws fl aa dd wd u c∧(∀k,j≤k→fl k=false)∧G' pb=some (.lst ((B8 fl j).map D.str))∧G' pw=some (.lst (wdN.map D.str))) ⟨v5,_,_,_,_,_,_,by rw[←hgd],s5,th0 _,fun _ _=>rfl,b5,w5⟩ (fun j σ G' _ ⟨_,_,_,_,_,_,_,_,_,_,_,_,e⟩=>Av e) ?_ ?_
   ·rintro j x σ G6 hx ⟨v5,aa,dd,wd,u,c,fl,rfl,s6,th,hfl,b6,w6⟩;obtain⟨x,hy,rfl⟩:∃y,wdN[j]? = some y∧x=D.str y:=by
     rw[List.getElem?_map] at hx;obtain⟨y,h1,h2⟩:=Option.map_eq_some_iff.mp hx;exact⟨y,h1,h2.symm⟩
    have hj:j<wdN.length:=(List.getElem?_eq_some_iff.mp hy).1;have hj:j<5:=hj;simp![];refine Bs s6.box (by decide) (by decide) fun r m r0 r1=>?_
    have s7:=s6.take m;have b7:Ab G6 a (.lst [.int m]) pb=some (.lst ((B8 fl j).map D.str)):=by rw[Ad nb.symm];exact b6
    have w7:Ab G6 a (.lst [.int m]) pw=some (.lst (wdN.map D.str)):=by rw[Ad nw4.symm];exact w6
    have th7:ThOk (hid (hid (Ab G6 a (.lst [.int m])) a) pb) sa h d ws fl aa dd wd u c:=by rw[C0];exact th
    generalize Ab G6 a (.lst [.int m])=G7 at *;refine⟨_,rfl,?_⟩
    by_cases hr0:r=0
    ·refine it0 (by simpa using hr0) ⟨⟨_,b7⟩,_,b7,?_,?_⟩
     ·rw[List.length_map,sizeLine_eq]
      have:(B8 fl j).length≤j:=by
       unfold B8;rw[List.length_map];exact Nat.le_trans (List.length_filter_le _ _) (by rw[List.length_range];exact Nat.le_refl _)
      omega
     ·have s8:=s7.write (o:=.lst ((B8 fl j).map D.str++[.str x])) hpb nb;have b8:Ab G7 pb (.lst ((B8 fl j).map D.str++[.str x])) pb=some (.lst ((B8 (F4 fl j) (j+1)).map D.str)):=by rw[Aa,Aac hy,List.map_append];rfl
      have w8:Ab G7 pb (.lst ((B8 fl j).map D.str++[.str x])) pw=some (.lst (wdN.map D.str)):=by rw[Ad nbw.symm];exact w7
      rw[←hid2 (o:=.lst ((B8 fl j).map D.str++[.str x]))] at th7;generalize Ab G7 pb (.lst ((B8 fl j).map D.str++[.str x]))=G8 at *;refine⟨a,aa,dd,wd,u,c,sa,h,d,ws,fl,j,x,_,rfl,hy,s8.box,ok,th7,hfl,fun a' dd' w' u' c' G9 st9 th9=>Fs.of ⟨_,_,_,_,_,_,rfl,s8.trans st9,_,th9 _ (Ck st9.sub) (fun q o e=>?_),fun k hk=>?_,st9.get nb b8,st9.get nw4 w8⟩⟩
      ·obtain⟨e1,e2⟩:=Uh e;obtain⟨m',hm'⟩:=s8.box;exact Cz (fun z=>by subst z;rw[b8] at e1;cases e1) (Cz (fun z=>by subst z;rw[hm'] at e1;cases e1) e2)
      ·rw[Q4 (by omega)];exact hfl k (by omega)
    ·refine it1 (by simpa using hr0) (Fs.of ⟨_,_,_,_,_,_,rfl,s7,fl,th7,fun k hk=>hfl k (by omega),by rw[Xt (hfl j (Nat.le_refl _))];exact b7,w7⟩)
   ·rintro σ G6 ⟨v5,aa,dd,wd,u,c,fl,rfl,s6,th,hfl,b6,w6⟩;have th6:=th.sub (hid_sub.trans hid_sub);have gx:Gx G6 3 (.tup [aa,dd,wd,u,c]):=.tup (by simp) fun y hy=>by
     simp only[List.mem_cons,List.not_mem_nil,or_false] at hy;rcases hy with rfl|rfl|rfl|rfl|rfl
     ·exact th6.ga
     ·exact th6.gd
     ·exact th6.gw
     ·exact th6.gu
     ·exact th6.gc
    obtain⟨px,shx⟩:=gx.sh;have sT:=st.trans s6;simp![];refine⟨px,shx.rep,shx.ok,Aal (Nat.le_trans shx.len (by decide)),Nat.le_trans shx.dep (by decide),aa,dd,wd,u,c,sa,h,d,ws,fl,rfl,ok,th6,sT.get nT0 hT0,sT.get nT1 hT1,fun p xs G7 s7 e7 fs=>?_⟩
    refine⟨pb,fl,rfl,s7 _ _ b6,fun pd G8 s8 e8=>?_⟩;obtain⟨x0,x1,x2,x3,rfl,i0,i1,i2,i3⟩:=fs;have e7:=s8 _ _ e7;have s78:=s7.trans s8;have it:Bl G8 [.ref p,.ref pd]=some [[x0,x1,x2,x3],[duS fl true,duS fl false,duS fl false,duS fl false]]:=by simp only[Bl,Av e7,Av e8]
    refine⟨_,it,?_⟩;refine Gf (fun j σ G'=>∃v8 v9,σ=[some (.ref a),some gd,some (.int (i:Nat)),some (.tup [aa,dd,wd,u,c]),some (.ref pb),v5,some (.str px.shown),some (.ref p),v8,v9]∧G8=G') ⟨v8,v9,rfl,rfl⟩ (fun j σ G' _ ⟨_,_,_,e⟩=>by rw[←e];exact it) ?_ ?_
    ·rintro j x σ _ hx ⟨v8,v9,rfl,rfl⟩;obtain⟨y,fv,rfl,iy⟩:∃y fv,x=.tup [y,duS fl fv]∧FoundIs G8 (duF fl fv) y:=by
      match j with
      |0=>cases hx;exact⟨x0,true,rfl,i0.sub s8⟩
      |1=>cases hx;exact⟨x1,false,rfl,i1.sub s8⟩
      |2=>cases hx;exact⟨x2,false,rfl,i2.sub s8⟩
      |3=>cases hx;exact⟨x3,false,rfl,i3.sub s8⟩
      |j+4=>cases hx
     unfold duS;cases hd:duF fl fv with
     |some n=>
      rw[hd] at iy;obtain rfl:y=.tup [.str (kindNames.getD n "")]:=iy;have kl:=W9 n;simp only[Option.map_some];generalize kindNames.getD n "" = nm at *;simp![Pc];refine it1 (by simp[isN]) (it0 rfl ⟨_,_,.tup (.cons (.str _) .nil),.tup (.cons (.str _) .nil),?_,?_,by simp[PyData.depth,PyData.depthAll],false,?_,it1 (by decide) (Fs.of ⟨_,_,rfl,rfl⟩)⟩)
      ·show(PyData.canLay0 (.str nm)&&true)=true;rw[kl];rfl
      ·show(PyData.canLay0 (.str nm)&&true)=true;rw[kl];rfl
      ·show D.bl (!((nm == nm)&&true))=_;rw[beq_self_eq_true];rfl
     |none=>
      rw[hd] at iy;obtain⟨r,vs,rfl,hr⟩:=iy;simp only[Option.map_none];simp![Pc];refine it0 rfl ⟨"list",by simp only[A9,hr],true,rfl,it1 (by decide) (it1 (by decide) (Fs.of ⟨_,_,rfl,rfl⟩))⟩
    ·rintro σ _ ⟨v8,v9,rfl,rfl⟩;simp![];refine⟨px,L6 s78 shx.rep,shx.ok,Aal (Nat.le_trans shx.len (by decide)),Nat.le_trans shx.dep (by decide),?_⟩
     rw[decide_eq_true rfl];exact it1 (by decide) (Fs.of ⟨_,_,_,_,_,_,_,_,rfl,sT.of_sub s78⟩)
  ·rintro σ G3 ⟨v2,v3,v4,v5,v6,v7,v8,v9,rfl,st⟩;simp![];exact Fq.of (q _ st)
end
section
variable{P:Program}{w:World}{K:W.Frag}{mg:Str→Option Value}{base:Heap}{T0 T1 M CN:Addr}{tbl:List (Str×Addr)}
abbrev qL:Str:="in_order" ++ ".<locals>." ++ "<lambda>"
abbrev s_law:Stmt:=top 124
abbrev N_law:List Str:=["_law_script", "_law_k", "_law_lap"]
abbrev Ug:List Str:=["_law_script"]
theorem sc_law:FnScope N_law Ug (defScope s_law):=⟨rfl,rfl,rfl,by decide +kernel,rfl,by decide +kernel,by decide +kernel⟩
theorem Adh{f:Addr}{fd:FuncData}(F:Fun K "law" "law" s_law f fd)(T:Nums mg)(Ai5:Def P w K mg base CX0 2 "_law_box" p_L_box spBox)(Ai6:Def P w K mg base CX0 17 "_law_right" Cq (L4 T0 T1 qL)):FnOk P w K mg base CX0 18 f fd Ug (liftSp K (Li [(T0,qL),(T1,qC)])):=by
 refine okD F sc_law (fun ds G Q E h=>?_) (fun cdv A outer s H XE ds G Q E hr h=>?_)
 ·obtain⟨ns,rfl,_⟩:=h;rfl
 ·obtain⟨ns,rfl,hl,hT,q⟩:=h;have hT0:G T0=some (.tbl qL):=hT (T0,qL) (by simp)
  have hT1:G T1=some (.tbl qC):=hT (T1,qC) (by simp)
  refine⟨_,#["7",#["9",T,#["b",#["aA",T,#["z",#["b",#["az",T,#["D",#["q",T,#["b",#["a",0]]]]]]]]],#["k",1,sc_law.nd],#["e",#["af",T,#["k",2,sc_law.nd],#["e",#["x",#["j",#["h",#["f",Ai6,hr,#["b",#["f",Ai5,hr,#["c",#["a",0],#["c",#["a",1],#["b",#["a",2]]]]]]]]]]]]]]],?_⟩;simp![Nr];have hb:∀n:Int,0≤n→1≤(if (if 3<n then 3 else n)>1 then (if 3<n then 3 else n) else 1)∧(if (if 3<n then 3 else n)>1 then (if 3<n then 3 else n) else 1)≤3:=fun n hn=>by
   by_cases h:3<n
   ·rw[if_pos h];decide
   ·rw[if_neg h]
    by_cases h2:n>1
    ·rw[if_pos h2];omega
    ·rw[if_neg h2];decide
  obtain⟨b1,b2⟩:=hb (ns.length:Nat) (by omega)
  generalize (if (if (3:Int)<(ns.length:Nat) then (3:Int) else (ns.length:Nat))>1 then (if (3:Int)<(ns.length:Nat) then (3:Int) else (ns.length:Nat)) else 1)=m at *;refine⟨by omega,by omega,?_⟩
  refine Bn (fun i σ G'=>∃v1 v2,σ=[some (.lint ns),v1,v2]∧G' T0=some (.tbl qL)∧G' T1=some (.tbl qC)) ⟨none,none,rfl,hT0,hT1⟩ ?_ ?_
  ·rintro i σ G1 hi ⟨v1,v2,rfl,hT0,hT1⟩;simp![];refine Bn (n:=2) (fun j σ G'=>∃v2,σ=[some (.lint ns),some (.int (i:Nat)),v2]∧G' T0=some (.tbl qL)∧G' T1=some (.tbl qC)) ⟨v2,rfl,hT0,hT1⟩ ?_ ?_
   ·rintro j σ G2 hj ⟨v2,rfl,hT0,hT1⟩;simp![];refine⟨ns,(i:Nat),(j:Nat),rfl,⟨by omega,by omega,by omega,by omega⟩,fun p hp n=>?_⟩
    have k0:=Ah (u:=.lst [.int n]) hT0 hp;have k1:=Ah (u:=.lst [.int n]) hT1 hp;refine⟨p,rfl,⟨n,Aa⟩,k0,k1,fun G3 st=>⟨true,rfl,it1 (by decide) (Fs.of ⟨_,rfl,?_,?_⟩)⟩⟩
    ·exact st.get (gne hT0 hp).symm k0
    ·exact st.get (gne hT1 hp).symm k1
   ·rintro σ G2 ⟨v2,rfl,hT0,hT1⟩;exact⟨G2,Sub.refl _,_,_,rfl,hT0,hT1⟩
  ·rintro σ G1 ⟨v1,v2,rfl,_,_⟩;simp![];exact Fq.of (q _)
theorem Tx{K:W.Frag}:∀f fd,Fun K "_law_cell" "_law_cell" s_L_cell f fd→Binds K fd p_L_cell []:=fun f fd F=>F.binds (ps:=p_L_cell) fun _ _ _ _ _ _ us hl=>by obtain⟨_,_,rfl⟩:=ln2 hl;rfl
theorem Xq{K:W.Frag}:∀f fd,Fun K "_law_mix" "_law_mix" s_L_mix f fd→Binds K fd Ed []:=fun f fd F=>F.binds (ps:=Ed) fun _ _ _ _ _ _ us hl=>by obtain⟨_,_,rfl⟩:=ln2 hl;rfl
theorem Xs{K:W.Frag}:∀f fd,Fun K "_law_box" "_law_box" s_L_box f fd→Binds K fd p_L_box []:=fun f fd F=>F.binds (ps:=p_L_box) fun _ _ _ _ _ _ us hl=>by obtain⟨_,_,_,rfl⟩:=ln3 hl;rfl
theorem Tu{K:W.Frag}:∀f fd,Fun K "_law_take" "_law_take" s_L_take f fd→Binds K fd p_L_take []:=fun f fd F=>F.binds (ps:=p_L_take) fun _ _ _ _ _ _ us hl=>by obtain⟨_,_,rfl⟩:=ln2 hl;rfl
theorem Ey{K:W.Frag}:∀f fd,Fun K "is_whole_within" "is_whole_within" s_is_whole_within f fd→Binds K fd p_is_whole_within []:=fun f fd F=>F.binds (ps:=p_is_whole_within) fun _ _ _ _ _ _ us hl=>by obtain⟨_,_,_,rfl⟩:=ln3 hl;rfl
theorem Ea{K:W.Frag}:∀f fd,Fun K "are_rising_within" "are_rising_within" s_are_rising_within f fd→Binds K fd Ap []:=fun f fd F=>F.binds (ps:=Ap) fun _ _ _ _ _ _ us hl=>by obtain⟨_,_,_,rfl⟩:=ln3 hl;rfl
theorem Oz{K:W.Frag}:∀f fd,Fun K "are_rows" "are_rows" s_are_rows f fd→Binds K fd Ce []:=fun f fd F=>F.binds (ps:=Ce) fun _ _ _ _ _ _ us hl=>by obtain⟨_,rfl⟩:=ln1 hl;rfl
theorem Kd{K:W.Frag}:∀f fd,Fun K "is_channel" "is_channel" s_is_channel f fd→Binds K fd Br []:=fun f fd F=>F.binds (ps:=Br) fun _ _ _ _ _ _ us hl=>by obtain⟨_,rfl⟩:=ln1 hl;rfl
theorem Ha{K:W.Frag}:∀f fd,Fun K "check_channel" "check_channel" s_check_channel f fd→Binds K fd p_check_channel []:=fun f fd F=>F.binds (ps:=p_check_channel) fun _ _ _ _ _ _ us hl=>by obtain⟨_,rfl⟩:=ln1 hl;rfl
theorem Ov{K:W.Frag}:∀f fd,Fun K "is_depth" "is_depth" s_is_depth f fd→Binds K fd Cc []:=fun f fd F=>F.binds (ps:=Cc) fun _ _ _ _ _ _ us hl=>by obtain⟨_,rfl⟩:=ln1 hl;rfl
theorem Kc{K:W.Frag}:∀f fd,Fun K "is_draught" "is_draught" s_is_draught f fd→Binds K fd Bq []:=fun f fd F=>F.binds (ps:=Bq) fun _ _ _ _ _ _ us hl=>by obtain⟨_,rfl⟩:=ln1 hl;rfl
theorem Tt{K:W.Frag}:∀f fd,Fun K "is_day" "is_day" s_is_day f fd→Binds K fd C9 []:=fun f fd F=>F.binds (ps:=C9) fun _ _ _ _ _ _ us hl=>by obtain⟨_,rfl⟩:=ln1 hl;rfl
theorem Ms{K:W.Frag}:∀f fd,Fun K "is_column" "is_column" s_is_column f fd→Binds K fd Bu []:=fun f fd F=>F.binds (ps:=Bu) fun _ _ _ _ _ _ us hl=>by obtain⟨_,rfl⟩:=ln1 hl;rfl
theorem Tr{K:W.Frag}:∀f fd,Fun K "is_sea" "is_sea" s_is_sea f fd→Binds K fd C7 []:=fun f fd F=>F.binds (ps:=C7) fun _ _ _ _ _ _ us hl=>by obtain⟨_,rfl⟩:=ln1 hl;rfl
theorem Mu{K:W.Frag}:∀f fd,Fun K "check_sea" "check_sea" s_check_sea f fd→Binds K fd Bw []:=fun f fd F=>F.binds (ps:=Bw) fun _ _ _ _ _ _ us hl=>by obtain⟨_,rfl⟩:=ln1 hl;rfl
theorem Gz{K:W.Frag}:∀f fd,Fun K "check_draught" "check_draught" s_check_draught f fd→Binds K fd p_check_draught []:=fun f fd F=>F.binds (ps:=p_check_draught) fun _ _ _ _ _ _ us hl=>by obtain⟨_,rfl⟩:=ln1 hl;rfl
theorem Mv{K:W.Frag}:∀f fd,Fun K "check_day" "check_day" s_check_day f fd→Binds K fd p_check_day []:=fun f fd F=>F.binds (ps:=p_check_day) fun _ _ _ _ _ _ us hl=>by obtain⟨_,rfl⟩:=ln1 hl;rfl
theorem Ox{K:W.Frag}:∀f fd,Fun K "depth_at" "depth_at" s_depth_at f fd→Binds K fd Cd []:=fun f fd F=>F.binds (ps:=Cd) fun _ _ _ _ _ _ us hl=>by obtain⟨_,_,rfl⟩:=ln2 hl;rfl
theorem Ot{K:W.Frag}:∀f fd,Fun K "is_shoal" "is_shoal" s_is_shoal f fd→Binds K fd p_is_shoal []:=fun f fd F=>F.binds (ps:=p_is_shoal) fun _ _ _ _ _ _ us hl=>by obtain⟨_,_,_,rfl⟩:=ln3 hl;rfl
theorem Ts{K:W.Frag}:∀f fd,Fun K "is_row" "is_row" s_is_row f fd→Binds K fd C8 []:=fun f fd F=>F.binds (ps:=C8) fun _ _ _ _ _ _ us hl=>by obtain⟨_,rfl⟩:=ln1 hl;rfl
theorem Ke{K:W.Frag}:∀f fd,Fun K "check_held" "check_held" s_check_held f fd→Binds K fd p_check_held []:=fun f fd F=>F.binds (ps:=p_check_held) fun _ _ _ _ _ _ us hl=>by obtain⟨_,rfl⟩:=ln1 hl;rfl
theorem Jx{K:W.Frag}:∀f fd,Fun K "are_notices" "are_notices" s_are_notices f fd→Binds K fd Bh []:=fun f fd F=>F.binds (ps:=Bh) fun _ _ _ _ _ _ us hl=>by obtain⟨_,_,rfl⟩:=ln2 hl;rfl
theorem Gy{K:W.Frag}:∀f fd,Fun K "check_notices" "check_notices" s_check_notices f fd→Binds K fd p_check_notices []:=fun f fd F=>F.binds (ps:=p_check_notices) fun _ _ _ _ _ _ us hl=>by obtain⟨_,_,rfl⟩:=ln2 hl;rfl
theorem Hs{K:W.Frag}:∀f fd,Fun K "chart_behind" "chart_behind" s_chart_behind f fd→Binds K fd Bc []:=fun f fd F=>F.binds (ps:=Bc) fun _ _ _ _ _ _ us hl=>by obtain⟨_,_,_,_,rfl⟩:=ln4 hl;rfl
theorem Oy{K:W.Frag}:∀f fd,Fun K "chart_of" "chart_of" s_chart_of f fd→Binds K fd p_chart_of []:=fun f fd F=>F.binds (ps:=p_chart_of) fun _ _ _ _ _ _ us hl=>by obtain⟨_,_,_,_,rfl⟩:=ln4 hl;rfl
theorem Mr{K:W.Frag}:∀f fd,Fun K "places_of" "places_of" s_places_of f fd→Binds K fd Bt []:=fun f fd F=>F.binds (ps:=Bt) fun _ _ _ _ _ _ us hl=>by obtain⟨_,rfl⟩:=ln1 hl;rfl
theorem Gv{K:W.Frag}:∀f fd,Fun K "marks_against" "marks_against" s_marks_against f fd→Binds K fd A5 []:=fun f fd F=>F.binds (ps:=A5) fun _ _ _ _ _ _ us hl=>by obtain⟨_,_,rfl⟩:=ln2 hl;rfl
theorem Hr{K:W.Frag}:∀f fd,Fun K "places_shown" "places_shown" s_places_shown f fd→Binds K fd p_places_shown []:=fun f fd F=>F.binds (ps:=p_places_shown) fun _ _ _ _ _ _ us hl=>by obtain⟨_,_,rfl⟩:=ln2 hl;rfl
theorem Mt{K:W.Frag}:∀f fd,Fun K "free_rows" "free_rows" s_free_rows f fd→Binds K fd Bv []:=fun f fd F=>F.binds (ps:=Bv) fun _ _ _ _ _ _ us hl=>by obtain⟨_,_,_,_,rfl⟩:=ln4 hl;rfl
theorem Kf{K:W.Frag}:∀f fd,Fun K "channel_of" "channel_of" s_channel_of f fd→Binds K fd p_channel_of []:=fun f fd F=>F.binds (ps:=p_channel_of) fun _ _ _ _ _ _ us hl=>by obtain⟨_,_,_,_,_,_,rfl⟩:=ln6 hl;rfl
theorem Tq{K:W.Frag}:∀f fd,Fun K "is_way" "is_way" s_is_way f fd→Binds K fd p_is_way []:=fun f fd F=>F.binds (ps:=p_is_way) fun _ _ _ _ _ _ us hl=>by obtain⟨_,_,rfl⟩:=ln2 hl;rfl
theorem Ql{K:W.Frag}:∀f fd,Fun K "edge_of" "edge_of" s_edge_of f fd→Binds K fd Cp []:=fun f fd F=>F.binds (ps:=Cp) fun _ _ _ _ _ _ us hl=>by obtain⟨_,_,_,rfl⟩:=ln3 hl;rfl
theorem Qk{K:W.Frag}:∀f fd,Fun K "lane_of" "lane_of" s_lane_of f fd→Binds K fd p_lane_of []:=fun f fd F=>F.binds (ps:=p_lane_of) fun _ _ _ _ _ _ us hl=>by obtain⟨_,_,_,_,rfl⟩:=ln4 hl;rfl
theorem Xp{K:W.Frag}:∀f fd,Fun K "keeps" "keeps" s_keeps f fd→Binds K fd p_keeps []:=fun f fd F=>F.binds (ps:=p_keeps) fun _ _ _ _ _ _ us hl=>by obtain⟨_,_,_,_,_,rfl⟩:=ln5 hl;rfl
theorem F1{K:W.Frag}:∀f fd,Fun K "columns_wanted" "columns_wanted" s_columns_wanted f fd→Binds K fd Aw []:=fun f fd F=>F.binds (ps:=Aw) fun _ _ _ _ _ _ us hl=>by obtain⟨_,rfl⟩:=ln1 hl;rfl
theorem Gw{K:W.Frag}:∀f fd,Fun K "least_columns" "least_columns" s_least_columns f fd→Binds K fd p_least_columns []:=fun f fd F=>F.binds (ps:=p_least_columns) fun _ _ _ _ _ _ us hl=>by obtain⟨_,_,_,_,rfl⟩:=ln4 hl;rfl
theorem Ht{K:W.Frag}:∀f fd,Fun K "can_be_wrong" "can_be_wrong" s_can_be_wrong f fd→Binds K fd Bd []:=fun f fd F=>F.binds (ps:=Bd) fun _ _ _ _ _ _ us hl=>by obtain⟨_,_,_,rfl⟩:=ln3 hl;rfl
theorem El{K:W.Frag}:∀f fd,Fun K "start_of_stretch" "start_of_stretch" s_start_of_stretch f fd→Binds K fd p_start_of_stretch []:=fun f fd F=>F.binds (ps:=p_start_of_stretch) fun _ _ _ _ _ _ us hl=>by obtain⟨_,_,rfl⟩:=ln2 hl;rfl
theorem Kb{K:W.Frag}:∀f fd,Fun K "is_stretch" "is_stretch" s_is_stretch f fd→Binds K fd Bp []:=fun f fd F=>F.binds (ps:=Bp) fun _ _ _ _ _ _ us hl=>by obtain⟨_,_,rfl⟩:=ln2 hl;rfl
theorem Ou{K:W.Frag}:∀f fd,Fun K "is_paper" "is_paper" s_is_paper f fd→Binds K fd p_is_paper []:=fun f fd F=>F.binds (ps:=p_is_paper) fun _ _ _ _ _ _ us hl=>by obtain⟨_,_,_,_,_,rfl⟩:=ln5 hl;rfl
theorem Os{K:W.Frag}:∀f fd,Fun K "paper_of" "paper_of" s_paper_of f fd→Binds K fd Cb []:=fun f fd F=>F.binds (ps:=Cb) fun _ _ _ _ _ _ us hl=>by obtain⟨_,_,_,_,rfl⟩:=ln4 hl;rfl
theorem Tw{K:W.Frag}:∀f fd,Fun K "_law_fair" "_law_fair" s_L_fair f fd→Binds K fd p_L_fair []:=fun f fd F=>F.binds (ps:=p_L_fair) fun _ _ _ _ _ _ us hl=>by obtain⟨_,_,rfl⟩:=ln2 hl;rfl
theorem Mw{K:W.Frag}:∀f fd,Fun K "_law_put_bad" "_law_put_bad" s_L_put_bad f fd→Binds K fd p_L_put_bad []:=fun f fd F=>F.binds (ps:=p_L_put_bad) fun _ _ _ _ _ _ us hl=>by obtain⟨_,_,_,rfl⟩:=ln3 hl;rfl
theorem Xr{K:W.Frag}:∀f fd,Fun K "_law_due" "_law_due" s_L_due f fd→Binds K fd Ee []:=fun f fd F=>F.binds (ps:=Ee) fun _ _ _ _ _ _ us hl=>by obtain⟨_,rfl⟩:=ln1 hl;rfl
theorem Ow{K:W.Frag}:∀f fd,Fun K "in_order" "in_order" s_in_order f fd→Binds K fd p_in_order []:=fun f fd F=>F.binds (ps:=p_in_order) fun _ _ _ _ _ _ us hl=>by obtain⟨_,_,rfl⟩:=ln2 hl;rfl
theorem Qm{K:W.Frag}:∀f fd,Fun K "_law_which" "_law_which" s_L_which f fd→Binds K fd p_L_which []:=fun f fd F=>F.binds (ps:=p_L_which) fun _ _ _ _ _ _ us hl=>by obtain⟨_,rfl⟩:=ln1 hl;rfl
theorem Tv{K:W.Frag}:∀f fd,Fun K "_law_said" "_law_said" s_L_said f fd→Binds K fd Fn []:=fun f fd F=>F.binds (ps:=Fn) fun _ _ _ _ _ _ us hl=>by obtain⟨_,rfl⟩:=ln1 hl;rfl
theorem Qo{K:W.Frag}:∀f fd,Fun K "_law_calls" "_law_calls" s_L_calls f fd→Binds K fd p_L_calls []:=fun f fd F=>F.binds (ps:=p_L_calls) fun _ _ _ _ _ _ us hl=>by obtain⟨_,rfl⟩:=ln1 hl;rfl
theorem Qn{K:W.Frag}:∀f fd,Fun K "_law_right" "_law_right" s_L_right f fd→Binds K fd Cq []:=fun f fd F=>F.binds (ps:=Cq) fun _ _ _ _ _ _ us hl=>by obtain⟨_,rfl⟩:=ln1 hl;rfl
theorem Aab{K:W.Frag}:∀f fd,Fun K "__init__" "Chart.__init__" s_Chart_init f fd→Binds K fd Bf []:=fun f fd F=>F.binds (ps:=Bf) fun _ _ _ _ _ _ us hl=>by obtain⟨_,_,rfl⟩:=ln2 hl;rfl
theorem Aeg{h:Heap}(X:K.In h)(G:h.Ns mainGlobals mg)(z0:W.nsIn K mainGlobals "len" = some none)(z1:W.nsIn K mainGlobals "range" = some none)(z2:W.nsIn K mainGlobals "abs" = some none)(z3:W.nsIn K mainGlobals "divmod" = some none)(z4:W.nsIn K mainGlobals "max" = some none)(z5:W.nsIn K mainGlobals "min" = some none)(z6:W.nsIn K mainGlobals "tuple" = some none)(z7:W.nsIn K mainGlobals "int" = some none)(z8:W.nsIn K mainGlobals "bool" = some none)(z9:W.nsIn K mainGlobals "list" = some none)(z10:W.nsIn K mainGlobals "str" = some none)(z11:W.nsIn K mainGlobals "isinstance" = some none)(z12:W.nsIn K mainGlobals "all" = some none)(z13:W.nsIn K mainGlobals "sorted" = some none)(z14:W.nsIn K mainGlobals "repr" = some none)(z15:W.nsIn K mainGlobals "dict" = some none)(z16:W.nsIn K mainGlobals "zip" = some none)(z17:W.nsIn K mainGlobals "set" = some none)(z18:W.nsIn K mainGlobals "sum" = some none)(z19:W.nsIn K mainGlobals "reversed" = some none)(z20:W.nsIn K mainGlobals "enumerate" = some none)(z21:W.nsIn K mainGlobals "ValueError" = some none):Blt mg:=⟨fun {x} hx=>by
 simp only[N7,List.mem_cons,List.not_mem_nil,or_false] at hx;rcases hx with rfl|rfl|rfl|rfl|rfl|rfl|rfl|rfl|rfl|rfl|rfl|rfl|rfl|rfl|rfl|rfl|rfl|rfl|rfl|rfl|rfl|rfl
 ·exact W.mg_none_of X G z0
 ·exact W.mg_none_of X G z1
 ·exact W.mg_none_of X G z2
 ·exact W.mg_none_of X G z3
 ·exact W.mg_none_of X G z4
 ·exact W.mg_none_of X G z5
 ·exact W.mg_none_of X G z6
 ·exact W.mg_none_of X G z7
 ·exact W.mg_none_of X G z8
 ·exact W.mg_none_of X G z9
 ·exact W.mg_none_of X G z10
 ·exact W.mg_none_of X G z11
 ·exact W.mg_none_of X G z12
 ·exact W.mg_none_of X G z13
 ·exact W.mg_none_of X G z14
 ·exact W.mg_none_of X G z15
 ·exact W.mg_none_of X G z16
 ·exact W.mg_none_of X G z17
 ·exact W.mg_none_of X G z18
 ·exact W.mg_none_of X G z19
 ·exact W.mg_none_of X G z20
 ·exact W.mg_none_of X G z21⟩
theorem Zn{h:Heap}(X:K.In h)(G:h.Ns mainGlobals mg)(B:Blt mg){t0 t1 t2 t3 t4 t5 t6 t7 t8 t9 t10 t11:Tok}(a0:W.nsIn K mainGlobals "LEAST_COLUMNS" = some (some (.int 2 t0)))(a1:W.nsIn K mainGlobals "MOST_COLUMNS" = some (some (.int 16 t1)))(a2:W.nsIn K mainGlobals "LEAST_ROWS" = some (some (.int 1 t2)))(a3:W.nsIn K mainGlobals "MOST_ROWS" = some (some (.int 9 t3)))(a4:W.nsIn K mainGlobals "LAND" = some (some (.int 0 t4)))(a5:W.nsIn K mainGlobals "MOST_DEPTH" = some (some (.int 9 t5)))(a6:W.nsIn K mainGlobals "LEAST_DRAUGHT" = some (some (.int 1 t6)))(a7:W.nsIn K mainGlobals "MOST_DRAUGHT" = some (some (.int 9 t7)))(a8:W.nsIn K mainGlobals "LAST_DAY" = some (some (.int 400 t8)))(a9:W.nsIn K mainGlobals "LAST_NUMBER" = some (some (.int 99 t9)))(a10:W.nsIn K mainGlobals "MOST_NOTICES" = some (some (.int 30 t10)))(a11:W.nsIn K mainGlobals "LAST_ROW" = some (some (.int 8 t11))):Nums mg:=⟨B,⟨t0,W.mg_of X G a0⟩,⟨t1,W.mg_of X G a1⟩,⟨t2,W.mg_of X G a2⟩,⟨t3,W.mg_of X G a3⟩,⟨t4,W.mg_of X G a4⟩,⟨t5,W.mg_of X G a5⟩,⟨t6,W.mg_of X G a6⟩,⟨t7,W.mg_of X G a7⟩,⟨t8,W.mg_of X G a8⟩,⟨t9,W.mg_of X G a9⟩,⟨t10,W.mg_of X G a10⟩,⟨t11,W.mg_of X G a11⟩⟩
structure TopIs(P:Program)(w:World)(K:W.Frag)(mg:Str→Option Value):Prop where
 ex:∃C aS fi fdi,Sz P w K mg C aS∧Mk K C fi∧Fun K "__init__" "Chart.__init__" s_Chart_init fi fdi
theorem Abn{h:Heap}(X:K.In h)(G:h.Ns mainGlobals mg)(N:Nums mg){C aS f:Addr}{od an:Option Addr}{sl:Array (Option Value)}{oc kV dc pm cd ct:Value}{es:Array DictEntry}{ep:Nat}(aC:W.nsIn K mainGlobals "Chart" = some (some (.ref C)))(c1:W.plainGet K C Str.empty=true)(c2:W.hasDictIn K C=true)(c3:W.plainOver K C=true)(c4:W.findIn K (.ref C) "__setattr__" = some (some (.builtin "object.__setattr__")))(n1:W.findIn K (.ref C) "sea" = some none)(n2:W.findIn K (.ref C) "placed" = some none)(n3:W.findIn K (.ref C) "adrift" = some none)(n4:W.findIn K (.ref C) "undone" = some none)(m1:W.makesIn K C=true)(m2:W.findIn K (.ref C) "__init__" = some (some (.ref f)))(m3:W.isFn K (.ref f)=true)(m4:W.keepIn K (.ref C)=true)(l:K.lookup f=some ⟨oc,od,.func (W.fnOf "__init__" "Chart.__init__" (defArgs s_Chart_init) (defBody s_Chart_init) (defScope s_Chart_init) .none kV dc pm an cd ct),sl⟩)(c:W.codeIn K cd "Chart.__init__" = true)(k:W.keepIn K (.ref f)=true)(aD:W.nsIn K mainGlobals "STEPS_OUT" = some (some (.ref aS)))(ld:K.lookup aS=some { cls:=.type "dict",data:=.dict es ep })(hne:(aS == sysModules)=false)(hk:EntsAre w es.toList Iy):TopIs P w K mg:=
 ⟨C,aS,f,_,⟨⟨N,⟨c1,c2,c3,c4⟩,n1,n2,n3,n4,W.mg_of X G aC⟩,W.mg_of X G aD,kd_mk ld hne hk (by decide)⟩,⟨m1,m2,m3,m4⟩,Pr l c k⟩
structure ClSeen(K:W.Frag)(x:Str)(a:Addr):Prop where
 nm:W.nsIn K mainGlobals x=some (some (.ref a))
 ty:W.typeIn K (.ref a)=some (.type "type")
 ob:W.mroIn K a (.type "object")=some true
theorem Ja{x:Str}:∀{tbl:List (Str×Addr)},x∈tbl.map (·.1)→(x,E9 tbl x)∈tbl
 |[],h=>by cases h
 |(y,a)::r,h=>by
  unfold E9;rw[List.lookup_cons]
  by_cases e:x=y
  ·subst e;rw[show(x == x)=true by simp]
   exact List.mem_cons_self
  ·rw[show(x == y)=false by simpa using e]
   exact List.mem_cons_of_mem _ (Ja ((List.mem_cons.mp h).elim (fun q=>absurd q e) id))
theorem Aeb{h:Heap}(X:K.In h)(G:h.Ns mainGlobals mg)(hn:tbl.map (·.1)=Da)(hs:AllP (fun p:Str×Addr=>ClSeen K p.1 p.2) tbl):Cls K mg tbl:=
 ⟨fun x hx=>W.mg_of X G (hs.get _ (Ja (by rw[hn];exact hx))).nm,fun x hx=>⟨(hs.get _ (Ja (by rw[hn];exact hx))).ty,(hs.get _ (Ja (by rw[hn];exact hx))).ob⟩⟩
theorem Aeh{x:Str}{j k:Nat}:∀{tbl:List (Str×Addr)},(tbl.map (·.1)).Nodup→(tbl.map (·.1))[j]? = some x→((x,E9 tbl x),j+k)∈tbl.zipIdx k
 |tbl,nd,h=>by
  obtain⟨p,hp,e⟩:=Option.map_eq_some_iff.mp (by rw[List.getElem?_map] at h;exact h)
  have hm:=Ja (tbl:=tbl) (x:=x) (List.mem_of_getElem? h);obtain⟨i,hi,ei⟩:=List.getElem_of_mem hm;have hj:j<tbl.length:=(List.getElem?_eq_some_iff.mp hp).1;have ij:i=j:=by
   have h1:(tbl.map (·.1))[i]? = some x:=by rw[List.getElem?_map,List.getElem?_eq_getElem hi,ei];rfl
   have a1:=(List.getElem?_eq_some_iff.mp h1);have a2:=(List.getElem?_eq_some_iff.mp h);exact(List.getElem_inj nd).mp (a1.2.trans a2.2.symm)
  subst ij;refine List.mem_of_getElem? (i:=i) ?_;rw[List.getElem?_zipIdx,List.getElem?_eq_getElem hi,ei];simp[Nat.add_comm]
theorem Fh{i:Nat}(hn:tbl.map (·.1)=Da)(hi:i<15)(ga:W.findIn K (.ref CN) "__getattribute__" = some (some (.builtin "BaseException.__getattribute__")))(gt:W.findIn K (.ref CN) "__getattr__" = some none)(cl:W.findIn K (.ref CN) "__class__" = some (some (.builtin "object.__class__")))(ob:W.mroIn K CN (.type "object")=some true)(be:W.mroIn K CN (.type "BaseException")=some true)(ve:W.mroIn K CN (.type "ValueError")=some true)(ms:AllP (fun p:(Str×Addr)×Nat=>W.mroIn K CN (.ref p.1.2)=some (p.2 == i)) tbl.zipIdx)(ne:AllP (fun p:(Str×Addr)×Nat=>CN=p.1.2→(p.2 == i)=true) tbl.zipIdx):ExKind K tbl CN i:=
 ⟨⟨ga,gt,cl,ob,be⟩,ve,hi,fun j x hx=>by
  have hm:((x,E9 tbl x),j+0)∈tbl.zipIdx 0:=Aeh (by rw[hn];decide +kernel) (by rw[hn];exact hx)
  exact⟨ms.get _ hm,ne.get _ hm⟩⟩
theorem F6{C:Addr}{oc:Value}{od:Option Addr}{cd:ClassData}{sl:Array (Option Value)}{tl:List Value}(l:K.lookup C=some ⟨oc,od,.cls cd,sl⟩)(e:cd.mro=.ref C::tl):mroK K C=some (.ref C::tl):=by
 unfold mroK;rw[l];exact congrArg some e
structure LamIs(K:W.Frag)(x:Str)(st:Stmt)(T0:Addr):Prop where
 ex:∃f fd c0,Fun K x x st f fd∧W.nsIn K mainGlobals x=some (some (.ref f))∧W.keepIn K (.ref f)=true∧fd.code=.ref c0∧W.codeHdIn K c0 T0=true
theorem Fp{x:Str}{st:Stmt}{f c0:Addr}{od an:Option Addr}{sl:Array (Option Value)}{oc kV dc pm ct:Value}(a:W.nsIn K mainGlobals x=some (some (.ref f)))(l:K.lookup f=some ⟨oc,od,.func (W.fnOf x x (defArgs st) (defBody st) (defScope st) .none kV dc pm an (.ref c0) ct),sl⟩)(c:W.codeIn K (.ref c0) x=true)(k:W.keepIn K (.ref f)=true)(t:W.codeHdIn K c0 T0=true):LamIs K x st T0:=
 ⟨f,_,c0,Pr l c k,a,k,rfl,t⟩
theorem B2{h:Heap}{x:Str}{st:Stmt}{k:Nat}{ps:List Str}{sp:DSp}(I:FnIs K x st)(X:K.In h)(G:h.Ns mainGlobals mg)(hb:∀f fd,Fun K x x st f fd→Binds K fd ps [])(ok:∀f fd,Fun K x x st f fd→FnOk P w K mg base (CX1 P w) k f fd ps (liftSp K sp)):Def P w K mg base (CX1 P w) k x ps sp:=by
 obtain⟨f,fd,F,a,kp⟩:=I.ex;exact⟨f,fd,ok f fd F,W.mg_of X G a,kp,hb f fd F⟩
structure MkIs(K:W.Frag)(M:Addr):Prop where
 exk:ExcK K "MarkError" M
 mro:∃tm,mroK K M=some (.ref M::tm)∧tm.contains (.type "BaseException")=true
theorem Aei{h:Heap}{CS CD CF CU CK CNN:Addr}(X:K.In h)(G:h.Ns mainGlobals mg)(T:TopIs P w K mg)(Z:Cls K mg tbl)(B:Cx5 K tbl M CS CD CF CU CK)(HN:ExcK K "NoNotices" CNN)(Mk:MkIs K M)(J_in_order:LamIs K "in_order" s_in_order T0)(J_L_calls:LamIs K "_law_calls" s_L_calls T1)(Ai7:FnIs K "_law_cell" s_L_cell)(Ai8:FnIs K "_law_mix" s_L_mix)(Ai9:FnIs K "_law_box" s_L_box)(Aja:FnIs K "_law_take" s_L_take)(Ajb:FnIs K "is_whole_within" s_is_whole_within)(Ajc:FnIs K "are_rising_within" s_are_rising_within)(Ajd:FnIs K "are_rows" s_are_rows)(Aje:FnIs K "is_channel" s_is_channel)(Ajf:FnIs K "check_channel" s_check_channel)(Ajg:FnIs K "is_depth" s_is_depth)(Ajh:FnIs K "is_draught" s_is_draught)(Aji:FnIs K "is_day" s_is_day)(Ajj:FnIs K "is_column" s_is_column)(Ajk:FnIs K "is_sea" s_is_sea)(Ajl:FnIs K "check_sea" s_check_sea)(Ajm:FnIs K "check_draught" s_check_draught)(Ajn:FnIs K "check_day" s_check_day)(Ajo:FnIs K "depth_at" s_depth_at)(Ajp:FnIs K "is_shoal" s_is_shoal)(Ajq:FnIs K "is_row" s_is_row)(Ajr:FnIs K "check_held" s_check_held)(Ajs:FnIs K "are_notices" s_are_notices)(Ajt:FnIs K "check_notices" s_check_notices)(Aju:FnIs K "chart_behind" s_chart_behind)(Ajv:FnIs K "chart_of" s_chart_of)(Ajw:FnIs K "places_of" s_places_of)(Ajx:FnIs K "marks_against" s_marks_against)(Ajy:FnIs K "places_shown" s_places_shown)(Ajz:FnIs K "free_rows" s_free_rows)(Aj0:FnIs K "channel_of" s_channel_of)(Aj1:FnIs K "is_way" s_is_way)(Aj2:FnIs K "edge_of" s_edge_of)(Aj3:FnIs K "lane_of" s_lane_of)(Aj4:FnIs K "keeps" s_keeps)(Aj5:FnIs K "columns_wanted" s_columns_wanted)(Aj6:FnIs K "least_columns" s_least_columns)(Aj7:FnIs K "can_be_wrong" s_can_be_wrong)(Aj8:FnIs K "start_of_stretch" s_start_of_stretch)(Aj9:FnIs K "is_stretch" s_is_stretch)(Aka:FnIs K "is_paper" s_is_paper)(Akb:FnIs K "paper_of" s_paper_of)(Akc:FnIs K "_law_fair" s_L_fair)(Akd:FnIs K "_law_put_bad" s_L_put_bad)(Ake:FnIs K "_law_due" s_L_due)(Akf:FnIs K "_law_which" s_L_which)(Akg:FnIs K "_law_said" s_L_said)(Akh:FnIs K "_law_right" s_L_right){f:Addr}{fd:FuncData}(F:Fun K "law" "law" s_law f fd):FnOk P w K mg base CX0 18 f fd Ug (liftSp K (Li [(T0,qL),(T1,qC)])):=by
 obtain⟨C,aS,fi,fdi,T,MC,FI⟩:=T.ex;have F_Chart:FnOk P w K mg base CX0 1 fi fdi Bf (liftSp K (Lj C)):=Zf FI T.toSy;obtain⟨fo,fdo,c0,FO,ao,kpo,hfc,hC⟩:=J_in_order.ex;have Aie:Def P w K mg base CX0 1 "in_order" p_in_order (spOrder T0 qL):=⟨fo,fdo,Wx FO T.toNums hfc hC,W.mg_of X G ao,kpo,Ow fo fdo FO⟩;have Ah2:Def P w K mg base CX0 1 "_law_cell" p_L_cell spCell:=An Ai7 X G Tx fun f fd F=>Zl F T.toBlt;have Ah3:Def P w K mg base CX0 1 "_law_mix" Ed M5:=An Ai8 X G Xq fun f fd F=>Adg F T.toBlt;have Ai5:Def P w K mg base CX0 2 "_law_box" p_L_box spBox:=An Ai9 X G Xs fun f fd F=>Adl F T.toBlt Ah2 Ah3;have Ahw:Def P w K mg base CX0 1 "_law_take" p_L_take spTake:=An Aja X G Tu fun f fd F=>Za F T.toBlt;have Ahx:Def P w K mg base CX0 1 "is_whole_within" p_is_whole_within spWhole:=An Ajb X G Ey fun f fd F=>Wp F T.toNums;have Ahz:Def P w K mg base CX0 2 "are_rising_within" Ap Dz:=An Ajc X G Ea fun f fd F=>Sw F T.toNums Ahx;have Ah4:Def P w K mg base CX0 3 "are_rows" Ce Lh:=An Ajd X G Oz fun f fd F=>Zd F T.toNums Ahz;have Ah5:Def P w K mg base CX0 4 "is_channel" Br Lk:=An Aje X G Kd fun f fd F=>Zk F T.toNums Ah4;have Aiq:Def P w K mg base CX0 5 "check_channel" p_check_channel spCheckC:=An Ajf X G Ha fun f fd F=>S0 F T.toNums Ah5;have Ah6:Def P w K mg base CX0 2 "is_depth" Cc (Dm 0 9):=An Ajg X G Ov fun f fd F=>W0 F T.toNums Ahx;have Ah9:Def P w K mg base CX0 2 "is_draught" Bq (Dm 1 9):=An Ajh X G Kc fun f fd F=>P8 F T.toNums Ahx;have Aia:Def P w K mg base CX0 2 "is_day" C9 (Dm 0 400):=An Aji X G Tt fun f fd F=>Adj F T.toNums Ahx;have Ah7:Def P w K mg base CX0 3 "is_column" Bu Qy:=An Ajj X G Ms fun f fd F=>Adk F T.toNums Ah6;have Ah8:Def P w K mg base CX0 4 "is_sea" C7 Lg:=An Ajk X G Tr fun f fd F=>Zb F T.toNums Ah7;have Aic:Def P w K mg base (CX1 P w) 5 "check_sea" Bw (Dl CS):=B2 Ajl X G Mu fun f fd F=>Oi F T.toNums B.s.exk Ah8;have Ain:Def P w K mg base (CX1 P w) 3 "check_draught" p_check_draught (spCheckN CD 1 9):=B2 Ajm X G Gz fun f fd F=>Ho F T.toNums B.d.exk Ah9;have Aih:Def P w K mg base CX0 3 "check_day" p_check_day (spChk 0 400):=An Ajn X G Mv fun f fd F=>Oj F T.toNums Aia;have Aib:Def P w K mg base CX0 1 "depth_at" Cd Gc:=An Ajo X G Ox fun f fd F=>P9 F T.toNums;have Aik:Def P w K mg base CX0 2 "is_shoal" p_is_shoal spShoal:=An Ajp X G Ot fun f fd F=>Wt F T.toNums Aib;have Air:Def P w K mg base CX0 2 "is_row" C8 Qx:=An Ajq X G Ts fun f fd F=>Ade F T.toNums Ahx;have Aig:Def P w K mg base CX0 2 "check_held" p_check_held (spChk 0 99):=An Ajr X G Ke fun f fd F=>Zg F T.toNums Ahx;have Aid:Def P w K mg base (CX1 P w) 6 "are_notices" Bh (L5 CS):=B2 Ajs X G Jx fun f fd F=>P7 F T.toNums Aic;have Aif:Def P w K mg base (CX1 P w) 7 "check_notices" p_check_notices (spNoneCX CS):=B2 Ajt X G Gy fun f fd F=>Hn F T.toNums HN Aid;have Aii:Def P w K mg base CX0 4 "chart_behind" Bc (Jf C T0 qL):=An Aju X G Hs fun f fd F=>S1 F T.toSy Aie MC F_Chart (Aab _ _ FI);have Aim:Def P w K mg base (CX1 P w) 9 "chart_of" p_chart_of (spChartX C CS T0 qL):=B2 Ajv X G Oy fun f fd F=>Qa F T.toSy Aif Aig Aih Aii;have Aij:Def P w K mg base CX0 1 "places_of" Bt (Je C):=An Ajw X G Mr fun f fd F=>Sx F T.toSy;have Ail:Def P w K mg base CX0 2 "marks_against" A5 Gd:=An Ajx X G Gv fun f fd F=>Qb F T.toSy;have Aio:Def P w K mg base CX0 2 "places_shown" p_places_shown (spShown C):=An Ajy X G Hr fun f fd F=>Ws F T.toSy Aij;have Aip:Def P w K mg base CX0 3 "free_rows" Bv Pg:=An Ajz X G Mt fun f fd F=>Zh F T.toSy Aik Ail;have Ais:Def P w K mg base (CX1 P w) 10 "channel_of" p_channel_of (spChannelX CS CD T0 qL):=B2 Aj0 X G Kf fun f fd F=>Mq F T.toSy Aim Ain Aio Aip;have Ait:Def P w K mg base CX0 6 "is_way" p_is_way spWayA:=An Aj1 X G Tq fun f fd F=>Adc F T.toNums Aiq Air;have Aiu:Def P w K mg base CX0 1 "edge_of" Cp Ph:=An Aj2 X G Ql fun f fd F=>Zj F T.toNums;have Ahy:Def P w K mg base (CX1 P w) 11 "lane_of" p_lane_of (spLaneX CS CD CF CU T0 qL):=B2 Aj3 X G Qk fun f fd F=>Ze F T B.f.exk B.u.exk Ais Ait Aiu;have Aix:Def P w K mg base (CX1 P w) 12 "keeps" p_keeps (spKeepsX CS CD CF CU CK T0 qL):=B2 Aj4 X G Xp fun f fd F=>Wz F T B.k.exk Ahy Ahz
 have Ah0:Def P w K mg base CX0 1 "columns_wanted" Aw Fm:=An Aj5 X G F1 fun f fd F=>Sv F T;have Aiy:Def P w K mg base (CX1 P w) 12 "least_columns" p_least_columns (spLeastX CS CD CF CU T0 qL):=B2 Aj6 X G Gw fun f fd F=>Wy F T Ahy Ah0;have Aiv:Def P w K mg base CX0 1 "can_be_wrong" Bd L3:=An Aj7 X G Ht fun f fd F=>Wo F T;have Ah1:Def P w K mg base CX0 2 "start_of_stretch" p_start_of_stretch spStart:=An Aj8 X G El fun f fd F=>Wr F T Aiv;have Aiw:Def P w K mg base CX0 3 "is_stretch" Bp Gb:=An Aj9 X G Kb fun f fd F=>P5 F T Ahx Ah1;have Aiz:Def P w K mg base (CX1 P w) 12 "is_paper" p_is_paper (spPaperX CS CD CF CU T0 qL):=B2 Aka X G Ou fun f fd F=>Ww F T Ahy Aiw;have Ai0:Def P w K mg base (CX1 P w) 12 "paper_of" Cb (Dk CS CD CF CU T0 qL):=B2 Akb X G Os fun f fd F=>P6 F T Ahy Ah1 Ah0;have Ai1:Def P w K mg base CX0 2 "_law_fair" p_L_fair spFair:=An Akc X G Tw fun f fd F=>Zi F T.toBlt Ahw;have Ai2:Def P w K mg base CX0 2 "_law_put_bad" p_L_put_bad spPut:=An Akd X G Mw fun f fd F=>Adf F T.toNums Ahw;have Ai4:Def P w K mg base CX0 1 "_law_due" Ee Ub:=An Ake X G Xr fun f fd F=>Adi F T.toNums;obtain⟨fw,fdw,FW,aw,kw⟩:=Akf.ex;obtain⟨fs,fds,FS,as,ks⟩:=Akg.ex;obtain⟨tm,hm1,hm2⟩:=Mk.mro;have S:Said P w K mg base 15 14 "_law_said" M (Be K tbl):=Zc (k:=14) (kr:=14) FS Mk.exk (W.mg_of X G Mk.exk.nm) hm1 hm2 (Wq FW T.toBlt Z) (W.mg_of X G aw) kw (Qm _ _ FW) (by decide) (Nat.le_refl _) (W.mg_of X G as) (Tv _ _ FS)
 obtain⟨fr,fdr,c1,FR,ar,kr,hr1,hr2⟩:=J_L_calls.ex;have Ai3:Def P w K mg base CX0 16 "_law_calls" p_L_calls (spCalls T0 T1 qL):=⟨fr,fdr,W1 FR T.toNums hr1 hr2 B S Aix Aiy Aiz Ai0,W.mg_of X G ar,kr,Qo _ _ FR⟩;have Ai6:Def P w K mg base CX0 17 "_law_right" Cq (L4 T0 T1 qL):=An Akh X G Qn fun f fd F=>Wv F T.toNums Ahw Ai1 Ai2 Ai3 Ai4;exact Adh F T.toNums Ai5 Ai6
end
end K2
open PySem PySem.W PyProof.Rows L2 D3
set_option maxRecDepth 100000 in
set_option maxHeartbeats 0 in
theorem PySem.Challenge.cw_laidmarks_k45_fairways_refused_holds : PySem.Challenge.rw_laidmarks_k45_fairways_refused.Holds := by
  w_on;o_law;k_head;(case hw=>w_witness2)
  k_fill
  refine D3.Vp (l:=PySem.Challenge.rw_laidmarks_k45_fairways_refused) (n:=63) (k:=18) (x:="_law_script") (ts:=[575,773]) (CX:=CX0) (sp:=fun K=>liftSp K (Li [(575,K2.qL),(773,K2.qC)])) ?I rfl (by decide) rfl ⟨rfl,by decide,by decide,rfl⟩ (fun w h Y=>⟨W.km_in_of Y,fun T hT=>W.km_tabs_of Y T (by (rcases List.mem_cons.mp hT with hT | hT;(subst hT;decide);obtain hT:=List.mem_singleton.mp hT;subst hT;decide))⟩) ?C ?F (Zu [(575,K2.qL),(773,K2.qC)] (by decide)) (fun _ _ _ _ z=>z)
  case I=>first | rfl | decide
  case C=>
    intro w h KX T hT;rcases List.mem_cons.mp hT with hT | hT
    · subst hT
      have J_in_order:K2.LamIs (KOf KX) "in_order" K2.s_in_order 575:=by (dsimp only [KOf];refine' K2.Fp ?a ?l ?c ?k ?t;(case a=>k_is);(case l=>k_is);(case c=>k_is);(case k=>k_is);(case t=>kernel_rfl))
      obtain ⟨_,_,c0,_,_,_,_,hc⟩:=J_in_order.ex;exact ⟨⟨c0,hc⟩,by kernel_rfl⟩
    · obtain hT:=List.mem_singleton.mp hT;subst hT
      have J_L_calls:K2.LamIs (KOf KX) "_law_calls" K2.s_L_calls 773:=by (dsimp only [KOf];refine' K2.Fp ?a ?l ?c ?k ?t;(case a=>k_is);(case l=>k_is);(case c=>k_is);(case k=>k_is);(case t=>kernel_rfl))
      obtain ⟨_,_,c0,_,_,_,_,hc⟩:=J_L_calls.ex;exact ⟨⟨c0,hc⟩,by kernel_rfl⟩
  case F=>
    intro w mg fa h KX G hmg;have Ai7:FnIs (KOf KX) "_law_cell" K2.s_L_cell:=by (dsimp only [KOf];refine' Af ?a ?l ?c ?k;(case a=>k_is);(case l=>k_is);(case c=>k_is);(case k=>k_is))
    have Ai8:FnIs (KOf KX) "_law_mix" K2.s_L_mix:=by (dsimp only [KOf];refine' Af ?a ?l ?c ?k;(case a=>k_is);(case l=>k_is);(case c=>k_is);(case k=>k_is))
    have Ai9:FnIs (KOf KX) "_law_box" K2.s_L_box:=by (dsimp only [KOf];refine' Af ?a ?l ?c ?k;(case a=>k_is);(case l=>k_is);(case c=>k_is);(case k=>k_is))
    have Aja:FnIs (KOf KX) "_law_take" K2.s_L_take:=by (dsimp only [KOf];refine' Af ?a ?l ?c ?k;(case a=>k_is);(case l=>k_is);(case c=>k_is);(case k=>k_is))
    have Ajb:FnIs (KOf KX) "is_whole_within" K2.s_is_whole_within:=by (dsimp only [KOf];refine' Af ?a ?l ?c ?k;(case a=>k_is);(case l=>k_is);(case c=>k_is);(case k=>k_is))
    have Ajc:FnIs (KOf KX) "are_rising_within" K2.s_are_rising_within:=by (dsimp only [KOf];refine' Af ?a ?l ?c ?k;(case a=>k_is);(case l=>k_is);(case c=>k_is);(case k=>k_is))
    have Ajd:FnIs (KOf KX) "are_rows" K2.s_are_rows:=by (dsimp only [KOf];refine' Af ?a ?l ?c ?k;(case a=>k_is);(case l=>k_is);(case c=>k_is);(case k=>k_is))
    have Aje:FnIs (KOf KX) "is_channel" K2.s_is_channel:=by (dsimp only [KOf];refine' Af ?a ?l ?c ?k;(case a=>k_is);(case l=>k_is);(case c=>k_is);(case k=>k_is))
    have Ajf:FnIs (KOf KX) "check_channel" K2.s_check_channel:=by (dsimp only [KOf];refine' Af ?a ?l ?c ?k;(case a=>k_is);(case l=>k_is);(case c=>k_is);(case k=>k_is))
    have Ajg:FnIs (KOf KX) "is_depth" K2.s_is_depth:=by (dsimp only [KOf];refine' Af ?a ?l ?c ?k;(case a=>k_is);(case l=>k_is);(case c=>k_is);(case k=>k_is))
    have Ajh:FnIs (KOf KX) "is_draught" K2.s_is_draught:=by (dsimp only [KOf];refine' Af ?a ?l ?c ?k;(case a=>k_is);(case l=>k_is);(case c=>k_is);(case k=>k_is))
    have Aji:FnIs (KOf KX) "is_day" K2.s_is_day:=by (dsimp only [KOf];refine' Af ?a ?l ?c ?k;(case a=>k_is);(case l=>k_is);(case c=>k_is);(case k=>k_is))
    have Ajj:FnIs (KOf KX) "is_column" K2.s_is_column:=by (dsimp only [KOf];refine' Af ?a ?l ?c ?k;(case a=>k_is);(case l=>k_is);(case c=>k_is);(case k=>k_is))
    have Ajk:FnIs (KOf KX) "is_sea" K2.s_is_sea:=by (dsimp only [KOf];refine' Af ?a ?l ?c ?k;(case a=>k_is);(case l=>k_is);(case c=>k_is);(case k=>k_is))
    have Ajl:FnIs (KOf KX) "check_sea" K2.s_check_sea:=by (dsimp only [KOf];refine' Af ?a ?l ?c ?k;(case a=>k_is);(case l=>k_is);(case c=>k_is);(case k=>k_is))
    have Ajm:FnIs (KOf KX) "check_draught" K2.s_check_draught:=by (dsimp only [KOf];refine' Af ?a ?l ?c ?k;(case a=>k_is);(case l=>k_is);(case c=>k_is);(case k=>k_is))
    have Ajn:FnIs (KOf KX) "check_day" K2.s_check_day:=by (dsimp only [KOf];refine' Af ?a ?l ?c ?k;(case a=>k_is);(case l=>k_is);(case c=>k_is);(case k=>k_is))
    have Ajo:FnIs (KOf KX) "depth_at" K2.s_depth_at:=by (dsimp only [KOf];refine' Af ?a ?l ?c ?k;(case a=>k_is);(case l=>k_is);(case c=>k_is);(case k=>k_is))
    have Ajp:FnIs (KOf KX) "is_shoal" K2.s_is_shoal:=by (dsimp only [KOf];refine' Af ?a ?l ?c ?k;(case a=>k_is);(case l=>k_is);(case c=>k_is);(case k=>k_is))
    have Ajq:FnIs (KOf KX) "is_row" K2.s_is_row:=by (dsimp only [KOf];refine' Af ?a ?l ?c ?k;(case a=>k_is);(case l=>k_is);(case c=>k_is);(case k=>k_is))
    have Ajr:FnIs (KOf KX) "check_held" K2.s_check_held:=by (dsimp only [KOf];refine' Af ?a ?l ?c ?k;(case a=>k_is);(case l=>k_is);(case c=>k_is);(case k=>k_is))
    have Ajs:FnIs (KOf KX) "are_notices" K2.s_are_notices:=by (dsimp only [KOf];refine' Af ?a ?l ?c ?k;(case a=>k_is);(case l=>k_is);(case c=>k_is);(case k=>k_is))
    have Ajt:FnIs (KOf KX) "check_notices" K2.s_check_notices:=by (dsimp only [KOf];refine' Af ?a ?l ?c ?k;(case a=>k_is);(case l=>k_is);(case c=>k_is);(case k=>k_is))
    have Aju:FnIs (KOf KX) "chart_behind" K2.s_chart_behind:=by (dsimp only [KOf];refine' Af ?a ?l ?c ?k;(case a=>k_is);(case l=>k_is);(case c=>k_is);(case k=>k_is))
    have Ajv:FnIs (KOf KX) "chart_of" K2.s_chart_of:=by (dsimp only [KOf];refine' Af ?a ?l ?c ?k;(case a=>k_is);(case l=>k_is);(case c=>k_is);(case k=>k_is))
    have Ajw:FnIs (KOf KX) "places_of" K2.s_places_of:=by (dsimp only [KOf];refine' Af ?a ?l ?c ?k;(case a=>k_is);(case l=>k_is);(case c=>k_is);(case k=>k_is))
    have Ajx:FnIs (KOf KX) "marks_against" K2.s_marks_against:=by (dsimp only [KOf];refine' Af ?a ?l ?c ?k;(case a=>k_is);(case l=>k_is);(case c=>k_is);(case k=>k_is))
    have Ajy:FnIs (KOf KX) "places_shown" K2.s_places_shown:=by (dsimp only [KOf];refine' Af ?a ?l ?c ?k;(case a=>k_is);(case l=>k_is);(case c=>k_is);(case k=>k_is))
    have Ajz:FnIs (KOf KX) "free_rows" K2.s_free_rows:=by (dsimp only [KOf];refine' Af ?a ?l ?c ?k;(case a=>k_is);(case l=>k_is);(case c=>k_is);(case k=>k_is))
    have Aj0:FnIs (KOf KX) "channel_of" K2.s_channel_of:=by (dsimp only [KOf];refine' Af ?a ?l ?c ?k;(case a=>k_is);(case l=>k_is);(case c=>k_is);(case k=>k_is))
    have Aj1:FnIs (KOf KX) "is_way" K2.s_is_way:=by (dsimp only [KOf];refine' Af ?a ?l ?c ?k;(case a=>k_is);(case l=>k_is);(case c=>k_is);(case k=>k_is))
    have Aj2:FnIs (KOf KX) "edge_of" K2.s_edge_of:=by (dsimp only [KOf];refine' Af ?a ?l ?c ?k;(case a=>k_is);(case l=>k_is);(case c=>k_is);(case k=>k_is))
    have Aj3:FnIs (KOf KX) "lane_of" K2.s_lane_of:=by (dsimp only [KOf];refine' Af ?a ?l ?c ?k;(case a=>k_is);(case l=>k_is);(case c=>k_is);(case k=>k_is))
    have Aj4:FnIs (KOf KX) "keeps" K2.s_keeps:=by (dsimp only [KOf];refine' Af ?a ?l ?c ?k;(case a=>k_is);(case l=>k_is);(case c=>k_is);(case k=>k_is))
    have Aj5:FnIs (KOf KX) "columns_wanted" K2.s_columns_wanted:=by (dsimp only [KOf];refine' Af ?a ?l ?c ?k;(case a=>k_is);(case l=>k_is);(case c=>k_is);(case k=>k_is))
    have Aj6:FnIs (KOf KX) "least_columns" K2.s_least_columns:=by (dsimp only [KOf];refine' Af ?a ?l ?c ?k;(case a=>k_is);(case l=>k_is);(case c=>k_is);(case k=>k_is))
    have Aj7:FnIs (KOf KX) "can_be_wrong" K2.s_can_be_wrong:=by (dsimp only [KOf];refine' Af ?a ?l ?c ?k;(case a=>k_is);(case l=>k_is);(case c=>k_is);(case k=>k_is))
    have Aj8:FnIs (KOf KX) "start_of_stretch" K2.s_start_of_stretch:=by (dsimp only [KOf];refine' Af ?a ?l ?c ?k;(case a=>k_is);(case l=>k_is);(case c=>k_is);(case k=>k_is))
    have Aj9:FnIs (KOf KX) "is_stretch" K2.s_is_stretch:=by (dsimp only [KOf];refine' Af ?a ?l ?c ?k;(case a=>k_is);(case l=>k_is);(case c=>k_is);(case k=>k_is))
    have Aka:FnIs (KOf KX) "is_paper" K2.s_is_paper:=by (dsimp only [KOf];refine' Af ?a ?l ?c ?k;(case a=>k_is);(case l=>k_is);(case c=>k_is);(case k=>k_is))
    have Akb:FnIs (KOf KX) "paper_of" K2.s_paper_of:=by (dsimp only [KOf];refine' Af ?a ?l ?c ?k;(case a=>k_is);(case l=>k_is);(case c=>k_is);(case k=>k_is))
    have Akc:FnIs (KOf KX) "_law_fair" K2.s_L_fair:=by (dsimp only [KOf];refine' Af ?a ?l ?c ?k;(case a=>k_is);(case l=>k_is);(case c=>k_is);(case k=>k_is))
    have Akd:FnIs (KOf KX) "_law_put_bad" K2.s_L_put_bad:=by (dsimp only [KOf];refine' Af ?a ?l ?c ?k;(case a=>k_is);(case l=>k_is);(case c=>k_is);(case k=>k_is))
    have Ake:FnIs (KOf KX) "_law_due" K2.s_L_due:=by (dsimp only [KOf];refine' Af ?a ?l ?c ?k;(case a=>k_is);(case l=>k_is);(case c=>k_is);(case k=>k_is))
    have Akf:FnIs (KOf KX) "_law_which" K2.s_L_which:=by (dsimp only [KOf];refine' Af ?a ?l ?c ?k;(case a=>k_is);(case l=>k_is);(case c=>k_is);(case k=>k_is))
    have Akg:FnIs (KOf KX) "_law_said" K2.s_L_said:=by (dsimp only [KOf];refine' Af ?a ?l ?c ?k;(case a=>k_is);(case l=>k_is);(case c=>k_is);(case k=>k_is))
    have Akh:FnIs (KOf KX) "_law_right" K2.s_L_right:=by (dsimp only [KOf];refine' Af ?a ?l ?c ?k;(case a=>k_is);(case l=>k_is);(case c=>k_is);(case k=>k_is))
    have I_law:FnIs (KOf KX) "law" K2.s_law:=by (dsimp only [KOf];refine' Af ?a ?l ?c ?k;(case a=>k_is);(case l=>k_is);(case c=>k_is);(case k=>k_is))
    have J_in_order:K2.LamIs (KOf KX) "in_order" K2.s_in_order 575:=by (dsimp only [KOf];refine' K2.Fp ?a ?l ?c ?k ?t;(case a=>k_is);(case l=>k_is);(case c=>k_is);(case k=>k_is);(case t=>kernel_rfl))
    have J_L_calls:K2.LamIs (KOf KX) "_law_calls" K2.s_L_calls 773:=by (dsimp only [KOf];refine' K2.Fp ?a ?l ?c ?k ?t;(case a=>k_is);(case l=>k_is);(case c=>k_is);(case k=>k_is);(case t=>kernel_rfl))
    have B:K2.Blt mg:=by (refine' K2.Aeg KX G ?z0 ?z1 ?z2 ?z3 ?z4 ?z5 ?z6 ?z7 ?z8 ?z9 ?z10 ?z11 ?z12 ?z13 ?z14 ?z15 ?z16 ?z17 ?z18 ?z19 ?z20 ?z21;(case z0=>k_is);(case z1=>k_is);(case z2=>k_is);(case z3=>k_is);(case z4=>k_is);(case z5=>k_is);(case z6=>k_is);(case z7=>k_is);(case z8=>k_is);(case z9=>k_is);(case z10=>k_is);(case z11=>k_is);(case z12=>k_is);(case z13=>k_is);(case z14=>k_is);(case z15=>k_is);(case z16=>k_is);(case z17=>k_is);(case z18=>k_is);(case z19=>k_is);(case z20=>k_is);(case z21=>k_is))
    have N:K2.Nums mg:=by (refine' K2.Zn KX G B ?a0 ?a1 ?a2 ?a3 ?a4 ?a5 ?a6 ?a7 ?a8 ?a9 ?a10 ?a11;(case a0=>k_is);(case a1=>k_is);(case a2=>k_is);(case a3=>k_is);(case a4=>k_is);(case a5=>k_is);(case a6=>k_is);(case a7=>k_is);(case a8=>k_is);(case a9=>k_is);(case a10=>k_is);(case a11=>k_is))
    have T:K2.TopIs PySem.Challenge.rw_laidmarks_k45_fairways_refused.prog w (KOf KX) mg:=by (dsimp only [KOf];refine' K2.Abn KX G N ?aC ?c1 ?c2 ?c3 ?c4 ?n1 ?n2 ?n3 ?n4 ?m1 ?m2 ?m3 ?m4 ?l ?c ?k ?aD ?ld ?hne ?hk;(case aC=>k_is);(case c1=>k_is);(case c2=>k_is);(case c3=>k_is);(case c4=>k_is);(case n1=>k_is);(case n2=>k_is);(case n3=>k_is);(case n4=>k_is);(case m1=>k_is);(case m2=>k_is);(case m3=>k_is);(case m4=>k_is);(case l=>k_is);(case c=>k_is);(case k=>k_is);(case aD=>k_is);(case ld=>k_is);(case hne=>first | decide | kernel_rfl);(case hk=>exact .cons (.int _ _) (.cons (.int _ _) .nil)))
    have c_NoSea:K2.ClSeen (KOf KX) "NoSea" 37:=by (dsimp only [KOf];refine' K2.ClSeen.mk ?a ?b ?c;(case a=>k_is);(case b=>k_is);(case c=>k_is))
    have c_NoCell:K2.ClSeen (KOf KX) "NoCell" 49:=by (dsimp only [KOf];refine' K2.ClSeen.mk ?a ?b ?c;(case a=>k_is);(case b=>k_is);(case c=>k_is))
    have c_NoDraught:K2.ClSeen (KOf KX) "NoDraught" 61:=by (dsimp only [KOf];refine' K2.ClSeen.mk ?a ?b ?c;(case a=>k_is);(case b=>k_is);(case c=>k_is))
    have c_NoDay:K2.ClSeen (KOf KX) "NoDay" 73:=by (dsimp only [KOf];refine' K2.ClSeen.mk ?a ?b ?c;(case a=>k_is);(case b=>k_is);(case c=>k_is))
    have c_NoNotices:K2.ClSeen (KOf KX) "NoNotices" 85:=by (dsimp only [KOf];refine' K2.ClSeen.mk ?a ?b ?c;(case a=>k_is);(case b=>k_is);(case c=>k_is))
    have c_NoNumber:K2.ClSeen (KOf KX) "NoNumber" 97:=by (dsimp only [KOf];refine' K2.ClSeen.mk ?a ?b ?c;(case a=>k_is);(case b=>k_is);(case c=>k_is))
    have c_NoMark:K2.ClSeen (KOf KX) "NoMark" 109:=by (dsimp only [KOf];refine' K2.ClSeen.mk ?a ?b ?c;(case a=>k_is);(case b=>k_is);(case c=>k_is))
    have c_NoChannel:K2.ClSeen (KOf KX) "NoChannel" 121:=by (dsimp only [KOf];refine' K2.ClSeen.mk ?a ?b ?c;(case a=>k_is);(case b=>k_is);(case c=>k_is))
    have c_NoSightings:K2.ClSeen (KOf KX) "NoSightings" 133:=by (dsimp only [KOf];refine' K2.ClSeen.mk ?a ?b ?c;(case a=>k_is);(case b=>k_is);(case c=>k_is))
    have c_NoFairway:K2.ClSeen (KOf KX) "NoFairway" 145:=by (dsimp only [KOf];refine' K2.ClSeen.mk ?a ?b ?c;(case a=>k_is);(case b=>k_is);(case c=>k_is))
    have c_NoSide:K2.ClSeen (KOf KX) "NoSide" 157:=by (dsimp only [KOf];refine' K2.ClSeen.mk ?a ?b ?c;(case a=>k_is);(case b=>k_is);(case c=>k_is))
    have c_NoColumns:K2.ClSeen (KOf KX) "NoColumns" 169:=by (dsimp only [KOf];refine' K2.ClSeen.mk ?a ?b ?c;(case a=>k_is);(case b=>k_is);(case c=>k_is))
    have c_NoLine:K2.ClSeen (KOf KX) "NoLine" 181:=by (dsimp only [KOf];refine' K2.ClSeen.mk ?a ?b ?c;(case a=>k_is);(case b=>k_is);(case c=>k_is))
    have c_There:K2.ClSeen (KOf KX) "There" 193:=by (dsimp only [KOf];refine' K2.ClSeen.mk ?a ?b ?c;(case a=>k_is);(case b=>k_is);(case c=>k_is))
    have c_Nothing:K2.ClSeen (KOf KX) "Nothing" 205:=by (dsimp only [KOf];refine' K2.ClSeen.mk ?a ?b ?c;(case a=>k_is);(case b=>k_is);(case c=>k_is))
    have c_Unlike:K2.ClSeen (KOf KX) "Unlike" 224:=by (dsimp only [KOf];refine' K2.ClSeen.mk ?a ?b ?c;(case a=>k_is);(case b=>k_is);(case c=>k_is))
    have c_NoText:K2.ClSeen (KOf KX) "NoText" 243:=by (dsimp only [KOf];refine' K2.ClSeen.mk ?a ?b ?c;(case a=>k_is);(case b=>k_is);(case c=>k_is))
    have c_TooMany:K2.ClSeen (KOf KX) "TooMany" 262:=by (dsimp only [KOf];refine' K2.ClSeen.mk ?a ?b ?c;(case a=>k_is);(case b=>k_is);(case c=>k_is))
    have Z:K2.Cls (KOf KX) mg [("NoSea",37),("NoCell",49),("NoDraught",61),("NoDay",73),("NoNotices",85),("NoNumber",97),("NoMark",109),("NoChannel",121),("NoSightings",133),("NoFairway",145),("NoSide",157),("NoColumns",169),("NoLine",181),("There",193),("Nothing",205),("Unlike",224),("NoText",243),("TooMany",262)]:=K2.Aeb KX G rfl ⟨c_NoSea,c_NoCell,c_NoDraught,c_NoDay,c_NoNotices,c_NoNumber,c_NoMark,c_NoChannel,c_NoSightings,c_NoFairway,c_NoSide,c_NoColumns,c_NoLine,c_There,c_Nothing,c_Unlike,c_NoText,c_TooMany,trivial⟩;have mS_NoSea:W.mroIn (KOf KX) 37 (.ref 37)=some true:=by (dsimp only [KOf];k_is)
    have mS_NoCell:W.mroIn (KOf KX) 37 (.ref 49)=some false:=by (dsimp only [KOf];k_is)
    have mS_NoDraught:W.mroIn (KOf KX) 37 (.ref 61)=some false:=by (dsimp only [KOf];k_is)
    have mS_NoDay:W.mroIn (KOf KX) 37 (.ref 73)=some false:=by (dsimp only [KOf];k_is)
    have mS_NoNotices:W.mroIn (KOf KX) 37 (.ref 85)=some false:=by (dsimp only [KOf];k_is)
    have mS_NoNumber:W.mroIn (KOf KX) 37 (.ref 97)=some false:=by (dsimp only [KOf];k_is)
    have mS_NoMark:W.mroIn (KOf KX) 37 (.ref 109)=some false:=by (dsimp only [KOf];k_is)
    have mS_NoChannel:W.mroIn (KOf KX) 37 (.ref 121)=some false:=by (dsimp only [KOf];k_is)
    have mS_NoSightings:W.mroIn (KOf KX) 37 (.ref 133)=some false:=by (dsimp only [KOf];k_is)
    have mS_NoFairway:W.mroIn (KOf KX) 37 (.ref 145)=some false:=by (dsimp only [KOf];k_is)
    have mS_NoSide:W.mroIn (KOf KX) 37 (.ref 157)=some false:=by (dsimp only [KOf];k_is)
    have mS_NoColumns:W.mroIn (KOf KX) 37 (.ref 169)=some false:=by (dsimp only [KOf];k_is)
    have mS_NoLine:W.mroIn (KOf KX) 37 (.ref 181)=some false:=by (dsimp only [KOf];k_is)
    have mS_There:W.mroIn (KOf KX) 37 (.ref 193)=some false:=by (dsimp only [KOf];k_is)
    have mS_Nothing:W.mroIn (KOf KX) 37 (.ref 205)=some false:=by (dsimp only [KOf];k_is)
    have mS_Unlike:W.mroIn (KOf KX) 37 (.ref 224)=some false:=by (dsimp only [KOf];k_is)
    have mS_NoText:W.mroIn (KOf KX) 37 (.ref 243)=some false:=by (dsimp only [KOf];k_is)
    have mS_TooMany:W.mroIn (KOf KX) 37 (.ref 262)=some false:=by (dsimp only [KOf];k_is)
    have ES:K2.ExKind (KOf KX) [("NoSea",37),("NoCell",49),("NoDraught",61),("NoDay",73),("NoNotices",85),("NoNumber",97),("NoMark",109),("NoChannel",121),("NoSightings",133),("NoFairway",145),("NoSide",157),("NoColumns",169),("NoLine",181),("There",193),("Nothing",205),("Unlike",224),("NoText",243),("TooMany",262)] 37 0:=by (refine' K2.Fh rfl (by decide) ?a ?b ?c ?d ?e ?f ⟨mS_NoSea,mS_NoCell,mS_NoDraught,mS_NoDay,mS_NoNotices,mS_NoNumber,mS_NoMark,mS_NoChannel,mS_NoSightings,mS_NoFairway,mS_NoSide,mS_NoColumns,mS_NoLine,mS_There,mS_Nothing,mS_Unlike,mS_NoText,mS_TooMany,trivial⟩ ⟨(fun _=>rfl),(fun z=>absurd z (by decide)),(fun z=>absurd z (by decide)),(fun z=>absurd z (by decide)),(fun z=>absurd z (by decide)),(fun z=>absurd z (by decide)),(fun z=>absurd z (by decide)),(fun z=>absurd z (by decide)),(fun z=>absurd z (by decide)),(fun z=>absurd z (by decide)),(fun z=>absurd z (by decide)),(fun z=>absurd z (by decide)),(fun z=>absurd z (by decide)),(fun z=>absurd z (by decide)),(fun z=>absurd z (by decide)),(fun z=>absurd z (by decide)),(fun z=>absurd z (by decide)),(fun z=>absurd z (by decide)),trivial⟩;(case a=>(dsimp only [KOf];k_is));(case b=>(dsimp only [KOf];k_is));(case c=>(dsimp only [KOf];k_is));(case d=>(dsimp only [KOf];k_is));(case e=>(dsimp only [KOf];k_is));(case f=>(dsimp only [KOf];k_is)))
    have hNS:∃tl,D3.mroK (KOf KX) 37=some (.ref 37::tl)∧(Value.ref 37::tl).contains (.ref 24)=true:=by (dsimp only [KOf];refine' ⟨_,K2.F6 ?l ?e,?c⟩;(case l=>k_is);(case e=>rfl);(case c=>decide))
    have BS:K2.Chx (KOf KX) [("NoSea",37),("NoCell",49),("NoDraught",61),("NoDay",73),("NoNotices",85),("NoNumber",97),("NoMark",109),("NoChannel",121),("NoSightings",133),("NoFairway",145),("NoSide",157),("NoColumns",169),("NoLine",181),("There",193),("Nothing",205),("Unlike",224),("NoText",243),("TooMany",262)] 24 37 "NoSea" 0:=⟨⟨by (dsimp only [KOf];k_is),by (dsimp only [KOf];k_exc)⟩,hNS,ES⟩
    have mD_NoSea:W.mroIn (KOf KX) 61 (.ref 37)=some false:=by (dsimp only [KOf];k_is)
    have mD_NoCell:W.mroIn (KOf KX) 61 (.ref 49)=some false:=by (dsimp only [KOf];k_is)
    have mD_NoDraught:W.mroIn (KOf KX) 61 (.ref 61)=some true:=by (dsimp only [KOf];k_is)
    have mD_NoDay:W.mroIn (KOf KX) 61 (.ref 73)=some false:=by (dsimp only [KOf];k_is)
    have mD_NoNotices:W.mroIn (KOf KX) 61 (.ref 85)=some false:=by (dsimp only [KOf];k_is)
    have mD_NoNumber:W.mroIn (KOf KX) 61 (.ref 97)=some false:=by (dsimp only [KOf];k_is)
    have mD_NoMark:W.mroIn (KOf KX) 61 (.ref 109)=some false:=by (dsimp only [KOf];k_is)
    have mD_NoChannel:W.mroIn (KOf KX) 61 (.ref 121)=some false:=by (dsimp only [KOf];k_is)
    have mD_NoSightings:W.mroIn (KOf KX) 61 (.ref 133)=some false:=by (dsimp only [KOf];k_is)
    have mD_NoFairway:W.mroIn (KOf KX) 61 (.ref 145)=some false:=by (dsimp only [KOf];k_is)
    have mD_NoSide:W.mroIn (KOf KX) 61 (.ref 157)=some false:=by (dsimp only [KOf];k_is)
    have mD_NoColumns:W.mroIn (KOf KX) 61 (.ref 169)=some false:=by (dsimp only [KOf];k_is)
    have mD_NoLine:W.mroIn (KOf KX) 61 (.ref 181)=some false:=by (dsimp only [KOf];k_is)
    have mD_There:W.mroIn (KOf KX) 61 (.ref 193)=some false:=by (dsimp only [KOf];k_is)
    have mD_Nothing:W.mroIn (KOf KX) 61 (.ref 205)=some false:=by (dsimp only [KOf];k_is)
    have mD_Unlike:W.mroIn (KOf KX) 61 (.ref 224)=some false:=by (dsimp only [KOf];k_is)
    have mD_NoText:W.mroIn (KOf KX) 61 (.ref 243)=some false:=by (dsimp only [KOf];k_is)
    have mD_TooMany:W.mroIn (KOf KX) 61 (.ref 262)=some false:=by (dsimp only [KOf];k_is)
    have ED:K2.ExKind (KOf KX) [("NoSea",37),("NoCell",49),("NoDraught",61),("NoDay",73),("NoNotices",85),("NoNumber",97),("NoMark",109),("NoChannel",121),("NoSightings",133),("NoFairway",145),("NoSide",157),("NoColumns",169),("NoLine",181),("There",193),("Nothing",205),("Unlike",224),("NoText",243),("TooMany",262)] 61 2:=by (refine' K2.Fh rfl (by decide) ?a ?b ?c ?d ?e ?f ⟨mD_NoSea,mD_NoCell,mD_NoDraught,mD_NoDay,mD_NoNotices,mD_NoNumber,mD_NoMark,mD_NoChannel,mD_NoSightings,mD_NoFairway,mD_NoSide,mD_NoColumns,mD_NoLine,mD_There,mD_Nothing,mD_Unlike,mD_NoText,mD_TooMany,trivial⟩ ⟨(fun z=>absurd z (by decide)),(fun z=>absurd z (by decide)),(fun _=>rfl),(fun z=>absurd z (by decide)),(fun z=>absurd z (by decide)),(fun z=>absurd z (by decide)),(fun z=>absurd z (by decide)),(fun z=>absurd z (by decide)),(fun z=>absurd z (by decide)),(fun z=>absurd z (by decide)),(fun z=>absurd z (by decide)),(fun z=>absurd z (by decide)),(fun z=>absurd z (by decide)),(fun z=>absurd z (by decide)),(fun z=>absurd z (by decide)),(fun z=>absurd z (by decide)),(fun z=>absurd z (by decide)),(fun z=>absurd z (by decide)),trivial⟩;(case a=>(dsimp only [KOf];k_is));(case b=>(dsimp only [KOf];k_is));(case c=>(dsimp only [KOf];k_is));(case d=>(dsimp only [KOf];k_is));(case e=>(dsimp only [KOf];k_is));(case f=>(dsimp only [KOf];k_is)))
    have hND:∃tl,D3.mroK (KOf KX) 61=some (.ref 61::tl)∧(Value.ref 61::tl).contains (.ref 24)=true:=by (dsimp only [KOf];refine' ⟨_,K2.F6 ?l ?e,?c⟩;(case l=>k_is);(case e=>rfl);(case c=>decide))
    have BD:K2.Chx (KOf KX) [("NoSea",37),("NoCell",49),("NoDraught",61),("NoDay",73),("NoNotices",85),("NoNumber",97),("NoMark",109),("NoChannel",121),("NoSightings",133),("NoFairway",145),("NoSide",157),("NoColumns",169),("NoLine",181),("There",193),("Nothing",205),("Unlike",224),("NoText",243),("TooMany",262)] 24 61 "NoDraught" 2:=⟨⟨by (dsimp only [KOf];k_is),by (dsimp only [KOf];k_exc)⟩,hND,ED⟩
    have mF_NoSea:W.mroIn (KOf KX) 145 (.ref 37)=some false:=by (dsimp only [KOf];k_is)
    have mF_NoCell:W.mroIn (KOf KX) 145 (.ref 49)=some false:=by (dsimp only [KOf];k_is)
    have mF_NoDraught:W.mroIn (KOf KX) 145 (.ref 61)=some false:=by (dsimp only [KOf];k_is)
    have mF_NoDay:W.mroIn (KOf KX) 145 (.ref 73)=some false:=by (dsimp only [KOf];k_is)
    have mF_NoNotices:W.mroIn (KOf KX) 145 (.ref 85)=some false:=by (dsimp only [KOf];k_is)
    have mF_NoNumber:W.mroIn (KOf KX) 145 (.ref 97)=some false:=by (dsimp only [KOf];k_is)
    have mF_NoMark:W.mroIn (KOf KX) 145 (.ref 109)=some false:=by (dsimp only [KOf];k_is)
    have mF_NoChannel:W.mroIn (KOf KX) 145 (.ref 121)=some false:=by (dsimp only [KOf];k_is)
    have mF_NoSightings:W.mroIn (KOf KX) 145 (.ref 133)=some false:=by (dsimp only [KOf];k_is)
    have mF_NoFairway:W.mroIn (KOf KX) 145 (.ref 145)=some true:=by (dsimp only [KOf];k_is)
    have mF_NoSide:W.mroIn (KOf KX) 145 (.ref 157)=some false:=by (dsimp only [KOf];k_is)
    have mF_NoColumns:W.mroIn (KOf KX) 145 (.ref 169)=some false:=by (dsimp only [KOf];k_is)
    have mF_NoLine:W.mroIn (KOf KX) 145 (.ref 181)=some false:=by (dsimp only [KOf];k_is)
    have mF_There:W.mroIn (KOf KX) 145 (.ref 193)=some false:=by (dsimp only [KOf];k_is)
    have mF_Nothing:W.mroIn (KOf KX) 145 (.ref 205)=some false:=by (dsimp only [KOf];k_is)
    have mF_Unlike:W.mroIn (KOf KX) 145 (.ref 224)=some false:=by (dsimp only [KOf];k_is)
    have mF_NoText:W.mroIn (KOf KX) 145 (.ref 243)=some false:=by (dsimp only [KOf];k_is)
    have mF_TooMany:W.mroIn (KOf KX) 145 (.ref 262)=some false:=by (dsimp only [KOf];k_is)
    have EF:K2.ExKind (KOf KX) [("NoSea",37),("NoCell",49),("NoDraught",61),("NoDay",73),("NoNotices",85),("NoNumber",97),("NoMark",109),("NoChannel",121),("NoSightings",133),("NoFairway",145),("NoSide",157),("NoColumns",169),("NoLine",181),("There",193),("Nothing",205),("Unlike",224),("NoText",243),("TooMany",262)] 145 9:=by (refine' K2.Fh rfl (by decide) ?a ?b ?c ?d ?e ?f ⟨mF_NoSea,mF_NoCell,mF_NoDraught,mF_NoDay,mF_NoNotices,mF_NoNumber,mF_NoMark,mF_NoChannel,mF_NoSightings,mF_NoFairway,mF_NoSide,mF_NoColumns,mF_NoLine,mF_There,mF_Nothing,mF_Unlike,mF_NoText,mF_TooMany,trivial⟩ ⟨(fun z=>absurd z (by decide)),(fun z=>absurd z (by decide)),(fun z=>absurd z (by decide)),(fun z=>absurd z (by decide)),(fun z=>absurd z (by decide)),(fun z=>absurd z (by decide)),(fun z=>absurd z (by decide)),(fun z=>absurd z (by decide)),(fun z=>absurd z (by decide)),(fun _=>rfl),(fun z=>absurd z (by decide)),(fun z=>absurd z (by decide)),(fun z=>absurd z (by decide)),(fun z=>absurd z (by decide)),(fun z=>absurd z (by decide)),(fun z=>absurd z (by decide)),(fun z=>absurd z (by decide)),(fun z=>absurd z (by decide)),trivial⟩;(case a=>(dsimp only [KOf];k_is));(case b=>(dsimp only [KOf];k_is));(case c=>(dsimp only [KOf];k_is));(case d=>(dsimp only [KOf];k_is));(case e=>(dsimp only [KOf];k_is));(case f=>(dsimp only [KOf];k_is)))
    have hNF:∃tl,D3.mroK (KOf KX) 145=some (.ref 145::tl)∧(Value.ref 145::tl).contains (.ref 24)=true:=by (dsimp only [KOf];refine' ⟨_,K2.F6 ?l ?e,?c⟩;(case l=>k_is);(case e=>rfl);(case c=>decide))
    have BF:K2.Chx (KOf KX) [("NoSea",37),("NoCell",49),("NoDraught",61),("NoDay",73),("NoNotices",85),("NoNumber",97),("NoMark",109),("NoChannel",121),("NoSightings",133),("NoFairway",145),("NoSide",157),("NoColumns",169),("NoLine",181),("There",193),("Nothing",205),("Unlike",224),("NoText",243),("TooMany",262)] 24 145 "NoFairway" 9:=⟨⟨by (dsimp only [KOf];k_is),by (dsimp only [KOf];k_exc)⟩,hNF,EF⟩
    have mU_NoSea:W.mroIn (KOf KX) 157 (.ref 37)=some false:=by (dsimp only [KOf];k_is)
    have mU_NoCell:W.mroIn (KOf KX) 157 (.ref 49)=some false:=by (dsimp only [KOf];k_is)
    have mU_NoDraught:W.mroIn (KOf KX) 157 (.ref 61)=some false:=by (dsimp only [KOf];k_is)
    have mU_NoDay:W.mroIn (KOf KX) 157 (.ref 73)=some false:=by (dsimp only [KOf];k_is)
    have mU_NoNotices:W.mroIn (KOf KX) 157 (.ref 85)=some false:=by (dsimp only [KOf];k_is)
    have mU_NoNumber:W.mroIn (KOf KX) 157 (.ref 97)=some false:=by (dsimp only [KOf];k_is)
    have mU_NoMark:W.mroIn (KOf KX) 157 (.ref 109)=some false:=by (dsimp only [KOf];k_is)
    have mU_NoChannel:W.mroIn (KOf KX) 157 (.ref 121)=some false:=by (dsimp only [KOf];k_is)
    have mU_NoSightings:W.mroIn (KOf KX) 157 (.ref 133)=some false:=by (dsimp only [KOf];k_is)
    have mU_NoFairway:W.mroIn (KOf KX) 157 (.ref 145)=some false:=by (dsimp only [KOf];k_is)
    have mU_NoSide:W.mroIn (KOf KX) 157 (.ref 157)=some true:=by (dsimp only [KOf];k_is)
    have mU_NoColumns:W.mroIn (KOf KX) 157 (.ref 169)=some false:=by (dsimp only [KOf];k_is)
    have mU_NoLine:W.mroIn (KOf KX) 157 (.ref 181)=some false:=by (dsimp only [KOf];k_is)
    have mU_There:W.mroIn (KOf KX) 157 (.ref 193)=some false:=by (dsimp only [KOf];k_is)
    have mU_Nothing:W.mroIn (KOf KX) 157 (.ref 205)=some false:=by (dsimp only [KOf];k_is)
    have mU_Unlike:W.mroIn (KOf KX) 157 (.ref 224)=some false:=by (dsimp only [KOf];k_is)
    have mU_NoText:W.mroIn (KOf KX) 157 (.ref 243)=some false:=by (dsimp only [KOf];k_is)
    have mU_TooMany:W.mroIn (KOf KX) 157 (.ref 262)=some false:=by (dsimp only [KOf];k_is)
    have EU:K2.ExKind (KOf KX) [("NoSea",37),("NoCell",49),("NoDraught",61),("NoDay",73),("NoNotices",85),("NoNumber",97),("NoMark",109),("NoChannel",121),("NoSightings",133),("NoFairway",145),("NoSide",157),("NoColumns",169),("NoLine",181),("There",193),("Nothing",205),("Unlike",224),("NoText",243),("TooMany",262)] 157 10:=by (refine' K2.Fh rfl (by decide) ?a ?b ?c ?d ?e ?f ⟨mU_NoSea,mU_NoCell,mU_NoDraught,mU_NoDay,mU_NoNotices,mU_NoNumber,mU_NoMark,mU_NoChannel,mU_NoSightings,mU_NoFairway,mU_NoSide,mU_NoColumns,mU_NoLine,mU_There,mU_Nothing,mU_Unlike,mU_NoText,mU_TooMany,trivial⟩ ⟨(fun z=>absurd z (by decide)),(fun z=>absurd z (by decide)),(fun z=>absurd z (by decide)),(fun z=>absurd z (by decide)),(fun z=>absurd z (by decide)),(fun z=>absurd z (by decide)),(fun z=>absurd z (by decide)),(fun z=>absurd z (by decide)),(fun z=>absurd z (by decide)),(fun z=>absurd z (by decide)),(fun _=>rfl),(fun z=>absurd z (by decide)),(fun z=>absurd z (by decide)),(fun z=>absurd z (by decide)),(fun z=>absurd z (by decide)),(fun z=>absurd z (by decide)),(fun z=>absurd z (by decide)),(fun z=>absurd z (by decide)),trivial⟩;(case a=>(dsimp only [KOf];k_is));(case b=>(dsimp only [KOf];k_is));(case c=>(dsimp only [KOf];k_is));(case d=>(dsimp only [KOf];k_is));(case e=>(dsimp only [KOf];k_is));(case f=>(dsimp only [KOf];k_is)))
    have hNU:∃tl,D3.mroK (KOf KX) 157=some (.ref 157::tl)∧(Value.ref 157::tl).contains (.ref 24)=true:=by (dsimp only [KOf];refine' ⟨_,K2.F6 ?l ?e,?c⟩;(case l=>k_is);(case e=>rfl);(case c=>decide))
    have BU:K2.Chx (KOf KX) [("NoSea",37),("NoCell",49),("NoDraught",61),("NoDay",73),("NoNotices",85),("NoNumber",97),("NoMark",109),("NoChannel",121),("NoSightings",133),("NoFairway",145),("NoSide",157),("NoColumns",169),("NoLine",181),("There",193),("Nothing",205),("Unlike",224),("NoText",243),("TooMany",262)] 24 157 "NoSide" 10:=⟨⟨by (dsimp only [KOf];k_is),by (dsimp only [KOf];k_exc)⟩,hNU,EU⟩
    have mK_NoSea:W.mroIn (KOf KX) 169 (.ref 37)=some false:=by (dsimp only [KOf];k_is)
    have mK_NoCell:W.mroIn (KOf KX) 169 (.ref 49)=some false:=by (dsimp only [KOf];k_is)
    have mK_NoDraught:W.mroIn (KOf KX) 169 (.ref 61)=some false:=by (dsimp only [KOf];k_is)
    have mK_NoDay:W.mroIn (KOf KX) 169 (.ref 73)=some false:=by (dsimp only [KOf];k_is)
    have mK_NoNotices:W.mroIn (KOf KX) 169 (.ref 85)=some false:=by (dsimp only [KOf];k_is)
    have mK_NoNumber:W.mroIn (KOf KX) 169 (.ref 97)=some false:=by (dsimp only [KOf];k_is)
    have mK_NoMark:W.mroIn (KOf KX) 169 (.ref 109)=some false:=by (dsimp only [KOf];k_is)
    have mK_NoChannel:W.mroIn (KOf KX) 169 (.ref 121)=some false:=by (dsimp only [KOf];k_is)
    have mK_NoSightings:W.mroIn (KOf KX) 169 (.ref 133)=some false:=by (dsimp only [KOf];k_is)
    have mK_NoFairway:W.mroIn (KOf KX) 169 (.ref 145)=some false:=by (dsimp only [KOf];k_is)
    have mK_NoSide:W.mroIn (KOf KX) 169 (.ref 157)=some false:=by (dsimp only [KOf];k_is)
    have mK_NoColumns:W.mroIn (KOf KX) 169 (.ref 169)=some true:=by (dsimp only [KOf];k_is)
    have mK_NoLine:W.mroIn (KOf KX) 169 (.ref 181)=some false:=by (dsimp only [KOf];k_is)
    have mK_There:W.mroIn (KOf KX) 169 (.ref 193)=some false:=by (dsimp only [KOf];k_is)
    have mK_Nothing:W.mroIn (KOf KX) 169 (.ref 205)=some false:=by (dsimp only [KOf];k_is)
    have mK_Unlike:W.mroIn (KOf KX) 169 (.ref 224)=some false:=by (dsimp only [KOf];k_is)
    have mK_NoText:W.mroIn (KOf KX) 169 (.ref 243)=some false:=by (dsimp only [KOf];k_is)
    have mK_TooMany:W.mroIn (KOf KX) 169 (.ref 262)=some false:=by (dsimp only [KOf];k_is)
    have EK:K2.ExKind (KOf KX) [("NoSea",37),("NoCell",49),("NoDraught",61),("NoDay",73),("NoNotices",85),("NoNumber",97),("NoMark",109),("NoChannel",121),("NoSightings",133),("NoFairway",145),("NoSide",157),("NoColumns",169),("NoLine",181),("There",193),("Nothing",205),("Unlike",224),("NoText",243),("TooMany",262)] 169 11:=by (refine' K2.Fh rfl (by decide) ?a ?b ?c ?d ?e ?f ⟨mK_NoSea,mK_NoCell,mK_NoDraught,mK_NoDay,mK_NoNotices,mK_NoNumber,mK_NoMark,mK_NoChannel,mK_NoSightings,mK_NoFairway,mK_NoSide,mK_NoColumns,mK_NoLine,mK_There,mK_Nothing,mK_Unlike,mK_NoText,mK_TooMany,trivial⟩ ⟨(fun z=>absurd z (by decide)),(fun z=>absurd z (by decide)),(fun z=>absurd z (by decide)),(fun z=>absurd z (by decide)),(fun z=>absurd z (by decide)),(fun z=>absurd z (by decide)),(fun z=>absurd z (by decide)),(fun z=>absurd z (by decide)),(fun z=>absurd z (by decide)),(fun z=>absurd z (by decide)),(fun z=>absurd z (by decide)),(fun _=>rfl),(fun z=>absurd z (by decide)),(fun z=>absurd z (by decide)),(fun z=>absurd z (by decide)),(fun z=>absurd z (by decide)),(fun z=>absurd z (by decide)),(fun z=>absurd z (by decide)),trivial⟩;(case a=>(dsimp only [KOf];k_is));(case b=>(dsimp only [KOf];k_is));(case c=>(dsimp only [KOf];k_is));(case d=>(dsimp only [KOf];k_is));(case e=>(dsimp only [KOf];k_is));(case f=>(dsimp only [KOf];k_is)))
    have hNK:∃tl,D3.mroK (KOf KX) 169=some (.ref 169::tl)∧(Value.ref 169::tl).contains (.ref 24)=true:=by (dsimp only [KOf];refine' ⟨_,K2.F6 ?l ?e,?c⟩;(case l=>k_is);(case e=>rfl);(case c=>decide))
    have BK:K2.Chx (KOf KX) [("NoSea",37),("NoCell",49),("NoDraught",61),("NoDay",73),("NoNotices",85),("NoNumber",97),("NoMark",109),("NoChannel",121),("NoSightings",133),("NoFairway",145),("NoSide",157),("NoColumns",169),("NoLine",181),("There",193),("Nothing",205),("Unlike",224),("NoText",243),("TooMany",262)] 24 169 "NoColumns" 11:=⟨⟨by (dsimp only [KOf];k_is),by (dsimp only [KOf];k_exc)⟩,hNK,EK⟩
    have hM:∃tl,D3.mroK (KOf KX) 24=some (.ref 24::tl)∧tl.contains (.type "BaseException")=true:=by (dsimp only [KOf];refine' ⟨_,K2.F6 ?l ?e,?c⟩;(case l=>k_is);(case e=>rfl);(case c=>decide))
    have HN:ExcK (KOf KX) "NoNotices" 85:=⟨by (dsimp only [KOf];k_is),by (dsimp only [KOf];k_exc)⟩
    have Mk:K2.MkIs (KOf KX) 24:=⟨⟨by (dsimp only [KOf];k_is),by (dsimp only [KOf];k_exc)⟩,hM⟩
    obtain ⟨f,fd,F,a,kp⟩:=I_law.ex;have e0:=hmg.symm.trans (W.mg_of KX G a);cases e0;obtain ⟨oc,od,kV,doc,pm,an,cdv,ct,osl,efd,lk,hcd⟩:=id F.ex;refine ⟨fd,fun s u=>by (subst efd;exact .of_eq rfl),fun base kb nb=>K2.Aei KX G T Z ⟨BS,BD,BF,BU,BK⟩ HN Mk J_in_order J_L_calls Ai7 Ai8 Ai9 Aja Ajb Ajc Ajd Aje Ajf Ajg Ajh Aji Ajj Ajk Ajl Ajm Ajn Ajo Ajp Ajq Ajr Ajs Ajt Aju Ajv Ajw Ajx Ajy Ajz Aj0 Aj1 Aj2 Aj3 Aj4 Aj5 Aj6 Aj7 Aj8 Aj9 Aka Akb Akc Akd Ake Akf Akg Akh F⟩

